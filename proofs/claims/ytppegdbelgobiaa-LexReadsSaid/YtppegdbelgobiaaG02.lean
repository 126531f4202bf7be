import Derived.Test.YtppegdbelgobiaaG00
import Derived.Test.YtppegdbelgobiaaG01
/- Part of the proof: Bb, Bc, Bd, Be. -/
set_option linter.unusedVariables false
set_option linter.unusedSimpArgs false
set_option linter.unusedSectionVars false
namespace Go.Proofs.Ytppegdbelgobiaa
open Go Go.RowKit Tw
abbrev TxO (B : Nat) := OV B 9 StrR
abbrev ElO (B : Nat) := OV B 43 (TxO B)
abbrev SgO (B : Nat) := OV B 37 (ElO B)
theorem TxO.keeps {B : Nat} : Keeps (TxO B) := OV.keeps StrR.keeps
theorem ElO.keeps {B : Nat} : Keeps (ElO B) := OV.keeps TxO.keeps
theorem SgO.keeps {B : Nat} : Keeps (SgO B) := OV.keeps ElO.keeps
theorem TxO.lv {B : Nat} : ∀ W v y, TxO B W v y → TxR W v y := OV.lv (fun _ _ _ h => h)
theorem ElO.lv {B : Nat} : ∀ W v y, ElO B W v y → ElR W v y := OV.lv TxO.lv
theorem SgO.lv {B : Nat} : ∀ W v y, SgO B W v y → SgR W v y := OV.lv ElO.lv
def mv (f : FuncId) (g : Nat) : Value := .func (.func f) #[.pointer (some ⟨g, 0, none⟩)] #[]
def RdV (W0 : Base) (g : Nat) (fn : Value) (segs : List Sgm) (es : List Elt) (cs : List Cmp) (c : Cmp) (K : List (Nat × Obj)) : Prop :=
  ∃ (p1 p2 p3 p4 : Option Addr) (n1 n2 n3 n4 c1 c2 c3 c4 : Nat) (x1 x2 x3 x4 : List Value) (K1 T1 K2 T2 K3 K4 : List (Nat × Obj)),
    n1 = segs.length ∧ n2 = es.length ∧ n3 = cs.length ∧ n4 = c.length ∧ x3 = cs.map strV ∧ x4 = u8s c ∧
    K = (g, .cells #[fn, .slice p1 n1 c1, .slice p2 n2 c2, .slice p3 n3 c3, .slice p4 n4 c4] 52 (0, 0)) :: (K1 ++ (T1 ++ (K2 ++ (T2 ++ (K3 ++ K4))))) ∧ W0.B ≤ g ∧
    OwnL W0 37 1 (.slice p1 n1 c1) n1 x1 K1 ∧ MkE (ElO W0.B) W0 x1 segs T1 ∧ OwnL W0 43 1 (.slice p2 n2 c2) n2 x2 K2 ∧ MkE (TxO W0.B) W0 x2 es T2 ∧
    OwnL W0 9 1 (.slice p3 n3 c3) n3 x3 K3 ∧ OwnL W0 5 1 (.slice p4 n4 c4) n4 x4 K4 ∧
    Dk g (K1 ++ (T1 ++ (K2 ++ (T2 ++ (K3 ++ K4))))) ∧ Dj K1 (T1 ++ (K2 ++ (T2 ++ (K3 ++ K4)))) ∧ Dj T1 (K2 ++ (T2 ++ (K3 ++ K4))) ∧ Dj K2 (T2 ++ (K3 ++ K4)) ∧ Dj T2 (K3 ++ K4) ∧ Dj K3 K4
def errAt {α : Type} : Res α → Nat
  | .ok _ => 0
  | .bad p _ => p
def errNo {α : Type} : Res α → Nat
  | .ok _ => 0
  | .bad _ e => e
def ansV {α : Type} (r : Res α) : Value := .tuple #[.int .i64 ((errAt r : Nat) : Int), .int .i64 ((errNo r : Nat) : Int)]
def RdO (W0 : Base) (g : Nat) (fn : Value) (segs : List Sgm) (es : List Elt) (cs : List Cmp) (c : Cmp) (R : List (Nat × Obj)) (v : Value) (K' : List (Nat × Obj)) : Prop :=
  v = .tuple #[] ∧ ∃ K2, K' = K2 ++ R ∧ RdV W0 g fn segs es cs c K2 ∧ Dj K2 R
def fnOf : Md → FuncId
  | .out => 25
  | .ins _ _ _ => 39
  | .rel _ _ _ _ => 53
def esOf : Md → List Elt
  | .out => []
  | .ins es _ _ => es
  | .rel _ es _ _ => es
def csOf : Md → List Cmp
  | .out => []
  | .ins _ cs _ => cs
  | .rel _ _ cs _ => cs
def cOf : Md → Cmp
  | .out => []
  | .ins _ _ c => c
  | .rel _ _ _ c => c
def RdS (W0 : Base) (g : Nat) (s : Sta) (K : List (Nat × Obj)) : Prop := RdV W0 g (mv (fnOf s.md) g) s.segs (esOf s.md) (csOf s.md) (cOf s.md) K
def Ans (W0 : Base) (g : Nat) (res : Res Sta) (R : List (Nat × Obj)) (v : Value) (K' : List (Nat × Obj)) : Prop :=
  v = ansV res ∧ ∃ K2, K' = K2 ++ R ∧ ∀ s', res = .ok s' → RdS W0 g s' K2 ∧ Dj K2 R
theorem el_strs : Elem Try.prog 43 9 1 16 (.string ⟨#[]⟩) := Elem.mk' Try.underlying43 (by kernel_rfl) rfl
theorem map_snoc {cs : List Cmp} {c : Cmp} : cs.map strV ++ [strV c] = (cs ++ [c]).map strV := by simp
theorem u8s_snoc {c : Cmp} {b : UInt8} {r : Nat} (h : r = b.toNat) : u8s c ++ [.int .u8 ((r : Nat) : Int)] = u8s (c ++ [b]) := by subst h; simp [u8s]
set_option maxRecDepth 100000 in
set_option maxHeartbeats 4000000 in
theorem endC_any {W0 : Base} {g : Nat} {fn : Value} {segs : List Sgm} {es : List Elt} {cs : List Cmp} {c : Cmp} {K R : List (Nat × Obj)} (hV : RdV W0 g fn segs es cs c K) (hR : Dj K R) (lc : cs.length ≤ 4000) (w : World) (hw : KS W0 (K ++ R) w) : Calls Try.prog 52 #[.pointer (some ⟨g, 0, none⟩)] w fun e w' => ∃ v K', e = .returned v ∧ KS W0 K' w' ∧ RdO W0 g fn segs es (cs ++ [c]) [] R v K' := by
  obtain ⟨p1, p2, p3, p4, _, _, _, _, c1, c2, c3, c4, x1, x2, _, _, K1, T1, K2, T2, K3, K4, rfl, rfl, rfl, rfl, rfl, rfl, rfl, hB, O1, E1, O2, E2, O3, O4, dg, d1, d2, d3, d4, d5⟩ := hV
  obtain ⟨dj1_0, dj1_1, dj1_2, dj1_3, dj1_4, dj1_5⟩ : Dk g K1 ∧ Dk g T1 ∧ Dk g K2 ∧ Dk g T2 ∧ Dk g K3 ∧ Dk g K4 := by simpa only [dj_app_l, dj_app_r, dj_cons_l, dj_cons_r, dj_nil_l, dj_nil_r, dk_app, dk_cons, dk_nil, and_true, true_and, and_assoc] using (show Dk g (K1 ++ (T1 ++ (K2 ++ (T2 ++ (K3 ++ K4))))) from dg)
  obtain ⟨dj2_0, dj2_1, dj2_2, dj2_3, dj2_4⟩ : Dj K1 T1 ∧ Dj K1 K2 ∧ Dj K1 T2 ∧ Dj K1 K3 ∧ Dj K1 K4 := by simpa only [dj_app_l, dj_app_r, dj_cons_l, dj_cons_r, dj_nil_l, dj_nil_r, dk_app, dk_cons, dk_nil, and_true, true_and, and_assoc] using (show Dj K1 (T1 ++ (K2 ++ (T2 ++ (K3 ++ K4)))) from d1)
  obtain ⟨dj3_0, dj3_1, dj3_2, dj3_3⟩ : Dj T1 K2 ∧ Dj T1 T2 ∧ Dj T1 K3 ∧ Dj T1 K4 := by simpa only [dj_app_l, dj_app_r, dj_cons_l, dj_cons_r, dj_nil_l, dj_nil_r, dk_app, dk_cons, dk_nil, and_true, true_and, and_assoc] using (show Dj T1 (K2 ++ (T2 ++ (K3 ++ K4))) from d2)
  obtain ⟨dj4_0, dj4_1, dj4_2⟩ : Dj K2 T2 ∧ Dj K2 K3 ∧ Dj K2 K4 := by simpa only [dj_app_l, dj_app_r, dj_cons_l, dj_cons_r, dj_nil_l, dj_nil_r, dk_app, dk_cons, dk_nil, and_true, true_and, and_assoc] using (show Dj K2 (T2 ++ (K3 ++ K4)) from d3)
  obtain ⟨dj5_0, dj5_1⟩ : Dj T2 K3 ∧ Dj T2 K4 := by simpa only [dj_app_l, dj_app_r, dj_cons_l, dj_cons_r, dj_nil_l, dj_nil_r, dk_app, dk_cons, dk_nil, and_true, true_and, and_assoc] using (show Dj T2 (K3 ++ K4) from d4)
  obtain dj6_0 : Dj K3 K4 := by simpa only [dj_app_l, dj_app_r, dj_cons_l, dj_cons_r, dj_nil_l, dj_nil_r, dk_app, dk_cons, dk_nil, and_true, true_and, and_assoc] using (show Dj K3 K4 from d5)
  obtain ⟨dj7_0, dj7_1, dj7_2, dj7_3, dj7_4, dj7_5, dj7_6⟩ : Dk g R ∧ Dj K1 R ∧ Dj T1 R ∧ Dj K2 R ∧ Dj T2 R ∧ Dj K3 R ∧ Dj K4 R := by simpa only [dj_app_l, dj_app_r, dj_cons_l, dj_cons_r, dj_nil_l, dj_nil_r, dk_app, dk_cons, dk_nil, and_true, true_and, and_assoc] using (show Dj ((g, .cells #[fn, .slice p1 segs.length c1, .slice p2 es.length c2, .slice p3 cs.length c3, .slice p4 c.length c4] 52 (0, 0)) :: (K1 ++ (T1 ++ (K2 ++ (T2 ++ (K3 ++ K4)))))) R from hR)
  go_enter Try.func52, Try.ntmps52
  refine wp_seq ?_
  refine wp_region_V (W0 := W0) ((g, .cells #[fn, .slice p1 segs.length c1, .slice p2 es.length c2, .slice p3 cs.length c3, .slice p4 c.length c4] 52 (0, 0)) :: (K1 ++ (T1 ++ (K2 ++ (T2 ++ (K3 ++ (K4 ++ R))))))) (by kernel_rfl) ((hw.sub (fun p hp => by simp only [List.mem_cons, List.mem_append, List.nil_append, List.not_mem_nil, or_assoc, or_false, false_or, List.cons_append, List.append_assoc] at hp ⊢ <;> grind))) ?_
  refine vm (i := 0) (v := .pointer (some ⟨g, 0, none⟩)) rfl rfl rfl ?_
  refine vm (i := 1) (v := .pointer (some ⟨g, 0, none⟩)) rfl rfl rfl ?_
  refine vm (i := 2) (v := .pointer (some ⟨g, 0, none⟩)) rfl rfl rfl ?_
  refine vm (i := 3) (v := .pointer (some ⟨g, 3, none⟩)) rfl rfl rfl ?_
  refine vv (i := 4) (v := .slice p3 cs.length c3) rfl rfl rfl (yb_cell (off := 3) rfl (by kernel_rfl) (.head _) Try.underlying43 rfl (by kernel_rfl)) ?_
  refine vm (i := 5) (v := .pointer (some ⟨g, 0, none⟩)) rfl rfl rfl ?_
  refine vm (i := 6) (v := .pointer (some ⟨g, 0, none⟩)) rfl rfl rfl ?_
  refine vm (i := 7) (v := .pointer (some ⟨g, 4, none⟩)) rfl rfl rfl ?_
  refine vv (i := 8) (v := .slice p4 c.length c4) rfl rfl rfl (yb_cell (off := 4) rfl (by kernel_rfl) (.head _) Try.underlying26 rfl (by kernel_rfl)) ?_
  refine vv (i := 9) (v := strV c) rfl rfl rfl (yb_strO (W0 := W0) (l := c) rfl Try.underlying26 Try.underlying5 Try.underlying9 (by kernel_rfl) O4 (fun p hp => by simp only [List.mem_cons, List.mem_append, List.nil_append, List.not_mem_nil, or_assoc, or_false, false_or, hp, or_true, true_or])) ?_
  refine wpV_ns (fun g => .slice (some ⟨g, 0, none⟩) 1 1) (i := 10) (obi := .cells #[strV c] 9 (0, 0)) rfl rfl rfl (by kernel_rfl) (fun _ => by kernel_rfl) (fun _ => by simp only [List.setIfInBounds_toArray, List.set_cons_succ, List.set_cons_zero] <;> rfl) fun g8 Bg8 Fg8 => ?_
  obtain ⟨dj9_0, dj9_1, dj9_2, dj9_3, dj9_4, dj9_5, dj9_6, dj9_7⟩ : g ≠ g8 ∧ Dk g8 K1 ∧ Dk g8 T1 ∧ Dk g8 K2 ∧ Dk g8 T2 ∧ Dk g8 K3 ∧ Dk g8 K4 ∧ Dk g8 R := by simpa only [dj_app_l, dj_app_r, dj_cons_l, dj_cons_r, dj_nil_l, dj_nil_r, dk_app, dk_cons, dk_nil, and_true, true_and, and_assoc] using (show Dk g8 ((g, .cells #[fn, .slice p1 segs.length c1, .slice p2 es.length c2, .slice p3 cs.length c3, .slice p4 c.length c4] 52 (0, 0)) :: (K1 ++ (T1 ++ (K2 ++ (T2 ++ (K3 ++ (K4 ++ R))))))) from Fg8)
  refine wpV_g (AppO W0 9 1 ((g, .cells #[fn, .slice p1 segs.length c1, .slice p2 es.length c2, .slice p3 cs.length c3, .slice p4 c.length c4] 52 (0, 0)) :: (K1 ++ (T1 ++ (K2 ++ (T2 ++ (K4 ++ R)))))) (cs.length + 1) ((cs.map strV) ++ [strV c])) (i := 11) rfl rfl rfl (by kernel_rfl) rfl (app_own el_str (m := 1) (c := 1) (news := [strV c]) rfl (by kernel_rfl) (by kernel_rfl) (.head _) O3 (fun p hp => by simp only [List.mem_cons, List.mem_append, List.nil_append, List.not_mem_nil, or_assoc, or_false, false_or, hp, or_true, true_or]) (fun p hp => ⟨by simp only [List.mem_cons, List.mem_append, List.nil_append, List.not_mem_nil, or_assoc, or_false, false_or] at hp ⊢ <;> grind, (show Dj ((g, .cells #[fn, .slice p1 segs.length c1, .slice p2 es.length c2, .slice p3 cs.length c3, .slice p4 c.length c4] 52 (0, 0)) :: (K1 ++ (T1 ++ (K2 ++ (T2 ++ (K4 ++ R)))))) K3 from (by (try simp only [dj_app_l, dj_app_r, dj_cons_l, dj_cons_r, dj_nil_l, dj_nil_r, dk_app, dk_cons, dk_nil, and_true, true_and, and_assoc]); repeat' (first | trivial | assumption | exact Dj.symm (by assumption) | exact Ne.symm (by assumption) | apply And.intro))) p hp⟩) rfl (by simp [strV, Value.oneCell']) (by omega) (by omega) (by omega)) (fun _ => by simp only [List.setIfInBounds_toArray, List.set_cons_succ, List.set_cons_zero] <;> rfl) ?_
  rintro v10 K9 ⟨Kl10, O10, N10, rfl⟩
  obtain ⟨dj11_0, dj11_1, dj11_2, dj11_3, dj11_4, dj11_5, dj11_6⟩ : Dk g Kl10 ∧ Dj K1 Kl10 ∧ Dj T1 Kl10 ∧ Dj K2 Kl10 ∧ Dj T2 Kl10 ∧ Dj K4 Kl10 ∧ Dj R Kl10 := by simpa only [dj_app_l, dj_app_r, dj_cons_l, dj_cons_r, dj_nil_l, dj_nil_r, dk_app, dk_cons, dk_nil, and_true, true_and, and_assoc] using (show Dj ((g, .cells #[fn, .slice p1 segs.length c1, .slice p2 es.length c2, .slice p3 cs.length c3, .slice p4 c.length c4] 52 (0, 0)) :: (K1 ++ (T1 ++ (K2 ++ (T2 ++ (K4 ++ R)))))) Kl10 from N10)
  refine vm (i := 12) (v := .pointer (some ⟨g, 0, none⟩)) rfl rfl rfl ?_
  refine vm (i := 13) (v := .pointer (some ⟨g, 3, none⟩)) rfl rfl rfl ?_
  obtain ⟨p12, c12, rfl⟩ := own_shape O10
  refine wpV_s ((g, .cells #[fn, .slice p1 segs.length c1, .slice p2 es.length c2, .slice p12 (cs.length + 1) c12, .slice p4 c.length c4] 52 (0, 0)) :: ((K1 ++ (T1 ++ (K2 ++ (T2 ++ (K4 ++ R))))) ++ Kl10)) (i := 14) rfl (by kernel_rfl) rfl rfl rfl (st_row (off := 3) (v := .slice p12 (cs.length + 1) c12) rfl (by kernel_rfl) (by kernel_rfl) (.head _) hB (by kernel_rfl) (by simp [Value.cells]) (by intro v hv; simp [Value.cells] at hv; first | (subst hv; rfl) | (rcases hv with rfl <;> rfl)) (by kernel_rfl) (List.forall_mem_cons.2 ⟨.inl rfl, (fun p hp => .inr ⟨(.tail _ hp), ((show Dk g ((K1 ++ (T1 ++ (K2 ++ (T2 ++ (K4 ++ R))))) ++ Kl10) from (by (try simp only [dj_app_l, dj_app_r, dj_cons_l, dj_cons_r, dj_nil_l, dj_nil_r, dk_app, dk_cons, dk_nil, and_true, true_and, and_assoc]); repeat' (first | trivial | assumption | exact Dj.symm (by assumption) | exact Ne.symm (by assumption) | apply And.intro))) _ hp)⟩)⟩)) ?_
  refine wpV_done (by kernel_rfl) (fun W1 hW1 => ?_) _
  refine (show Code.wp _ _ _ _ _ from ?_)
  refine wp_region_L (W0 := W0) ((g, .cells #[fn, .slice p1 segs.length c1, .slice p2 es.length c2, .slice p12 (cs.length + 1) c12, .slice p4 c.length c4] 52 (0, 0)) :: ((K1 ++ (T1 ++ (K2 ++ (T2 ++ (K4 ++ R))))) ++ Kl10)) (hW1) ?_
  refine lm (v := .pointer (some ⟨g, 0, none⟩)) rfl rfl ?_
  refine lm (v := .pointer (some ⟨g, 0, none⟩)) rfl rfl ?_
  refine lm (v := .pointer (some ⟨g, 0, none⟩)) rfl rfl ?_
  refine lm (v := .pointer (some ⟨g, 4, none⟩)) rfl rfl ?_
  refine lv (v := .slice p4 c.length c4) rfl rfl (yb_cell (off := 4) rfl (by kernel_rfl) (.head _) Try.underlying26 rfl (by kernel_rfl)) ?_
  refine wpL_g (fun vz Kz => (∃ p c, vz = .slice p 0 c) ∧ OwnL W0 5 1 vz 0 [] K4 ∧ Kz = ((g, .cells #[fn, .slice p1 segs.length c1, .slice p2 es.length c2, .slice p12 (cs.length + 1) c12, .slice p4 c.length c4] 52 (0, 0)) :: ((K1 ++ (T1 ++ (K2 ++ (T2 ++ (K4 ++ R))))) ++ Kl10))) rfl rfl (cut_own (kd := .i64) rfl Try.underlying26 (by kernel_rfl) (by kernel_rfl) (by kernel_rfl) O4) (fun _ => by simp only [List.setIfInBounds_toArray, List.set_cons_succ, List.set_cons_zero] <;> rfl) ?_
  rintro _ K9 ⟨⟨p13, c13, rfl⟩, O13, rfl⟩
  refine lm (v := .pointer (some ⟨g, 0, none⟩)) rfl rfl ?_
  refine lm (v := .pointer (some ⟨g, 4, none⟩)) rfl rfl ?_
  refine wpL_s ((g, .cells #[fn, .slice p1 segs.length c1, .slice p2 es.length c2, .slice p12 (cs.length + 1) c12, .slice p13 0 c13] 52 (0, 0)) :: ((K1 ++ (T1 ++ (K2 ++ (T2 ++ (K4 ++ R))))) ++ Kl10)) rfl rfl (st_row (off := 4) (v := .slice p13 0 c13) rfl (by kernel_rfl) (by kernel_rfl) (.head _) hB (by kernel_rfl) (by simp [Value.cells]) (by intro v hv; simp [Value.cells] at hv; first | (subst hv; rfl) | (rcases hv with rfl <;> rfl)) (by kernel_rfl) (List.forall_mem_cons.2 ⟨.inl rfl, (fun p hp => .inr ⟨(.tail _ hp), ((show Dk g ((K1 ++ (T1 ++ (K2 ++ (T2 ++ (K4 ++ R))))) ++ Kl10) from (by (try simp only [dj_app_l, dj_app_r, dj_cons_l, dj_cons_r, dj_nil_l, dj_nil_r, dk_app, dk_cons, dk_nil, and_true, true_and, and_assoc]); repeat' (first | trivial | assumption | exact Dj.symm (by assumption) | exact Ne.symm (by assumption) | apply And.intro))) _ hp)⟩)⟩)) ?_
  refine wpL_done (fun W2 hW2 => ?_)
  refine bodyPost_end (v := .tuple #[]) (results_none rfl _ _ _) rfl ?_
  exact ⟨_, ((g, .cells #[fn, .slice p1 segs.length c1, .slice p2 es.length c2, .slice p12 (cs.length + 1) c12, .slice p13 0 c13] 52 (0, 0)) :: (K1 ++ (T1 ++ (K2 ++ (T2 ++ (Kl10 ++ K4)))))) ++ R, rfl, (hW2.sub (fun p hp => by simp only [List.mem_cons, List.mem_append, List.nil_append, List.not_mem_nil, or_assoc, or_false, false_or, List.cons_append, List.append_assoc] at hp ⊢ <;> grind)), rfl, ((g, .cells #[fn, .slice p1 segs.length c1, .slice p2 es.length c2, .slice p12 (cs.length + 1) c12, .slice p13 0 c13] 52 (0, 0)) :: (K1 ++ (T1 ++ (K2 ++ (T2 ++ (Kl10 ++ K4)))))), rfl, ⟨_, _, _, _, _, _, _, _, _, _, _, _, _, _, _, _, K1, T1, K2, T2, Kl10, K4, (by simp [esOf, csOf, cOf]), (by simp [esOf, csOf, cOf]), (by simp [esOf, csOf, cOf]), (by simp [esOf, csOf, cOf]), map_snoc, rfl, rfl, hB, O1, E1, O2, E2, O10, O13, (show Dk g (K1 ++ (T1 ++ (K2 ++ (T2 ++ (Kl10 ++ K4))))) from (by (try simp only [dj_app_l, dj_app_r, dj_cons_l, dj_cons_r, dj_nil_l, dj_nil_r, dk_app, dk_cons, dk_nil, and_true, true_and, and_assoc]); repeat' (first | trivial | assumption | exact Dj.symm (by assumption) | exact Ne.symm (by assumption) | apply And.intro))), (show Dj K1 (T1 ++ (K2 ++ (T2 ++ (Kl10 ++ K4)))) from (by (try simp only [dj_app_l, dj_app_r, dj_cons_l, dj_cons_r, dj_nil_l, dj_nil_r, dk_app, dk_cons, dk_nil, and_true, true_and, and_assoc]); repeat' (first | trivial | assumption | exact Dj.symm (by assumption) | exact Ne.symm (by assumption) | apply And.intro))), (show Dj T1 (K2 ++ (T2 ++ (Kl10 ++ K4))) from (by (try simp only [dj_app_l, dj_app_r, dj_cons_l, dj_cons_r, dj_nil_l, dj_nil_r, dk_app, dk_cons, dk_nil, and_true, true_and, and_assoc]); repeat' (first | trivial | assumption | exact Dj.symm (by assumption) | exact Ne.symm (by assumption) | apply And.intro))), (show Dj K2 (T2 ++ (Kl10 ++ K4)) from (by (try simp only [dj_app_l, dj_app_r, dj_cons_l, dj_cons_r, dj_nil_l, dj_nil_r, dk_app, dk_cons, dk_nil, and_true, true_and, and_assoc]); repeat' (first | trivial | assumption | exact Dj.symm (by assumption) | exact Ne.symm (by assumption) | apply And.intro))), (show Dj T2 (Kl10 ++ K4) from (by (try simp only [dj_app_l, dj_app_r, dj_cons_l, dj_cons_r, dj_nil_l, dj_nil_r, dk_app, dk_cons, dk_nil, and_true, true_and, and_assoc]); repeat' (first | trivial | assumption | exact Dj.symm (by assumption) | exact Ne.symm (by assumption) | apply And.intro))), (show Dj Kl10 K4 from (by (try simp only [dj_app_l, dj_app_r, dj_cons_l, dj_cons_r, dj_nil_l, dj_nil_r, dk_app, dk_cons, dk_nil, and_true, true_and, and_assoc]); repeat' (first | trivial | assumption | exact Dj.symm (by assumption) | exact Ne.symm (by assumption) | apply And.intro)))⟩, (show Dj ((g, .cells #[fn, .slice p1 segs.length c1, .slice p2 es.length c2, .slice p12 (cs.length + 1) c12, .slice p13 0 c13] 52 (0, 0)) :: (K1 ++ (T1 ++ (K2 ++ (T2 ++ (Kl10 ++ K4)))))) R from (by (try simp only [dj_app_l, dj_app_r, dj_cons_l, dj_cons_r, dj_nil_l, dj_nil_r, dk_app, dk_cons, dk_nil, and_true, true_and, and_assoc]); repeat' (first | trivial | assumption | exact Dj.symm (by assumption) | exact Ne.symm (by assumption) | apply And.intro)))⟩
set_option maxRecDepth 100000 in
set_option maxHeartbeats 4000000 in
theorem endE_any {W0 : Base} {g : Nat} {fn : Value} {segs : List Sgm} {es : List Elt} {cs : List Cmp} {c : Cmp} {K R : List (Nat × Obj)} (hV : RdV W0 g fn segs es cs c K) (hR : Dj K R) (lc : cs.length ≤ 4000) (le : es.length ≤ 4000) (w : World) (hw : KS W0 (K ++ R) w) : Calls Try.prog 51 #[.pointer (some ⟨g, 0, none⟩)] w fun e w' => ∃ v K', e = .returned v ∧ KS W0 K' w' ∧ RdO W0 g fn segs (es ++ [cs ++ [c]]) [] [] R v K' := by
  obtain ⟨p1, p2, p3, p4, _, _, _, _, c1, c2, c3, c4, x1, x2, _, _, K1, T1, K2, T2, K3, K4, rfl, rfl, rfl, rfl, rfl, rfl, rfl, hB, O1, E1, O2, E2, O3, O4, dg, d1, d2, d3, d4, d5⟩ := hV
  obtain ⟨dj1_0, dj1_1, dj1_2, dj1_3, dj1_4, dj1_5⟩ : Dk g K1 ∧ Dk g T1 ∧ Dk g K2 ∧ Dk g T2 ∧ Dk g K3 ∧ Dk g K4 := by simpa only [dj_app_l, dj_app_r, dj_cons_l, dj_cons_r, dj_nil_l, dj_nil_r, dk_app, dk_cons, dk_nil, and_true, true_and, and_assoc] using (show Dk g (K1 ++ (T1 ++ (K2 ++ (T2 ++ (K3 ++ K4))))) from dg)
  obtain ⟨dj2_0, dj2_1, dj2_2, dj2_3, dj2_4⟩ : Dj K1 T1 ∧ Dj K1 K2 ∧ Dj K1 T2 ∧ Dj K1 K3 ∧ Dj K1 K4 := by simpa only [dj_app_l, dj_app_r, dj_cons_l, dj_cons_r, dj_nil_l, dj_nil_r, dk_app, dk_cons, dk_nil, and_true, true_and, and_assoc] using (show Dj K1 (T1 ++ (K2 ++ (T2 ++ (K3 ++ K4)))) from d1)
  obtain ⟨dj3_0, dj3_1, dj3_2, dj3_3⟩ : Dj T1 K2 ∧ Dj T1 T2 ∧ Dj T1 K3 ∧ Dj T1 K4 := by simpa only [dj_app_l, dj_app_r, dj_cons_l, dj_cons_r, dj_nil_l, dj_nil_r, dk_app, dk_cons, dk_nil, and_true, true_and, and_assoc] using (show Dj T1 (K2 ++ (T2 ++ (K3 ++ K4))) from d2)
  obtain ⟨dj4_0, dj4_1, dj4_2⟩ : Dj K2 T2 ∧ Dj K2 K3 ∧ Dj K2 K4 := by simpa only [dj_app_l, dj_app_r, dj_cons_l, dj_cons_r, dj_nil_l, dj_nil_r, dk_app, dk_cons, dk_nil, and_true, true_and, and_assoc] using (show Dj K2 (T2 ++ (K3 ++ K4)) from d3)
  obtain ⟨dj5_0, dj5_1⟩ : Dj T2 K3 ∧ Dj T2 K4 := by simpa only [dj_app_l, dj_app_r, dj_cons_l, dj_cons_r, dj_nil_l, dj_nil_r, dk_app, dk_cons, dk_nil, and_true, true_and, and_assoc] using (show Dj T2 (K3 ++ K4) from d4)
  obtain dj6_0 : Dj K3 K4 := by simpa only [dj_app_l, dj_app_r, dj_cons_l, dj_cons_r, dj_nil_l, dj_nil_r, dk_app, dk_cons, dk_nil, and_true, true_and, and_assoc] using (show Dj K3 K4 from d5)
  obtain ⟨dj7_0, dj7_1, dj7_2, dj7_3, dj7_4, dj7_5, dj7_6⟩ : Dk g R ∧ Dj K1 R ∧ Dj T1 R ∧ Dj K2 R ∧ Dj T2 R ∧ Dj K3 R ∧ Dj K4 R := by simpa only [dj_app_l, dj_app_r, dj_cons_l, dj_cons_r, dj_nil_l, dj_nil_r, dk_app, dk_cons, dk_nil, and_true, true_and, and_assoc] using (show Dj ((g, .cells #[fn, .slice p1 segs.length c1, .slice p2 es.length c2, .slice p3 cs.length c3, .slice p4 c.length c4] 52 (0, 0)) :: (K1 ++ (T1 ++ (K2 ++ (T2 ++ (K3 ++ K4)))))) R from hR)
  go_enter Try.func51, Try.ntmps51
  refine wp_seq ?_
  refine wp_region_L (W0 := W0) ((g, .cells #[fn, .slice p1 segs.length c1, .slice p2 es.length c2, .slice p3 cs.length c3, .slice p4 c.length c4] 52 (0, 0)) :: (K1 ++ (T1 ++ (K2 ++ (T2 ++ (K3 ++ (K4 ++ R))))))) ((hw.sub (fun p hp => by simp only [List.mem_cons, List.mem_append, List.nil_append, List.not_mem_nil, or_assoc, or_false, false_or, List.cons_append, List.append_assoc] at hp ⊢ <;> grind))) ?_
  refine lm (v := .pointer (some ⟨g, 0, none⟩)) rfl rfl ?_
  refine wpL_c (f := 52) (args := #[.pointer (some ⟨g, 0, none⟩)]) (RdO W0 g (fn) segs es (cs ++ [c]) ([] : Cmp) R) rfl (by kernel_rfl) (fun _ => (by kernel_rfl)) (fun W hW => endC_any ⟨_, _, _, _, _, _, _, _, _, _, _, _, _, _, _, _, K1, T1, K2, T2, K3, K4, (by simp [esOf, csOf, cOf]), (by simp [esOf, csOf, cOf]), (by simp [esOf, csOf, cOf]), (by simp [esOf, csOf, cOf]), rfl, rfl, rfl, hB, O1, E1, O2, E2, O3, O4, (show Dk g (K1 ++ (T1 ++ (K2 ++ (T2 ++ (K3 ++ K4))))) from (by (try simp only [dj_app_l, dj_app_r, dj_cons_l, dj_cons_r, dj_nil_l, dj_nil_r, dk_app, dk_cons, dk_nil, and_true, true_and, and_assoc]); repeat' (first | trivial | assumption | exact Dj.symm (by assumption) | exact Ne.symm (by assumption) | apply And.intro))), (show Dj K1 (T1 ++ (K2 ++ (T2 ++ (K3 ++ K4)))) from (by (try simp only [dj_app_l, dj_app_r, dj_cons_l, dj_cons_r, dj_nil_l, dj_nil_r, dk_app, dk_cons, dk_nil, and_true, true_and, and_assoc]); repeat' (first | trivial | assumption | exact Dj.symm (by assumption) | exact Ne.symm (by assumption) | apply And.intro))), (show Dj T1 (K2 ++ (T2 ++ (K3 ++ K4))) from (by (try simp only [dj_app_l, dj_app_r, dj_cons_l, dj_cons_r, dj_nil_l, dj_nil_r, dk_app, dk_cons, dk_nil, and_true, true_and, and_assoc]); repeat' (first | trivial | assumption | exact Dj.symm (by assumption) | exact Ne.symm (by assumption) | apply And.intro))), (show Dj K2 (T2 ++ (K3 ++ K4)) from (by (try simp only [dj_app_l, dj_app_r, dj_cons_l, dj_cons_r, dj_nil_l, dj_nil_r, dk_app, dk_cons, dk_nil, and_true, true_and, and_assoc]); repeat' (first | trivial | assumption | exact Dj.symm (by assumption) | exact Ne.symm (by assumption) | apply And.intro))), (show Dj T2 (K3 ++ K4) from (by (try simp only [dj_app_l, dj_app_r, dj_cons_l, dj_cons_r, dj_nil_l, dj_nil_r, dk_app, dk_cons, dk_nil, and_true, true_and, and_assoc]); repeat' (first | trivial | assumption | exact Dj.symm (by assumption) | exact Ne.symm (by assumption) | apply And.intro))), (show Dj K3 K4 from (by (try simp only [dj_app_l, dj_app_r, dj_cons_l, dj_cons_r, dj_nil_l, dj_nil_r, dk_app, dk_cons, dk_nil, and_true, true_and, and_assoc]); repeat' (first | trivial | assumption | exact Dj.symm (by assumption) | exact Ne.symm (by assumption) | apply And.intro)))⟩ (show Dj ((g, .cells #[fn, .slice p1 segs.length c1, .slice p2 es.length c2, .slice p3 cs.length c3, .slice p4 c.length c4] 52 (0, 0)) :: (K1 ++ (T1 ++ (K2 ++ (T2 ++ (K3 ++ K4)))))) R from (by (try simp only [dj_app_l, dj_app_r, dj_cons_l, dj_cons_r, dj_nil_l, dj_nil_r, dk_app, dk_cons, dk_nil, and_true, true_and, and_assoc]); repeat' (first | trivial | assumption | exact Dj.symm (by assumption) | exact Ne.symm (by assumption) | apply And.intro))) lc W (hW.sub (fun p hp => by simp only [List.mem_cons, List.mem_append, List.nil_append, List.not_mem_nil, or_assoc, or_false, false_or, List.cons_append, List.append_assoc] at hp ⊢ <;> grind))) (fun _ => by simp only [List.setIfInBounds_toArray, List.set_cons_succ, List.set_cons_zero] <;> rfl) ?_
  rintro _ K9 ⟨rfl, K2a, rfl, hVa, hRa⟩
  refine wpL_done (fun W1 hW1 => ?_)
  obtain ⟨p1a, p2a, p3a, p4a, _, _, _, _, c1a, c2a, c3a, c4a, x1a, x2a, _, _, K1a, T1a, K2a, T2a, K3a, K4a, rfl, rfl, rfl, rfl, rfl, rfl, rfl, hBa, O1a, E1a, O2a, E2a, O3a, O4a, dga, d1a, d2a, d3a, d4a, d5a⟩ := hVa
  obtain ⟨dj8_0, dj8_1, dj8_2, dj8_3, dj8_4, dj8_5⟩ : Dk g K1a ∧ Dk g T1a ∧ Dk g K2a ∧ Dk g T2a ∧ Dk g K3a ∧ Dk g K4a := by simpa only [dj_app_l, dj_app_r, dj_cons_l, dj_cons_r, dj_nil_l, dj_nil_r, dk_app, dk_cons, dk_nil, and_true, true_and, and_assoc] using (show Dk g (K1a ++ (T1a ++ (K2a ++ (T2a ++ (K3a ++ K4a))))) from dga)
  obtain ⟨dj9_0, dj9_1, dj9_2, dj9_3, dj9_4⟩ : Dj K1a T1a ∧ Dj K1a K2a ∧ Dj K1a T2a ∧ Dj K1a K3a ∧ Dj K1a K4a := by simpa only [dj_app_l, dj_app_r, dj_cons_l, dj_cons_r, dj_nil_l, dj_nil_r, dk_app, dk_cons, dk_nil, and_true, true_and, and_assoc] using (show Dj K1a (T1a ++ (K2a ++ (T2a ++ (K3a ++ K4a)))) from d1a)
  obtain ⟨dj10_0, dj10_1, dj10_2, dj10_3⟩ : Dj T1a K2a ∧ Dj T1a T2a ∧ Dj T1a K3a ∧ Dj T1a K4a := by simpa only [dj_app_l, dj_app_r, dj_cons_l, dj_cons_r, dj_nil_l, dj_nil_r, dk_app, dk_cons, dk_nil, and_true, true_and, and_assoc] using (show Dj T1a (K2a ++ (T2a ++ (K3a ++ K4a))) from d2a)
  obtain ⟨dj11_0, dj11_1, dj11_2⟩ : Dj K2a T2a ∧ Dj K2a K3a ∧ Dj K2a K4a := by simpa only [dj_app_l, dj_app_r, dj_cons_l, dj_cons_r, dj_nil_l, dj_nil_r, dk_app, dk_cons, dk_nil, and_true, true_and, and_assoc] using (show Dj K2a (T2a ++ (K3a ++ K4a)) from d3a)
  obtain ⟨dj12_0, dj12_1⟩ : Dj T2a K3a ∧ Dj T2a K4a := by simpa only [dj_app_l, dj_app_r, dj_cons_l, dj_cons_r, dj_nil_l, dj_nil_r, dk_app, dk_cons, dk_nil, and_true, true_and, and_assoc] using (show Dj T2a (K3a ++ K4a) from d4a)
  obtain dj13_0 : Dj K3a K4a := by simpa only [dj_app_l, dj_app_r, dj_cons_l, dj_cons_r, dj_nil_l, dj_nil_r, dk_app, dk_cons, dk_nil, and_true, true_and, and_assoc] using (show Dj K3a K4a from d5a)
  obtain ⟨dj14_0, dj14_1, dj14_2, dj14_3, dj14_4, dj14_5, dj14_6⟩ : Dk g R ∧ Dj K1a R ∧ Dj T1a R ∧ Dj K2a R ∧ Dj T2a R ∧ Dj K3a R ∧ Dj K4a R := by simpa only [dj_app_l, dj_app_r, dj_cons_l, dj_cons_r, dj_nil_l, dj_nil_r, dk_app, dk_cons, dk_nil, and_true, true_and, and_assoc] using (show Dj ((g, .cells #[fn, .slice p1a segs.length c1a, .slice p2a es.length c2a, .slice p3a (cs ++ [c]).length c3a, .slice p4a ([] : Cmp).length c4a] 52 (0, 0)) :: (K1a ++ (T1a ++ (K2a ++ (T2a ++ (K3a ++ K4a)))))) R from hRa)
  refine (show Code.wp _ _ _ _ _ from ?_)
  refine wp_seq ?_
  refine wp_region_V (W0 := W0) ((g, .cells #[fn, .slice p1a segs.length c1a, .slice p2a es.length c2a, .slice p3a (cs ++ [c]).length c3a, .slice p4a ([] : Cmp).length c4a] 52 (0, 0)) :: (K1a ++ (T1a ++ (K2a ++ (T2a ++ (K3a ++ (K4a ++ R))))))) (by kernel_rfl) ((hW1.sub (fun p hp => by simp only [List.mem_cons, List.mem_append, List.nil_append, List.not_mem_nil, or_assoc, or_false, false_or, List.cons_append, List.append_assoc] at hp ⊢ <;> grind))) ?_
  refine vm (i := 0) (v := .pointer (some ⟨g, 0, none⟩)) rfl rfl rfl ?_
  refine vm (i := 1) (v := .pointer (some ⟨g, 0, none⟩)) rfl rfl rfl ?_
  refine vm (i := 2) (v := .pointer (some ⟨g, 0, none⟩)) rfl rfl rfl ?_
  refine vm (i := 3) (v := .pointer (some ⟨g, 2, none⟩)) rfl rfl rfl ?_
  refine vv (i := 4) (v := .slice p2a es.length c2a) rfl rfl rfl (yb_cell (off := 2) rfl (by kernel_rfl) (.head _) Try.underlying37 rfl (by kernel_rfl)) ?_
  refine vm (i := 5) (v := .pointer (some ⟨g, 0, none⟩)) rfl rfl rfl ?_
  refine vm (i := 6) (v := .pointer (some ⟨g, 0, none⟩)) rfl rfl rfl ?_
  refine vm (i := 7) (v := .pointer (some ⟨g, 3, none⟩)) rfl rfl rfl ?_
  refine vv (i := 8) (v := .slice p3a (cs ++ [c]).length c3a) rfl rfl rfl (yb_cell (off := 3) rfl (by kernel_rfl) (.head _) Try.underlying43 rfl (by kernel_rfl)) ?_
  refine wpV_ns (fun g => .slice (some ⟨g, 0, none⟩) 1 1) (i := 9) (obi := .cells #[.slice p3a (cs ++ [c]).length c3a] 43 (0, 0)) rfl rfl rfl (by kernel_rfl) (fun _ => by kernel_rfl) (fun _ => by simp only [List.setIfInBounds_toArray, List.set_cons_succ, List.set_cons_zero] <;> rfl) fun g15 Bg15 Fg15 => ?_
  obtain ⟨dj16_0, dj16_1, dj16_2, dj16_3, dj16_4, dj16_5, dj16_6, dj16_7⟩ : g ≠ g15 ∧ Dk g15 K1a ∧ Dk g15 T1a ∧ Dk g15 K2a ∧ Dk g15 T2a ∧ Dk g15 K3a ∧ Dk g15 K4a ∧ Dk g15 R := by simpa only [dj_app_l, dj_app_r, dj_cons_l, dj_cons_r, dj_nil_l, dj_nil_r, dk_app, dk_cons, dk_nil, and_true, true_and, and_assoc] using (show Dk g15 ((g, .cells #[fn, .slice p1a segs.length c1a, .slice p2a es.length c2a, .slice p3a (cs ++ [c]).length c3a, .slice p4a ([] : Cmp).length c4a] 52 (0, 0)) :: (K1a ++ (T1a ++ (K2a ++ (T2a ++ (K3a ++ (K4a ++ R))))))) from Fg15)
  refine wpV_g (AppO W0 43 1 ((g, .cells #[fn, .slice p1a segs.length c1a, .slice p2a es.length c2a, .slice p3a (cs ++ [c]).length c3a, .slice p4a ([] : Cmp).length c4a] 52 (0, 0)) :: (K1a ++ (T1a ++ (T2a ++ (K3a ++ (K4a ++ R)))))) (es.length + 1) (x2a ++ [.slice p3a (cs ++ [c]).length c3a])) (i := 10) rfl rfl rfl (by kernel_rfl) rfl (app_own el_txt (m := 1) (c := 1) (news := [.slice p3a (cs ++ [c]).length c3a]) rfl (by kernel_rfl) (by kernel_rfl) (.head _) O2a (fun p hp => by simp only [List.mem_cons, List.mem_append, List.nil_append, List.not_mem_nil, or_assoc, or_false, false_or, hp, or_true, true_or]) (fun p hp => ⟨by simp only [List.mem_cons, List.mem_append, List.nil_append, List.not_mem_nil, or_assoc, or_false, false_or] at hp ⊢ <;> grind, (show Dj ((g, .cells #[fn, .slice p1a segs.length c1a, .slice p2a es.length c2a, .slice p3a (cs ++ [c]).length c3a, .slice p4a ([] : Cmp).length c4a] 52 (0, 0)) :: (K1a ++ (T1a ++ (T2a ++ (K3a ++ (K4a ++ R)))))) K2a from (by (try simp only [dj_app_l, dj_app_r, dj_cons_l, dj_cons_r, dj_nil_l, dj_nil_r, dk_app, dk_cons, dk_nil, and_true, true_and, and_assoc]); repeat' (first | trivial | assumption | exact Dj.symm (by assumption) | exact Ne.symm (by assumption) | apply And.intro))) p hp⟩) rfl (by simp [strV, Value.oneCell']) (by omega) (by omega) (by omega)) (fun _ => by simp only [List.setIfInBounds_toArray, List.set_cons_succ, List.set_cons_zero] <;> rfl) ?_
  rintro v17 K9 ⟨Kl17, O17, N17, rfl⟩
  obtain ⟨dj18_0, dj18_1, dj18_2, dj18_3, dj18_4, dj18_5, dj18_6⟩ : Dk g Kl17 ∧ Dj K1a Kl17 ∧ Dj T1a Kl17 ∧ Dj T2a Kl17 ∧ Dj K3a Kl17 ∧ Dj K4a Kl17 ∧ Dj R Kl17 := by simpa only [dj_app_l, dj_app_r, dj_cons_l, dj_cons_r, dj_nil_l, dj_nil_r, dk_app, dk_cons, dk_nil, and_true, true_and, and_assoc] using (show Dj ((g, .cells #[fn, .slice p1a segs.length c1a, .slice p2a es.length c2a, .slice p3a (cs ++ [c]).length c3a, .slice p4a ([] : Cmp).length c4a] 52 (0, 0)) :: (K1a ++ (T1a ++ (T2a ++ (K3a ++ (K4a ++ R)))))) Kl17 from N17)
  refine vm (i := 11) (v := .pointer (some ⟨g, 0, none⟩)) rfl rfl rfl ?_
  refine vm (i := 12) (v := .pointer (some ⟨g, 2, none⟩)) rfl rfl rfl ?_
  obtain ⟨p19, c19, rfl⟩ := own_shape O17
  refine wpV_s ((g, .cells #[fn, .slice p1a segs.length c1a, .slice p19 (es.length + 1) c19, .slice p3a (cs ++ [c]).length c3a, .slice p4a ([] : Cmp).length c4a] 52 (0, 0)) :: ((K1a ++ (T1a ++ (T2a ++ (K3a ++ (K4a ++ R))))) ++ Kl17)) (i := 13) rfl (by kernel_rfl) rfl rfl rfl (st_row (off := 2) (v := .slice p19 (es.length + 1) c19) rfl (by kernel_rfl) (by kernel_rfl) (.head _) hBa (by kernel_rfl) (by simp [Value.cells]) (by intro v hv; simp [Value.cells] at hv; first | (subst hv; rfl) | (rcases hv with rfl <;> rfl)) (by kernel_rfl) (List.forall_mem_cons.2 ⟨.inl rfl, (fun p hp => .inr ⟨(.tail _ hp), ((show Dk g ((K1a ++ (T1a ++ (T2a ++ (K3a ++ (K4a ++ R))))) ++ Kl17) from (by (try simp only [dj_app_l, dj_app_r, dj_cons_l, dj_cons_r, dj_nil_l, dj_nil_r, dk_app, dk_cons, dk_nil, and_true, true_and, and_assoc]); repeat' (first | trivial | assumption | exact Dj.symm (by assumption) | exact Ne.symm (by assumption) | apply And.intro))) _ hp)⟩)⟩)) ?_
  refine wpV_done (by kernel_rfl) (fun W2 hW2 => ?_) _
  refine (show Code.wp _ _ _ _ _ from ?_)
  refine wp_region_L (W0 := W0) ((g, .cells #[fn, .slice p1a segs.length c1a, .slice p19 (es.length + 1) c19, .slice p3a (cs ++ [c]).length c3a, .slice p4a ([] : Cmp).length c4a] 52 (0, 0)) :: ((K1a ++ (T1a ++ (T2a ++ (K3a ++ (K4a ++ R))))) ++ Kl17)) (hW2) ?_
  refine lm (v := .pointer (some ⟨g, 0, none⟩)) rfl rfl ?_
  refine lm (v := .pointer (some ⟨g, 0, none⟩)) rfl rfl ?_
  refine lm (v := .pointer (some ⟨g, 3, none⟩)) rfl rfl ?_
  refine wpL_s ((g, .cells #[fn, .slice p1a segs.length c1a, .slice p19 (es.length + 1) c19, .slice none 0 0, .slice p4a ([] : Cmp).length c4a] 52 (0, 0)) :: ((K1a ++ (T1a ++ (T2a ++ (K3a ++ (K4a ++ R))))) ++ Kl17)) rfl rfl (st_row (off := 3) (v := .slice none 0 0) rfl (by kernel_rfl) (by kernel_rfl) (.head _) hBa (by kernel_rfl) (by simp [Value.cells]) (by intro v hv; simp [Value.cells] at hv; first | (subst hv; rfl) | (rcases hv with rfl <;> rfl)) (by kernel_rfl) (List.forall_mem_cons.2 ⟨.inl rfl, (fun p hp => .inr ⟨(.tail _ hp), ((show Dk g ((K1a ++ (T1a ++ (T2a ++ (K3a ++ (K4a ++ R))))) ++ Kl17) from (by (try simp only [dj_app_l, dj_app_r, dj_cons_l, dj_cons_r, dj_nil_l, dj_nil_r, dk_app, dk_cons, dk_nil, and_true, true_and, and_assoc]); repeat' (first | trivial | assumption | exact Dj.symm (by assumption) | exact Ne.symm (by assumption) | apply And.intro))) _ hp)⟩)⟩)) ?_
  refine wpL_done (fun W3 hW3 => ?_)
  refine bodyPost_end (v := .tuple #[]) (results_none rfl _ _ _) rfl ?_
  exact ⟨_, ((g, .cells #[fn, .slice p1a segs.length c1a, .slice p19 (es.length + 1) c19, .slice none 0 0, .slice p4a ([] : Cmp).length c4a] 52 (0, 0)) :: (K1a ++ (T1a ++ (Kl17 ++ ((T2a ++ ([] ++ K3a)) ++ ([] ++ K4a)))))) ++ R, rfl, (hW3.sub (fun p hp => by simp only [List.mem_cons, List.mem_append, List.nil_append, List.not_mem_nil, or_assoc, or_false, false_or, List.cons_append, List.append_assoc] at hp ⊢ <;> grind)), rfl, ((g, .cells #[fn, .slice p1a segs.length c1a, .slice p19 (es.length + 1) c19, .slice none 0 0, .slice p4a ([] : Cmp).length c4a] 52 (0, 0)) :: (K1a ++ (T1a ++ (Kl17 ++ ((T2a ++ ([] ++ K3a)) ++ ([] ++ K4a)))))), rfl, ⟨_, _, _, _, _, _, _, _, _, _, _, _, _, _, _, _, K1a, T1a, Kl17, (T2a ++ ([] ++ K3a)), [], K4a, (by simp [esOf, csOf, cOf]), (by simp [esOf, csOf, cOf]), (by simp [esOf, csOf, cOf]), (by simp [esOf, csOf, cOf]), rfl, rfl, rfl, hBa, O1a, E1a, O17, (MkE.snoc E2a (MkE.own O3a (MkE.strs _) rfl)), (OwnL.nil _ _ _), O4a, (show Dk g (K1a ++ (T1a ++ (Kl17 ++ ((T2a ++ ([] ++ K3a)) ++ ([] ++ K4a))))) from (by (try simp only [dj_app_l, dj_app_r, dj_cons_l, dj_cons_r, dj_nil_l, dj_nil_r, dk_app, dk_cons, dk_nil, and_true, true_and, and_assoc]); repeat' (first | trivial | assumption | exact Dj.symm (by assumption) | exact Ne.symm (by assumption) | apply And.intro))), (show Dj K1a (T1a ++ (Kl17 ++ ((T2a ++ ([] ++ K3a)) ++ ([] ++ K4a)))) from (by (try simp only [dj_app_l, dj_app_r, dj_cons_l, dj_cons_r, dj_nil_l, dj_nil_r, dk_app, dk_cons, dk_nil, and_true, true_and, and_assoc]); repeat' (first | trivial | assumption | exact Dj.symm (by assumption) | exact Ne.symm (by assumption) | apply And.intro))), (show Dj T1a (Kl17 ++ ((T2a ++ ([] ++ K3a)) ++ ([] ++ K4a))) from (by (try simp only [dj_app_l, dj_app_r, dj_cons_l, dj_cons_r, dj_nil_l, dj_nil_r, dk_app, dk_cons, dk_nil, and_true, true_and, and_assoc]); repeat' (first | trivial | assumption | exact Dj.symm (by assumption) | exact Ne.symm (by assumption) | apply And.intro))), (show Dj Kl17 ((T2a ++ ([] ++ K3a)) ++ ([] ++ K4a)) from (by (try simp only [dj_app_l, dj_app_r, dj_cons_l, dj_cons_r, dj_nil_l, dj_nil_r, dk_app, dk_cons, dk_nil, and_true, true_and, and_assoc]); repeat' (first | trivial | assumption | exact Dj.symm (by assumption) | exact Ne.symm (by assumption) | apply And.intro))), (show Dj (T2a ++ ([] ++ K3a)) ([] ++ K4a) from (by (try simp only [dj_app_l, dj_app_r, dj_cons_l, dj_cons_r, dj_nil_l, dj_nil_r, dk_app, dk_cons, dk_nil, and_true, true_and, and_assoc]); repeat' (first | trivial | assumption | exact Dj.symm (by assumption) | exact Ne.symm (by assumption) | apply And.intro))), (show Dj [] K4a from (by (try simp only [dj_app_l, dj_app_r, dj_cons_l, dj_cons_r, dj_nil_l, dj_nil_r, dk_app, dk_cons, dk_nil, and_true, true_and, and_assoc]); repeat' (first | trivial | assumption | exact Dj.symm (by assumption) | exact Ne.symm (by assumption) | apply And.intro)))⟩, (show Dj ((g, .cells #[fn, .slice p1a segs.length c1a, .slice p19 (es.length + 1) c19, .slice none 0 0, .slice p4a ([] : Cmp).length c4a] 52 (0, 0)) :: (K1a ++ (T1a ++ (Kl17 ++ ((T2a ++ ([] ++ K3a)) ++ ([] ++ K4a)))))) R from (by (try simp only [dj_app_l, dj_app_r, dj_cons_l, dj_cons_r, dj_nil_l, dj_nil_r, dk_app, dk_cons, dk_nil, and_true, true_and, and_assoc]); repeat' (first | trivial | assumption | exact Dj.symm (by assumption) | exact Ne.symm (by assumption) | apply And.intro)))⟩
set_option maxRecDepth 100000 in
set_option maxHeartbeats 4000000 in
theorem endS_any {W0 : Base} {g : Nat} {fn : Value} {segs : List Sgm} {es : List Elt} {cs : List Cmp} {c : Cmp} {K R : List (Nat × Obj)} (hV : RdV W0 g fn segs es cs c K) (hR : Dj K R) (lc : cs.length ≤ 4000) (le : es.length ≤ 4000) (ls : segs.length ≤ 40000) (w : World) (hw : KS W0 (K ++ R) w) : Calls Try.prog 50 #[.pointer (some ⟨g, 0, none⟩)] w fun e w' => ∃ v K', e = .returned v ∧ KS W0 K' w' ∧ RdO W0 g fn (segs ++ [es ++ [cs ++ [c]]]) [] [] [] R v K' := by
  obtain ⟨p1, p2, p3, p4, _, _, _, _, c1, c2, c3, c4, x1, x2, _, _, K1, T1, K2, T2, K3, K4, rfl, rfl, rfl, rfl, rfl, rfl, rfl, hB, O1, E1, O2, E2, O3, O4, dg, d1, d2, d3, d4, d5⟩ := hV
  obtain ⟨dj1_0, dj1_1, dj1_2, dj1_3, dj1_4, dj1_5⟩ : Dk g K1 ∧ Dk g T1 ∧ Dk g K2 ∧ Dk g T2 ∧ Dk g K3 ∧ Dk g K4 := by simpa only [dj_app_l, dj_app_r, dj_cons_l, dj_cons_r, dj_nil_l, dj_nil_r, dk_app, dk_cons, dk_nil, and_true, true_and, and_assoc] using (show Dk g (K1 ++ (T1 ++ (K2 ++ (T2 ++ (K3 ++ K4))))) from dg)
  obtain ⟨dj2_0, dj2_1, dj2_2, dj2_3, dj2_4⟩ : Dj K1 T1 ∧ Dj K1 K2 ∧ Dj K1 T2 ∧ Dj K1 K3 ∧ Dj K1 K4 := by simpa only [dj_app_l, dj_app_r, dj_cons_l, dj_cons_r, dj_nil_l, dj_nil_r, dk_app, dk_cons, dk_nil, and_true, true_and, and_assoc] using (show Dj K1 (T1 ++ (K2 ++ (T2 ++ (K3 ++ K4)))) from d1)
  obtain ⟨dj3_0, dj3_1, dj3_2, dj3_3⟩ : Dj T1 K2 ∧ Dj T1 T2 ∧ Dj T1 K3 ∧ Dj T1 K4 := by simpa only [dj_app_l, dj_app_r, dj_cons_l, dj_cons_r, dj_nil_l, dj_nil_r, dk_app, dk_cons, dk_nil, and_true, true_and, and_assoc] using (show Dj T1 (K2 ++ (T2 ++ (K3 ++ K4))) from d2)
  obtain ⟨dj4_0, dj4_1, dj4_2⟩ : Dj K2 T2 ∧ Dj K2 K3 ∧ Dj K2 K4 := by simpa only [dj_app_l, dj_app_r, dj_cons_l, dj_cons_r, dj_nil_l, dj_nil_r, dk_app, dk_cons, dk_nil, and_true, true_and, and_assoc] using (show Dj K2 (T2 ++ (K3 ++ K4)) from d3)
  obtain ⟨dj5_0, dj5_1⟩ : Dj T2 K3 ∧ Dj T2 K4 := by simpa only [dj_app_l, dj_app_r, dj_cons_l, dj_cons_r, dj_nil_l, dj_nil_r, dk_app, dk_cons, dk_nil, and_true, true_and, and_assoc] using (show Dj T2 (K3 ++ K4) from d4)
  obtain dj6_0 : Dj K3 K4 := by simpa only [dj_app_l, dj_app_r, dj_cons_l, dj_cons_r, dj_nil_l, dj_nil_r, dk_app, dk_cons, dk_nil, and_true, true_and, and_assoc] using (show Dj K3 K4 from d5)
  obtain ⟨dj7_0, dj7_1, dj7_2, dj7_3, dj7_4, dj7_5, dj7_6⟩ : Dk g R ∧ Dj K1 R ∧ Dj T1 R ∧ Dj K2 R ∧ Dj T2 R ∧ Dj K3 R ∧ Dj K4 R := by simpa only [dj_app_l, dj_app_r, dj_cons_l, dj_cons_r, dj_nil_l, dj_nil_r, dk_app, dk_cons, dk_nil, and_true, true_and, and_assoc] using (show Dj ((g, .cells #[fn, .slice p1 segs.length c1, .slice p2 es.length c2, .slice p3 cs.length c3, .slice p4 c.length c4] 52 (0, 0)) :: (K1 ++ (T1 ++ (K2 ++ (T2 ++ (K3 ++ K4)))))) R from hR)
  go_enter Try.func50, Try.ntmps50
  refine wp_seq ?_
  refine wp_region_L (W0 := W0) ((g, .cells #[fn, .slice p1 segs.length c1, .slice p2 es.length c2, .slice p3 cs.length c3, .slice p4 c.length c4] 52 (0, 0)) :: (K1 ++ (T1 ++ (K2 ++ (T2 ++ (K3 ++ (K4 ++ R))))))) ((hw.sub (fun p hp => by simp only [List.mem_cons, List.mem_append, List.nil_append, List.not_mem_nil, or_assoc, or_false, false_or, List.cons_append, List.append_assoc] at hp ⊢ <;> grind))) ?_
  refine lm (v := .pointer (some ⟨g, 0, none⟩)) rfl rfl ?_
  refine wpL_c (f := 51) (args := #[.pointer (some ⟨g, 0, none⟩)]) (RdO W0 g (fn) segs (es ++ [cs ++ [c]]) ([] : Elt) ([] : Cmp) R) rfl (by kernel_rfl) (fun _ => (by kernel_rfl)) (fun W hW => endE_any ⟨_, _, _, _, _, _, _, _, _, _, _, _, _, _, _, _, K1, T1, K2, T2, K3, K4, (by simp [esOf, csOf, cOf]), (by simp [esOf, csOf, cOf]), (by simp [esOf, csOf, cOf]), (by simp [esOf, csOf, cOf]), rfl, rfl, rfl, hB, O1, E1, O2, E2, O3, O4, (show Dk g (K1 ++ (T1 ++ (K2 ++ (T2 ++ (K3 ++ K4))))) from (by (try simp only [dj_app_l, dj_app_r, dj_cons_l, dj_cons_r, dj_nil_l, dj_nil_r, dk_app, dk_cons, dk_nil, and_true, true_and, and_assoc]); repeat' (first | trivial | assumption | exact Dj.symm (by assumption) | exact Ne.symm (by assumption) | apply And.intro))), (show Dj K1 (T1 ++ (K2 ++ (T2 ++ (K3 ++ K4)))) from (by (try simp only [dj_app_l, dj_app_r, dj_cons_l, dj_cons_r, dj_nil_l, dj_nil_r, dk_app, dk_cons, dk_nil, and_true, true_and, and_assoc]); repeat' (first | trivial | assumption | exact Dj.symm (by assumption) | exact Ne.symm (by assumption) | apply And.intro))), (show Dj T1 (K2 ++ (T2 ++ (K3 ++ K4))) from (by (try simp only [dj_app_l, dj_app_r, dj_cons_l, dj_cons_r, dj_nil_l, dj_nil_r, dk_app, dk_cons, dk_nil, and_true, true_and, and_assoc]); repeat' (first | trivial | assumption | exact Dj.symm (by assumption) | exact Ne.symm (by assumption) | apply And.intro))), (show Dj K2 (T2 ++ (K3 ++ K4)) from (by (try simp only [dj_app_l, dj_app_r, dj_cons_l, dj_cons_r, dj_nil_l, dj_nil_r, dk_app, dk_cons, dk_nil, and_true, true_and, and_assoc]); repeat' (first | trivial | assumption | exact Dj.symm (by assumption) | exact Ne.symm (by assumption) | apply And.intro))), (show Dj T2 (K3 ++ K4) from (by (try simp only [dj_app_l, dj_app_r, dj_cons_l, dj_cons_r, dj_nil_l, dj_nil_r, dk_app, dk_cons, dk_nil, and_true, true_and, and_assoc]); repeat' (first | trivial | assumption | exact Dj.symm (by assumption) | exact Ne.symm (by assumption) | apply And.intro))), (show Dj K3 K4 from (by (try simp only [dj_app_l, dj_app_r, dj_cons_l, dj_cons_r, dj_nil_l, dj_nil_r, dk_app, dk_cons, dk_nil, and_true, true_and, and_assoc]); repeat' (first | trivial | assumption | exact Dj.symm (by assumption) | exact Ne.symm (by assumption) | apply And.intro)))⟩ (show Dj ((g, .cells #[fn, .slice p1 segs.length c1, .slice p2 es.length c2, .slice p3 cs.length c3, .slice p4 c.length c4] 52 (0, 0)) :: (K1 ++ (T1 ++ (K2 ++ (T2 ++ (K3 ++ K4)))))) R from (by (try simp only [dj_app_l, dj_app_r, dj_cons_l, dj_cons_r, dj_nil_l, dj_nil_r, dk_app, dk_cons, dk_nil, and_true, true_and, and_assoc]); repeat' (first | trivial | assumption | exact Dj.symm (by assumption) | exact Ne.symm (by assumption) | apply And.intro))) lc le W (hW.sub (fun p hp => by simp only [List.mem_cons, List.mem_append, List.nil_append, List.not_mem_nil, or_assoc, or_false, false_or, List.cons_append, List.append_assoc] at hp ⊢ <;> grind))) (fun _ => by simp only [List.setIfInBounds_toArray, List.set_cons_succ, List.set_cons_zero] <;> rfl) ?_
  rintro _ K9 ⟨rfl, K2a, rfl, hVa, hRa⟩
  refine wpL_done (fun W1 hW1 => ?_)
  obtain ⟨p1a, p2a, p3a, p4a, _, _, _, _, c1a, c2a, c3a, c4a, x1a, x2a, _, _, K1a, T1a, K2a, T2a, K3a, K4a, rfl, rfl, rfl, rfl, rfl, rfl, rfl, hBa, O1a, E1a, O2a, E2a, O3a, O4a, dga, d1a, d2a, d3a, d4a, d5a⟩ := hVa
  obtain ⟨dj8_0, dj8_1, dj8_2, dj8_3, dj8_4, dj8_5⟩ : Dk g K1a ∧ Dk g T1a ∧ Dk g K2a ∧ Dk g T2a ∧ Dk g K3a ∧ Dk g K4a := by simpa only [dj_app_l, dj_app_r, dj_cons_l, dj_cons_r, dj_nil_l, dj_nil_r, dk_app, dk_cons, dk_nil, and_true, true_and, and_assoc] using (show Dk g (K1a ++ (T1a ++ (K2a ++ (T2a ++ (K3a ++ K4a))))) from dga)
  obtain ⟨dj9_0, dj9_1, dj9_2, dj9_3, dj9_4⟩ : Dj K1a T1a ∧ Dj K1a K2a ∧ Dj K1a T2a ∧ Dj K1a K3a ∧ Dj K1a K4a := by simpa only [dj_app_l, dj_app_r, dj_cons_l, dj_cons_r, dj_nil_l, dj_nil_r, dk_app, dk_cons, dk_nil, and_true, true_and, and_assoc] using (show Dj K1a (T1a ++ (K2a ++ (T2a ++ (K3a ++ K4a)))) from d1a)
  obtain ⟨dj10_0, dj10_1, dj10_2, dj10_3⟩ : Dj T1a K2a ∧ Dj T1a T2a ∧ Dj T1a K3a ∧ Dj T1a K4a := by simpa only [dj_app_l, dj_app_r, dj_cons_l, dj_cons_r, dj_nil_l, dj_nil_r, dk_app, dk_cons, dk_nil, and_true, true_and, and_assoc] using (show Dj T1a (K2a ++ (T2a ++ (K3a ++ K4a))) from d2a)
  obtain ⟨dj11_0, dj11_1, dj11_2⟩ : Dj K2a T2a ∧ Dj K2a K3a ∧ Dj K2a K4a := by simpa only [dj_app_l, dj_app_r, dj_cons_l, dj_cons_r, dj_nil_l, dj_nil_r, dk_app, dk_cons, dk_nil, and_true, true_and, and_assoc] using (show Dj K2a (T2a ++ (K3a ++ K4a)) from d3a)
  obtain ⟨dj12_0, dj12_1⟩ : Dj T2a K3a ∧ Dj T2a K4a := by simpa only [dj_app_l, dj_app_r, dj_cons_l, dj_cons_r, dj_nil_l, dj_nil_r, dk_app, dk_cons, dk_nil, and_true, true_and, and_assoc] using (show Dj T2a (K3a ++ K4a) from d4a)
  obtain dj13_0 : Dj K3a K4a := by simpa only [dj_app_l, dj_app_r, dj_cons_l, dj_cons_r, dj_nil_l, dj_nil_r, dk_app, dk_cons, dk_nil, and_true, true_and, and_assoc] using (show Dj K3a K4a from d5a)
  obtain ⟨dj14_0, dj14_1, dj14_2, dj14_3, dj14_4, dj14_5, dj14_6⟩ : Dk g R ∧ Dj K1a R ∧ Dj T1a R ∧ Dj K2a R ∧ Dj T2a R ∧ Dj K3a R ∧ Dj K4a R := by simpa only [dj_app_l, dj_app_r, dj_cons_l, dj_cons_r, dj_nil_l, dj_nil_r, dk_app, dk_cons, dk_nil, and_true, true_and, and_assoc] using (show Dj ((g, .cells #[fn, .slice p1a segs.length c1a, .slice p2a (es ++ [cs ++ [c]]).length c2a, .slice p3a ([] : Elt).length c3a, .slice p4a ([] : Cmp).length c4a] 52 (0, 0)) :: (K1a ++ (T1a ++ (K2a ++ (T2a ++ (K3a ++ K4a)))))) R from hRa)
  refine (show Code.wp _ _ _ _ _ from ?_)
  refine wp_seq ?_
  refine wp_region_V (W0 := W0) ((g, .cells #[fn, .slice p1a segs.length c1a, .slice p2a (es ++ [cs ++ [c]]).length c2a, .slice p3a ([] : Elt).length c3a, .slice p4a ([] : Cmp).length c4a] 52 (0, 0)) :: (K1a ++ (T1a ++ (K2a ++ (T2a ++ (K3a ++ (K4a ++ R))))))) (by kernel_rfl) ((hW1.sub (fun p hp => by simp only [List.mem_cons, List.mem_append, List.nil_append, List.not_mem_nil, or_assoc, or_false, false_or, List.cons_append, List.append_assoc] at hp ⊢ <;> grind))) ?_
  refine vm (i := 0) (v := .pointer (some ⟨g, 0, none⟩)) rfl rfl rfl ?_
  refine vm (i := 1) (v := .pointer (some ⟨g, 0, none⟩)) rfl rfl rfl ?_
  refine vm (i := 2) (v := .pointer (some ⟨g, 0, none⟩)) rfl rfl rfl ?_
  refine vm (i := 3) (v := .pointer (some ⟨g, 1, none⟩)) rfl rfl rfl ?_
  refine vv (i := 4) (v := .slice p1a segs.length c1a) rfl rfl rfl (yb_cell (off := 1) rfl (by kernel_rfl) (.head _) Try.underlying24 rfl (by kernel_rfl)) ?_
  refine vm (i := 5) (v := .pointer (some ⟨g, 0, none⟩)) rfl rfl rfl ?_
  refine vm (i := 6) (v := .pointer (some ⟨g, 0, none⟩)) rfl rfl rfl ?_
  refine vm (i := 7) (v := .pointer (some ⟨g, 2, none⟩)) rfl rfl rfl ?_
  refine vv (i := 8) (v := .slice p2a (es ++ [cs ++ [c]]).length c2a) rfl rfl rfl (yb_cell (off := 2) rfl (by kernel_rfl) (.head _) Try.underlying37 rfl (by kernel_rfl)) ?_
  refine wpV_ns (fun g => .slice (some ⟨g, 0, none⟩) 1 1) (i := 9) (obi := .cells #[.slice p2a (es ++ [cs ++ [c]]).length c2a] 37 (0, 0)) rfl rfl rfl (by kernel_rfl) (fun _ => by kernel_rfl) (fun _ => by simp only [List.setIfInBounds_toArray, List.set_cons_succ, List.set_cons_zero] <;> rfl) fun g15 Bg15 Fg15 => ?_
  obtain ⟨dj16_0, dj16_1, dj16_2, dj16_3, dj16_4, dj16_5, dj16_6, dj16_7⟩ : g ≠ g15 ∧ Dk g15 K1a ∧ Dk g15 T1a ∧ Dk g15 K2a ∧ Dk g15 T2a ∧ Dk g15 K3a ∧ Dk g15 K4a ∧ Dk g15 R := by simpa only [dj_app_l, dj_app_r, dj_cons_l, dj_cons_r, dj_nil_l, dj_nil_r, dk_app, dk_cons, dk_nil, and_true, true_and, and_assoc] using (show Dk g15 ((g, .cells #[fn, .slice p1a segs.length c1a, .slice p2a (es ++ [cs ++ [c]]).length c2a, .slice p3a ([] : Elt).length c3a, .slice p4a ([] : Cmp).length c4a] 52 (0, 0)) :: (K1a ++ (T1a ++ (K2a ++ (T2a ++ (K3a ++ (K4a ++ R))))))) from Fg15)
  refine wpV_g (AppO W0 37 1 ((g, .cells #[fn, .slice p1a segs.length c1a, .slice p2a (es ++ [cs ++ [c]]).length c2a, .slice p3a ([] : Elt).length c3a, .slice p4a ([] : Cmp).length c4a] 52 (0, 0)) :: (T1a ++ (K2a ++ (T2a ++ (K3a ++ (K4a ++ R)))))) (segs.length + 1) (x1a ++ [.slice p2a (es ++ [cs ++ [c]]).length c2a])) (i := 10) rfl rfl rfl (by kernel_rfl) rfl (app_own el_seg (m := 1) (c := 1) (news := [.slice p2a (es ++ [cs ++ [c]]).length c2a]) rfl (by kernel_rfl) (by kernel_rfl) (.head _) O1a (fun p hp => by simp only [List.mem_cons, List.mem_append, List.nil_append, List.not_mem_nil, or_assoc, or_false, false_or, hp, or_true, true_or]) (fun p hp => ⟨by simp only [List.mem_cons, List.mem_append, List.nil_append, List.not_mem_nil, or_assoc, or_false, false_or] at hp ⊢ <;> grind, (show Dj ((g, .cells #[fn, .slice p1a segs.length c1a, .slice p2a (es ++ [cs ++ [c]]).length c2a, .slice p3a ([] : Elt).length c3a, .slice p4a ([] : Cmp).length c4a] 52 (0, 0)) :: (T1a ++ (K2a ++ (T2a ++ (K3a ++ (K4a ++ R)))))) K1a from (by (try simp only [dj_app_l, dj_app_r, dj_cons_l, dj_cons_r, dj_nil_l, dj_nil_r, dk_app, dk_cons, dk_nil, and_true, true_and, and_assoc]); repeat' (first | trivial | assumption | exact Dj.symm (by assumption) | exact Ne.symm (by assumption) | apply And.intro))) p hp⟩) rfl (by simp [strV, Value.oneCell']) (by omega) (by omega) (by omega)) (fun _ => by simp only [List.setIfInBounds_toArray, List.set_cons_succ, List.set_cons_zero] <;> rfl) ?_
  rintro v17 K9 ⟨Kl17, O17, N17, rfl⟩
  obtain ⟨dj18_0, dj18_1, dj18_2, dj18_3, dj18_4, dj18_5, dj18_6⟩ : Dk g Kl17 ∧ Dj T1a Kl17 ∧ Dj K2a Kl17 ∧ Dj T2a Kl17 ∧ Dj K3a Kl17 ∧ Dj K4a Kl17 ∧ Dj R Kl17 := by simpa only [dj_app_l, dj_app_r, dj_cons_l, dj_cons_r, dj_nil_l, dj_nil_r, dk_app, dk_cons, dk_nil, and_true, true_and, and_assoc] using (show Dj ((g, .cells #[fn, .slice p1a segs.length c1a, .slice p2a (es ++ [cs ++ [c]]).length c2a, .slice p3a ([] : Elt).length c3a, .slice p4a ([] : Cmp).length c4a] 52 (0, 0)) :: (T1a ++ (K2a ++ (T2a ++ (K3a ++ (K4a ++ R)))))) Kl17 from N17)
  refine vm (i := 11) (v := .pointer (some ⟨g, 0, none⟩)) rfl rfl rfl ?_
  refine vm (i := 12) (v := .pointer (some ⟨g, 1, none⟩)) rfl rfl rfl ?_
  obtain ⟨p19, c19, rfl⟩ := own_shape O17
  refine wpV_s ((g, .cells #[fn, .slice p19 (segs.length + 1) c19, .slice p2a (es ++ [cs ++ [c]]).length c2a, .slice p3a ([] : Elt).length c3a, .slice p4a ([] : Cmp).length c4a] 52 (0, 0)) :: ((T1a ++ (K2a ++ (T2a ++ (K3a ++ (K4a ++ R))))) ++ Kl17)) (i := 13) rfl (by kernel_rfl) rfl rfl rfl (st_row (off := 1) (v := .slice p19 (segs.length + 1) c19) rfl (by kernel_rfl) (by kernel_rfl) (.head _) hBa (by kernel_rfl) (by simp [Value.cells]) (by intro v hv; simp [Value.cells] at hv; first | (subst hv; rfl) | (rcases hv with rfl <;> rfl)) (by kernel_rfl) (List.forall_mem_cons.2 ⟨.inl rfl, (fun p hp => .inr ⟨(.tail _ hp), ((show Dk g ((T1a ++ (K2a ++ (T2a ++ (K3a ++ (K4a ++ R))))) ++ Kl17) from (by (try simp only [dj_app_l, dj_app_r, dj_cons_l, dj_cons_r, dj_nil_l, dj_nil_r, dk_app, dk_cons, dk_nil, and_true, true_and, and_assoc]); repeat' (first | trivial | assumption | exact Dj.symm (by assumption) | exact Ne.symm (by assumption) | apply And.intro))) _ hp)⟩)⟩)) ?_
  refine wpV_done (by kernel_rfl) (fun W2 hW2 => ?_) _
  refine (show Code.wp _ _ _ _ _ from ?_)
  refine wp_region_L (W0 := W0) ((g, .cells #[fn, .slice p19 (segs.length + 1) c19, .slice p2a (es ++ [cs ++ [c]]).length c2a, .slice p3a ([] : Elt).length c3a, .slice p4a ([] : Cmp).length c4a] 52 (0, 0)) :: ((T1a ++ (K2a ++ (T2a ++ (K3a ++ (K4a ++ R))))) ++ Kl17)) (hW2) ?_
  refine lm (v := .pointer (some ⟨g, 0, none⟩)) rfl rfl ?_
  refine lm (v := .pointer (some ⟨g, 0, none⟩)) rfl rfl ?_
  refine lm (v := .pointer (some ⟨g, 2, none⟩)) rfl rfl ?_
  refine wpL_s ((g, .cells #[fn, .slice p19 (segs.length + 1) c19, .slice none 0 0, .slice p3a ([] : Elt).length c3a, .slice p4a ([] : Cmp).length c4a] 52 (0, 0)) :: ((T1a ++ (K2a ++ (T2a ++ (K3a ++ (K4a ++ R))))) ++ Kl17)) rfl rfl (st_row (off := 2) (v := .slice none 0 0) rfl (by kernel_rfl) (by kernel_rfl) (.head _) hBa (by kernel_rfl) (by simp [Value.cells]) (by intro v hv; simp [Value.cells] at hv; first | (subst hv; rfl) | (rcases hv with rfl <;> rfl)) (by kernel_rfl) (List.forall_mem_cons.2 ⟨.inl rfl, (fun p hp => .inr ⟨(.tail _ hp), ((show Dk g ((T1a ++ (K2a ++ (T2a ++ (K3a ++ (K4a ++ R))))) ++ Kl17) from (by (try simp only [dj_app_l, dj_app_r, dj_cons_l, dj_cons_r, dj_nil_l, dj_nil_r, dk_app, dk_cons, dk_nil, and_true, true_and, and_assoc]); repeat' (first | trivial | assumption | exact Dj.symm (by assumption) | exact Ne.symm (by assumption) | apply And.intro))) _ hp)⟩)⟩)) ?_
  refine wpL_done (fun W3 hW3 => ?_)
  refine bodyPost_end (v := .tuple #[]) (results_none rfl _ _ _) rfl ?_
  exact ⟨_, ((g, .cells #[fn, .slice p19 (segs.length + 1) c19, .slice none 0 0, .slice p3a ([] : Elt).length c3a, .slice p4a ([] : Cmp).length c4a] 52 (0, 0)) :: (Kl17 ++ ((T1a ++ (T2a ++ K2a)) ++ ([] ++ ([] ++ (K3a ++ K4a)))))) ++ R, rfl, (hW3.sub (fun p hp => by simp only [List.mem_cons, List.mem_append, List.nil_append, List.not_mem_nil, or_assoc, or_false, false_or, List.cons_append, List.append_assoc] at hp ⊢ <;> grind)), rfl, ((g, .cells #[fn, .slice p19 (segs.length + 1) c19, .slice none 0 0, .slice p3a ([] : Elt).length c3a, .slice p4a ([] : Cmp).length c4a] 52 (0, 0)) :: (Kl17 ++ ((T1a ++ (T2a ++ K2a)) ++ ([] ++ ([] ++ (K3a ++ K4a)))))), rfl, ⟨_, _, _, _, _, _, _, _, _, _, _, _, _, _, _, _, Kl17, (T1a ++ (T2a ++ K2a)), [], [], K3a, K4a, (by simp [esOf, csOf, cOf]), (by simp [esOf, csOf, cOf]), (by simp [esOf, csOf, cOf]), (by simp [esOf, csOf, cOf]), rfl, rfl, rfl, hBa, O17, (MkE.snoc E1a (MkE.own O2a E2a rfl)), (OwnL.nil _ _ _), MkE.nil, O3a, O4a, (show Dk g (Kl17 ++ ((T1a ++ (T2a ++ K2a)) ++ ([] ++ ([] ++ (K3a ++ K4a))))) from (by (try simp only [dj_app_l, dj_app_r, dj_cons_l, dj_cons_r, dj_nil_l, dj_nil_r, dk_app, dk_cons, dk_nil, and_true, true_and, and_assoc]); repeat' (first | trivial | assumption | exact Dj.symm (by assumption) | exact Ne.symm (by assumption) | apply And.intro))), (show Dj Kl17 ((T1a ++ (T2a ++ K2a)) ++ ([] ++ ([] ++ (K3a ++ K4a)))) from (by (try simp only [dj_app_l, dj_app_r, dj_cons_l, dj_cons_r, dj_nil_l, dj_nil_r, dk_app, dk_cons, dk_nil, and_true, true_and, and_assoc]); repeat' (first | trivial | assumption | exact Dj.symm (by assumption) | exact Ne.symm (by assumption) | apply And.intro))), (show Dj (T1a ++ (T2a ++ K2a)) ([] ++ ([] ++ (K3a ++ K4a))) from (by (try simp only [dj_app_l, dj_app_r, dj_cons_l, dj_cons_r, dj_nil_l, dj_nil_r, dk_app, dk_cons, dk_nil, and_true, true_and, and_assoc]); repeat' (first | trivial | assumption | exact Dj.symm (by assumption) | exact Ne.symm (by assumption) | apply And.intro))), (show Dj [] ([] ++ (K3a ++ K4a)) from (by (try simp only [dj_app_l, dj_app_r, dj_cons_l, dj_cons_r, dj_nil_l, dj_nil_r, dk_app, dk_cons, dk_nil, and_true, true_and, and_assoc]); repeat' (first | trivial | assumption | exact Dj.symm (by assumption) | exact Ne.symm (by assumption) | apply And.intro))), (show Dj [] (K3a ++ K4a) from (by (try simp only [dj_app_l, dj_app_r, dj_cons_l, dj_cons_r, dj_nil_l, dj_nil_r, dk_app, dk_cons, dk_nil, and_true, true_and, and_assoc]); repeat' (first | trivial | assumption | exact Dj.symm (by assumption) | exact Ne.symm (by assumption) | apply And.intro))), (show Dj K3a K4a from (by (try simp only [dj_app_l, dj_app_r, dj_cons_l, dj_cons_r, dj_nil_l, dj_nil_r, dk_app, dk_cons, dk_nil, and_true, true_and, and_assoc]); repeat' (first | trivial | assumption | exact Dj.symm (by assumption) | exact Ne.symm (by assumption) | apply And.intro)))⟩, (show Dj ((g, .cells #[fn, .slice p19 (segs.length + 1) c19, .slice none 0 0, .slice p3a ([] : Elt).length c3a, .slice p4a ([] : Cmp).length c4a] 52 (0, 0)) :: (Kl17 ++ ((T1a ++ (T2a ++ K2a)) ++ ([] ++ ([] ++ (K3a ++ K4a)))))) R from (by (try simp only [dj_app_l, dj_app_r, dj_cons_l, dj_cons_r, dj_nil_l, dj_nil_r, dk_app, dk_cons, dk_nil, and_true, true_and, and_assoc]); repeat' (first | trivial | assumption | exact Dj.symm (by assumption) | exact Ne.symm (by assumption) | apply And.intro)))⟩
end Go.Proofs.Ytppegdbelgobiaa
namespace Go.Proofs.Ytppegdbelgobiaa
open Go Go.RowKit Tw
theorem errAt_ok {α : Type} {a : α} : errAt (Res.ok a) = 0 := rfl
theorem may_rn {b : UInt8} {r n : Nat} (hr : Rn b r n) : may b = (decide (32 ≤ r) && decide (r ≤ 126)) := by
  have h1 : (32 ≤ b.toNat) = (32 ≤ r) := by unfold Rn at hr; rw [eq_iff_iff]; omega
  have h2 : (b.toNat ≤ 126) = (r ≤ 126) := by unfold Rn at hr; rw [eq_iff_iff]; omega
  unfold may
  rw [decide_eq_decide.2 (Iff.of_eq h1), decide_eq_decide.2 (Iff.of_eq h2)]
theorem rn_eq {b : UInt8} {r n k : Nat} (hr : Rn b r n) (hk : k < 128) : (b.toNat = k) ↔ (r = k) := by unfold Rn at hr; omega
theorem svc_rn {b : UInt8} {r n : Nat} (hr : Rn b r n) : svc b = (decide (r = 39) || decide (r = 43) || decide (r = 58) || decide (r = 63)) := by
  unfold svc
  rw [decide_eq_decide.2 (rn_eq hr (by omega)), decide_eq_decide.2 (rn_eq hr (by omega)), decide_eq_decide.2 (rn_eq hr (by omega)), decide_eq_decide.2 (rn_eq hr (by omega))]
theorem rn_le {b : UInt8} {r n : Nat} (hr : Rn b r n) : r ≤ 2147483647 := by have := b.toNat_lt; unfold Rn at hr; omega
section
variable {i : Nat} {b : UInt8} {r n : Nat} {segs : List Sgm} {es : List Elt} {cs : List Cmp} {c : Cmp}
theorem may_low (h : 32 ≤ b.toNat) (h2 : b.toNat ≤ 126) : may b = true := by unfold may; simp; omega
theorem ins_39 (hr : Rn b r n) (h : r = 39) : inside i b segs es cs c = .ok ⟨segs ++ [es ++ [cs ++ [c]]], .out⟩ := by
  have hb := (rn_eq hr (by omega)).2 h
  unfold inside
  rw [if_neg (by rw [may_low (by omega) (by omega)]; simp), if_pos hb]
theorem ins_43a (hr : Rn b r n) (h : r = 43) (hl : 29 ≤ es.length) : inside i b segs es cs c = .bad i 5 := by
  have hb := (rn_eq hr (by omega)).2 h
  unfold inside
  rw [if_neg (by rw [may_low (by omega) (by omega)]; simp), if_neg (by omega), if_pos hb, if_pos hl]
theorem ins_43b (hr : Rn b r n) (h : r = 43) (hl : ¬ 29 ≤ es.length) : inside i b segs es cs c = .ok ⟨segs, .ins (es ++ [cs ++ [c]]) [] []⟩ := by
  have hb := (rn_eq hr (by omega)).2 h
  unfold inside
  rw [if_neg (by rw [may_low (by omega) (by omega)]; simp), if_neg (by omega), if_pos hb, if_neg hl]
theorem ins_58a (hr : Rn b r n) (h : r = 58) (hl : 9 ≤ cs.length) : inside i b segs es cs c = .bad i 5 := by
  have hb := (rn_eq hr (by omega)).2 h
  unfold inside
  rw [if_neg (by rw [may_low (by omega) (by omega)]; simp), if_neg (by omega), if_neg (by omega), if_pos hb, if_pos hl]
theorem ins_58b (hr : Rn b r n) (h : r = 58) (hl : ¬ 9 ≤ cs.length) : inside i b segs es cs c = .ok ⟨segs, .ins es (cs ++ [c]) []⟩ := by
  have hb := (rn_eq hr (by omega)).2 h
  unfold inside
  rw [if_neg (by rw [may_low (by omega) (by omega)]; simp), if_neg (by omega), if_neg (by omega), if_pos hb, if_neg hl]
theorem ins_63 (hr : Rn b r n) (h : r = 63) : inside i b segs es cs c = .ok ⟨segs, .rel i es cs c⟩ := by
  have hb := (rn_eq hr (by omega)).2 h
  unfold inside
  rw [if_neg (by rw [may_low (by omega) (by omega)]; simp), if_neg (by omega), if_neg (by omega), if_neg (by omega), if_pos hb]
theorem ins_no (h : may b = false) : inside i b segs es cs c = .bad i 40 := by
  unfold inside
  rw [if_pos h]
theorem ins_put (hr : Rn b r n) (h : may b = true) (h1 : ¬ r = 39) (h2 : ¬ r = 43) (h3 : ¬ r = 58) (h4 : ¬ r = 63) : inside i b segs es cs c = putc i b segs es cs c := by
  have e1 := fun e => h1 ((rn_eq hr (by omega)).1 e)
  have e2 := fun e => h2 ((rn_eq hr (by omega)).1 e)
  have e3 := fun e => h3 ((rn_eq hr (by omega)).1 e)
  have e4 := fun e => h4 ((rn_eq hr (by omega)).1 e)
  unfold inside
  rw [if_neg (by rw [h]; simp), if_neg e1, if_neg e2, if_neg e3, if_neg e4]
theorem low_may (hr : Rn b r n) (h : may b = true) : r = b.toNat := by
  unfold may at h
  simp at h
  unfold Rn at hr
  omega
theorem putc_a (h : 100 ≤ c.length) : putc i b segs es cs c = .bad i 3 := if_pos h
theorem putc_b (h : ¬ 100 ≤ c.length) : putc i b segs es cs c = .ok ⟨segs, .ins es cs (c ++ [b])⟩ := if_neg h
theorem out_gap (hr : Rn b r n) (h : r = 10 ∨ r = 13 ∨ r = 32) : step i b ⟨segs, .out⟩ = .ok ⟨segs, .out⟩ := by
  have hg : gap b = true := by
    unfold gap
    unfold Rn at hr
    simp
    omega
  exact if_pos hg
theorem not_gap (hr : Rn b r n) (h1 : ¬ r = 10) (h2 : ¬ r = 13) (h3 : ¬ r = 32) : ¬ gap b = true := by
  unfold gap
  unfold Rn at hr
  simp
  omega
theorem out_many (hr : Rn b r n) (h1 : ¬ r = 10) (h2 : ¬ r = 13) (h3 : ¬ r = 32) (h : 5000 ≤ segs.length) : step i b ⟨segs, .out⟩ = .bad i 5 := by
  show (if gap b = true then _ else _) = _
  rw [if_neg (not_gap hr h1 h2 h3), if_pos h]
theorem out_ins (hr : Rn b r n) (h1 : ¬ r = 10) (h2 : ¬ r = 13) (h3 : ¬ r = 32) (h : ¬ 5000 ≤ segs.length) : step i b ⟨segs, .out⟩ = inside i b segs [] [] [] := by
  show (if gap b = true then _ else _) = _
  rw [if_neg (not_gap hr h1 h2 h3), if_neg h]
theorem rel_no {p : Nat} (hr : Rn b r n) (h1 : svc b = false) (h2 : ¬ r = 32) : step i b ⟨segs, .rel p es cs c⟩ = .bad p 41 := by
  have e := fun e => h2 ((rn_eq hr (by omega)).1 e)
  show (if (svc b || decide (b.toNat = 32)) = true then _ else _) = _
  rw [if_neg (by rw [h1]; simp; exact e)]
theorem rel_yes {p : Nat} (hr : Rn b r n) (h : svc b = true ∨ r = 32) : step i b ⟨segs, .rel p es cs c⟩ = putc p b segs es cs c := by
  show (if (svc b || decide (b.toNat = 32)) = true then _ else _) = _
  rw [if_pos]
  rcases h with h | h
  · rw [h]; rfl
  · rw [decide_eq_true ((rn_eq hr (by omega)).2 h)]; simp
theorem rel_low (hr : Rn b r n) (h : svc b = true ∨ r = 32) : r = b.toNat := by
  rcases h with h | h
  · unfold svc at h
    simp at h
    unfold Rn at hr
    omega
  · exact h.trans ((rn_eq hr (by omega)).2 h).symm
theorem ans_bad {W0 : Base} {g p e : Nat} {res : Res Sta} {R K : List (Nat × Obj)} {w' : World} (he : res = .bad p e) (hk : KS W0 R w') : ∃ v K', Ending.returned (.tuple #[.int .i64 ((p : Nat) : Int), .int .i64 ((e : Nat) : Int)]) = .returned v ∧ KS W0 K' w' ∧ Ans W0 g res R v K' := by
  subst he
  exact ⟨_, R, rfl, hk, rfl, [], rfl, fun s' h => by cases h⟩
theorem ans_ok {W0 : Base} {g : Nat} {res : Res Sta} {s : Sta} {R K2 : List (Nat × Obj)} {w' : World} (he : res = .ok s) (hk : KS W0 (K2 ++ R) w') (hS : RdS W0 g s K2) (hd : Dj K2 R) : ∃ v K', Ending.returned (.tuple #[.int .i64 0, .int .i64 0]) = .returned v ∧ KS W0 K' w' ∧ Ans W0 g res R v K' := by
  subst he
  exact ⟨_, _, rfl, hk, rfl, K2, rfl, fun s' h => by cases h; exact ⟨hS, hd⟩⟩
end
set_option maxRecDepth 100000 in
set_option maxHeartbeats 4000000 in
theorem mayStand_any (b : UInt8) (r n : Nat) (hr : Rn b r n) (w : World) : Calls Try.prog 54 #[.int .i32 ((r : Nat) : Int)] w fun e w' => e = .returned (.bool (may b)) ∧ Below w.heap.size w w' := by
  have lr := rn_le hr
  go_enter Try.func54, Try.ntmps54
  refine wp_seq ?_
  refine wp_region_L (W0 := w) [] (KS.start w) ?_
  refine lm (v := .bool false) rfl rfl ?_
  refine wpL_done (fun W1 hW1 => ?_)
  refine (show Code.wp _ _ _ _ _ from ?_)
  refine wp_seq ?_
  refine wp_region_L (W0 := w) [] (hW1) ?_
  refine lm (v := .int .i32 ((r : Nat) : Int)) rfl rfl ?_
  refine lp (v := .bool (!(decide (r < 32)))) rfl rfl (run_bin rfl (vx := (.int .i32 ((32 : Nat) : Int))) (vy := (.int .i32 ((r : Nat) : Int))) (by kernel_rfl) (by kernel_rfl) fun w => bn_leq rfl w) ?_
  refine lm (v := .bool (!(decide (r < 32)))) rfl rfl ?_
  cases hd1 : (decide (r < 32)) with
  | false =>
    have h1 : ¬ (r < 32) := of_decide_eq_false hd1
    clear hd1
    refine lm (v := .int .i32 ((r : Nat) : Int)) rfl rfl ?_
    refine lp (v := .bool (!(decide (126 < r)))) rfl rfl (run_bin rfl (vx := (.int .i32 ((r : Nat) : Int))) (vy := (.int .i32 ((126 : Nat) : Int))) (by kernel_rfl) (by kernel_rfl) fun w => bn_leq rfl w) ?_
    refine lm (v := .bool (!(decide (126 < r)))) rfl rfl ?_
    refine lm (v := .bool (!(decide (126 < r)))) rfl rfl ?_
    refine wpL_done (fun W2 hW2 => ?_)
    refine (show Code.wp _ _ _ _ _ from ?_)
    refine wp_ret ?_
    try simp only [inBlock_ret, then_ret]
    refine bodyPost_ret (v := .bool (!(decide (126 < r)))) ?_ rfl ?_
    · kernel_rfl
    · exact ⟨(bool_is (by rw [may_rn hr, Bool.eq_iff_iff]; simp; omega)), hW2.1⟩
  | true =>
    have h1 : r < 32 := of_decide_eq_true hd1
    clear hd1
    refine ln rfl ?_
    refine ln rfl ?_
    refine lm (v := .bool false) rfl rfl ?_
    refine lm (v := .bool false) rfl rfl ?_
    refine wpL_done (fun W3 hW3 => ?_)
    refine (show Code.wp _ _ _ _ _ from ?_)
    refine wp_ret ?_
    try simp only [inBlock_ret, then_ret]
    refine bodyPost_ret (v := .bool false) ?_ rfl ?_
    · kernel_rfl
    · exact ⟨(bool_is (by rw [may_rn hr, Bool.eq_iff_iff]; simp; omega)), hW3.1⟩
set_option maxRecDepth 100000 in
set_option maxHeartbeats 4000000 in
theorem isService_any (b : UInt8) (r n : Nat) (hr : Rn b r n) (w : World) : Calls Try.prog 49 #[.int .i32 ((r : Nat) : Int)] w fun e w' => e = .returned (.bool (svc b)) ∧ Below w.heap.size w w' := by
  have lr := rn_le hr
  go_enter Try.func49, Try.ntmps49
  refine wp_seq ?_
  refine wp_region_L (W0 := w) [] (KS.start w) ?_
  refine lm (v := .bool false) rfl rfl ?_
  refine wpL_done (fun W1 hW1 => ?_)
  refine (show Code.wp _ _ _ _ _ from ?_)
  refine wp_seq ?_
  refine wp_region_L (W0 := w) [] (hW1) ?_
  refine lm (v := .int .i32 ((r : Nat) : Int)) rfl rfl ?_
  refine lp (v := .bool (decide (r = 39))) rfl rfl (run_bin rfl (vx := (.int .i32 ((r : Nat) : Int))) (vy := (.int .i32 ((39 : Nat) : Int))) (by kernel_rfl) (by kernel_rfl) fun w => bn_eql rfl w) ?_
  refine lm (v := .bool (decide (r = 39))) rfl rfl ?_
  cases hd1 : (decide (r = 39)) with
  | false =>
    have h1 : ¬ (r = 39) := of_decide_eq_false hd1
    clear hd1
    refine lm (v := .int .i32 ((r : Nat) : Int)) rfl rfl ?_
    refine lp (v := .bool (decide (r = 43))) rfl rfl (run_bin rfl (vx := (.int .i32 ((r : Nat) : Int))) (vy := (.int .i32 ((43 : Nat) : Int))) (by kernel_rfl) (by kernel_rfl) fun w => bn_eql rfl w) ?_
    refine lm (v := .bool (decide (r = 43))) rfl rfl ?_
    refine lm (v := .bool (decide (r = 43))) rfl rfl ?_
    cases hd2 : (decide (r = 43)) with
    | false =>
      have h2 : ¬ (r = 43) := of_decide_eq_false hd2
      clear hd2
      refine lm (v := .int .i32 ((r : Nat) : Int)) rfl rfl ?_
      refine lp (v := .bool (decide (r = 58))) rfl rfl (run_bin rfl (vx := (.int .i32 ((r : Nat) : Int))) (vy := (.int .i32 ((58 : Nat) : Int))) (by kernel_rfl) (by kernel_rfl) fun w => bn_eql rfl w) ?_
      refine lm (v := .bool (decide (r = 58))) rfl rfl ?_
      refine lm (v := .bool (decide (r = 58))) rfl rfl ?_
      cases hd3 : (decide (r = 58)) with
      | false =>
        have h3 : ¬ (r = 58) := of_decide_eq_false hd3
        clear hd3
        refine lm (v := .int .i32 ((r : Nat) : Int)) rfl rfl ?_
        refine lp (v := .bool (decide (r = 63))) rfl rfl (run_bin rfl (vx := (.int .i32 ((r : Nat) : Int))) (vy := (.int .i32 ((63 : Nat) : Int))) (by kernel_rfl) (by kernel_rfl) fun w => bn_eql rfl w) ?_
        refine lm (v := .bool (decide (r = 63))) rfl rfl ?_
        refine lm (v := .bool (decide (r = 63))) rfl rfl ?_
        refine wpL_done (fun W2 hW2 => ?_)
        refine (show Code.wp _ _ _ _ _ from ?_)
        refine wp_ret ?_
        try simp only [inBlock_ret, then_ret]
        refine bodyPost_ret (v := .bool (decide (r = 63))) ?_ rfl ?_
        · kernel_rfl
        · exact ⟨(bool_is (by rw [svc_rn hr]; simp [*])), hW2.1⟩
      | true =>
        have h3 : r = 58 := of_decide_eq_true hd3
        clear hd3
        refine ln rfl ?_
        refine ln rfl ?_
        refine lm (v := .bool true) rfl rfl ?_
        refine lm (v := .bool true) rfl rfl ?_
        refine wpL_done (fun W3 hW3 => ?_)
        refine (show Code.wp _ _ _ _ _ from ?_)
        refine wp_ret ?_
        try simp only [inBlock_ret, then_ret]
        refine bodyPost_ret (v := .bool true) ?_ rfl ?_
        · kernel_rfl
        · exact ⟨(bool_is (by rw [svc_rn hr]; simp [*])), hW3.1⟩
    | true =>
      have h2 : r = 43 := of_decide_eq_true hd2
      clear hd2
      refine ln rfl ?_
      refine ln rfl ?_
      refine lm (v := .bool true) rfl rfl ?_
      refine lm (v := .bool true) rfl rfl ?_
      refine ln rfl ?_
      refine ln rfl ?_
      refine lm (v := .bool true) rfl rfl ?_
      refine lm (v := .bool true) rfl rfl ?_
      refine wpL_done (fun W4 hW4 => ?_)
      refine (show Code.wp _ _ _ _ _ from ?_)
      refine wp_ret ?_
      try simp only [inBlock_ret, then_ret]
      refine bodyPost_ret (v := .bool true) ?_ rfl ?_
      · kernel_rfl
      · exact ⟨(bool_is (by rw [svc_rn hr]; simp [*])), hW4.1⟩
  | true =>
    have h1 : r = 39 := of_decide_eq_true hd1
    clear hd1
    refine ln rfl ?_
    refine ln rfl ?_
    refine lm (v := .bool true) rfl rfl ?_
    refine lm (v := .bool true) rfl rfl ?_
    refine ln rfl ?_
    refine ln rfl ?_
    refine lm (v := .bool true) rfl rfl ?_
    refine lm (v := .bool true) rfl rfl ?_
    refine ln rfl ?_
    refine ln rfl ?_
    refine lm (v := .bool true) rfl rfl ?_
    refine lm (v := .bool true) rfl rfl ?_
    refine wpL_done (fun W5 hW5 => ?_)
    refine (show Code.wp _ _ _ _ _ from ?_)
    refine wp_ret ?_
    try simp only [inBlock_ret, then_ret]
    refine bodyPost_ret (v := .bool true) ?_ rfl ?_
    · kernel_rfl
    · exact ⟨(bool_is (by rw [svc_rn hr]; simp [*])), hW5.1⟩
set_option maxRecDepth 100000 in
set_option maxHeartbeats 4000000 in
theorem put_any {W0 : Base} {g : Nat} {segs : List Sgm} {es : List Elt} {cs : List Cmp} {c : Cmp} {i r : Nat} {b : UInt8} {K R : List (Nat × Obj)} (hV : RdV W0 g (.func (.func 39) #[.pointer (some ⟨g, 0, none⟩)] #[]) segs es cs c K) (hR : Dj K R) (lc : c.length ≤ 100) (li : i ≤ 4000000000) (hb : r = b.toNat) (w : World) (hw : KS W0 (K ++ R) w) : Calls Try.prog 55 #[.pointer (some ⟨g, 0, none⟩), .int .i64 ((i : Nat) : Int), .int .i32 ((r : Nat) : Int)] w fun e w' => ∃ v K', e = .returned v ∧ KS W0 K' w' ∧ Ans W0 g (putc i b segs es cs c) R v K' := by
  have lb := b.toNat_lt
  obtain ⟨p1, p2, p3, p4, _, _, _, _, c1, c2, c3, c4, x1, x2, _, _, K1, T1, K2, T2, K3, K4, rfl, rfl, rfl, rfl, rfl, rfl, rfl, hB, O1, E1, O2, E2, O3, O4, dg, d1, d2, d3, d4, d5⟩ := hV
  obtain ⟨dj1_0, dj1_1, dj1_2, dj1_3, dj1_4, dj1_5⟩ : Dk g K1 ∧ Dk g T1 ∧ Dk g K2 ∧ Dk g T2 ∧ Dk g K3 ∧ Dk g K4 := by simpa only [dj_app_l, dj_app_r, dj_cons_l, dj_cons_r, dj_nil_l, dj_nil_r, dk_app, dk_cons, dk_nil, and_true, true_and, and_assoc] using (show Dk g (K1 ++ (T1 ++ (K2 ++ (T2 ++ (K3 ++ K4))))) from dg)
  obtain ⟨dj2_0, dj2_1, dj2_2, dj2_3, dj2_4⟩ : Dj K1 T1 ∧ Dj K1 K2 ∧ Dj K1 T2 ∧ Dj K1 K3 ∧ Dj K1 K4 := by simpa only [dj_app_l, dj_app_r, dj_cons_l, dj_cons_r, dj_nil_l, dj_nil_r, dk_app, dk_cons, dk_nil, and_true, true_and, and_assoc] using (show Dj K1 (T1 ++ (K2 ++ (T2 ++ (K3 ++ K4)))) from d1)
  obtain ⟨dj3_0, dj3_1, dj3_2, dj3_3⟩ : Dj T1 K2 ∧ Dj T1 T2 ∧ Dj T1 K3 ∧ Dj T1 K4 := by simpa only [dj_app_l, dj_app_r, dj_cons_l, dj_cons_r, dj_nil_l, dj_nil_r, dk_app, dk_cons, dk_nil, and_true, true_and, and_assoc] using (show Dj T1 (K2 ++ (T2 ++ (K3 ++ K4))) from d2)
  obtain ⟨dj4_0, dj4_1, dj4_2⟩ : Dj K2 T2 ∧ Dj K2 K3 ∧ Dj K2 K4 := by simpa only [dj_app_l, dj_app_r, dj_cons_l, dj_cons_r, dj_nil_l, dj_nil_r, dk_app, dk_cons, dk_nil, and_true, true_and, and_assoc] using (show Dj K2 (T2 ++ (K3 ++ K4)) from d3)
  obtain ⟨dj5_0, dj5_1⟩ : Dj T2 K3 ∧ Dj T2 K4 := by simpa only [dj_app_l, dj_app_r, dj_cons_l, dj_cons_r, dj_nil_l, dj_nil_r, dk_app, dk_cons, dk_nil, and_true, true_and, and_assoc] using (show Dj T2 (K3 ++ K4) from d4)
  obtain dj6_0 : Dj K3 K4 := by simpa only [dj_app_l, dj_app_r, dj_cons_l, dj_cons_r, dj_nil_l, dj_nil_r, dk_app, dk_cons, dk_nil, and_true, true_and, and_assoc] using (show Dj K3 K4 from d5)
  obtain ⟨dj7_0, dj7_1, dj7_2, dj7_3, dj7_4, dj7_5, dj7_6⟩ : Dk g R ∧ Dj K1 R ∧ Dj T1 R ∧ Dj K2 R ∧ Dj T2 R ∧ Dj K3 R ∧ Dj K4 R := by simpa only [dj_app_l, dj_app_r, dj_cons_l, dj_cons_r, dj_nil_l, dj_nil_r, dk_app, dk_cons, dk_nil, and_true, true_and, and_assoc] using (show Dj ((g, .cells #[.func (.func 39) #[.pointer (some ⟨g, 0, none⟩)] #[], .slice p1 segs.length c1, .slice p2 es.length c2, .slice p3 cs.length c3, .slice p4 c.length c4] 52 (0, 0)) :: (K1 ++ (T1 ++ (K2 ++ (T2 ++ (K3 ++ K4)))))) R from hR)
  go_enter Try.func55, Try.ntmps55
  refine wp_seq ?_
  refine wp_region_L (W0 := W0) ((g, .cells #[.func (.func 39) #[.pointer (some ⟨g, 0, none⟩)] #[], .slice p1 segs.length c1, .slice p2 es.length c2, .slice p3 cs.length c3, .slice p4 c.length c4] 52 (0, 0)) :: (K1 ++ (T1 ++ (K2 ++ (T2 ++ (K3 ++ (K4 ++ R))))))) ((hw.sub (fun p hp => by simp only [List.mem_cons, List.mem_append, List.nil_append, List.not_mem_nil, or_assoc, or_false, false_or, List.cons_append, List.append_assoc] at hp ⊢ <;> grind))) ?_
  refine lm (v := .int .i64 0) rfl rfl ?_
  refine lm (v := .int .i64 0) rfl rfl ?_
  refine wpL_done (fun W1 hW1 => ?_)
  refine (show Code.wp _ _ _ _ _ from ?_)
  refine wp_seq ?_
  refine wp_seq ?_
  refine wp_region_L (W0 := W0) ((g, .cells #[.func (.func 39) #[.pointer (some ⟨g, 0, none⟩)] #[], .slice p1 segs.length c1, .slice p2 es.length c2, .slice p3 cs.length c3, .slice p4 c.length c4] 52 (0, 0)) :: (K1 ++ (T1 ++ (K2 ++ (T2 ++ (K3 ++ (K4 ++ R))))))) (hW1) ?_
  refine lm (v := .pointer (some ⟨g, 0, none⟩)) rfl rfl ?_
  refine lm (v := .pointer (some ⟨g, 0, none⟩)) rfl rfl ?_
  refine lm (v := .pointer (some ⟨g, 4, none⟩)) rfl rfl ?_
  refine lv (v := .slice p4 c.length c4) rfl rfl (yb_cell (off := 4) rfl (by kernel_rfl) (.head _) Try.underlying26 rfl (by kernel_rfl)) ?_
  refine lp (v := .int .i64 ((c.length : Nat) : Int)) rfl rfl (run_lenO (W0 := W0) rfl Try.underlying26 (by kernel_rfl) O4) ?_
  refine lp (v := .bool (decide (c.length = 100))) rfl rfl (run_bin rfl (vx := (.int .i64 ((c.length : Nat) : Int))) (vy := (.int .i64 ((100 : Nat) : Int))) (by kernel_rfl) (by kernel_rfl) fun w => bn_eql rfl w) ?_
  refine wpL_done (fun W2 hW2 => ?_)
  refine (show Code.wp _ _ _ _ _ from ?_)
  cases hd1 : (decide (c.length = 100)) with
  | false =>
    have h1 : ¬ (c.length = 100) := of_decide_eq_false hd1
    clear hd1
    refine wp_cond_false rfl ?_
    refine wp_skip ?_
    refine (show Code.wp _ _ _ _ _ from ?_)
    refine wp_seq ?_
    refine wp_region_L (W0 := W0) ((g, .cells #[.func (.func 39) #[.pointer (some ⟨g, 0, none⟩)] #[], .slice p1 segs.length c1, .slice p2 es.length c2, .slice p3 cs.length c3, .slice p4 c.length c4] 52 (0, 0)) :: (K1 ++ (T1 ++ (K2 ++ (T2 ++ (K3 ++ (K4 ++ R))))))) (hW2) ?_
    refine lm (v := .pointer (some ⟨g, 0, none⟩)) rfl rfl ?_
    refine lm (v := .pointer (some ⟨g, 0, none⟩)) rfl rfl ?_
    refine lm (v := .pointer (some ⟨g, 0, none⟩)) rfl rfl ?_
    refine lm (v := .pointer (some ⟨g, 4, none⟩)) rfl rfl ?_
    refine lv (v := .slice p4 c.length c4) rfl rfl (yb_cell (off := 4) rfl (by kernel_rfl) (.head _) Try.underlying26 rfl (by kernel_rfl)) ?_
    refine lm (v := .int .i32 ((r : Nat) : Int)) rfl rfl ?_
    refine lp (v := .int .u8 ((r : Nat) : Int)) rfl rfl (run_conv rfl (vx := (.int .i32 ((r : Nat) : Int))) (by kernel_rfl) fun w => cv_int Try.underlying21 Try.underlying5 (wr_u8 (by omega)) w) ?_
    refine wpL_new (fun g => .slice (some ⟨g, 0, none⟩) 1 1) (obi := .cells #[.int .u8 ((r : Nat) : Int)] 5 (0, 0)) rfl rfl (fun _ => by kernel_rfl) (fun _ => by simp only [List.setIfInBounds_toArray, List.set_cons_succ, List.set_cons_zero] <;> rfl) fun g8 Bg8 Fg8 => ?_
    obtain ⟨dj9_0, dj9_1, dj9_2, dj9_3, dj9_4, dj9_5, dj9_6, dj9_7⟩ : g ≠ g8 ∧ Dk g8 K1 ∧ Dk g8 T1 ∧ Dk g8 K2 ∧ Dk g8 T2 ∧ Dk g8 K3 ∧ Dk g8 K4 ∧ Dk g8 R := by simpa only [dj_app_l, dj_app_r, dj_cons_l, dj_cons_r, dj_nil_l, dj_nil_r, dk_app, dk_cons, dk_nil, and_true, true_and, and_assoc] using (show Dk g8 ((g, .cells #[.func (.func 39) #[.pointer (some ⟨g, 0, none⟩)] #[], .slice p1 segs.length c1, .slice p2 es.length c2, .slice p3 cs.length c3, .slice p4 c.length c4] 52 (0, 0)) :: (K1 ++ (T1 ++ (K2 ++ (T2 ++ (K3 ++ (K4 ++ R))))))) from Fg8)
    refine wpL_g (AppO W0 5 1 ((g, .cells #[.func (.func 39) #[.pointer (some ⟨g, 0, none⟩)] #[], .slice p1 segs.length c1, .slice p2 es.length c2, .slice p3 cs.length c3, .slice p4 c.length c4] 52 (0, 0)) :: (K1 ++ (T1 ++ (K2 ++ (T2 ++ (K3 ++ R)))))) (c.length + 1) ((u8s c) ++ [.int .u8 ((r : Nat) : Int)])) rfl rfl (app_own el_byteM (m := 1) (c := 1) (news := [.int .u8 ((r : Nat) : Int)]) rfl (by kernel_rfl) (by kernel_rfl) (.head _) O4 (fun p hp => by simp only [List.mem_cons, List.mem_append, List.nil_append, List.not_mem_nil, or_assoc, or_false, false_or, hp, or_true, true_or]) (fun p hp => ⟨by simp only [List.mem_cons, List.mem_append, List.nil_append, List.not_mem_nil, or_assoc, or_false, false_or] at hp ⊢ <;> grind, (show Dj ((g, .cells #[.func (.func 39) #[.pointer (some ⟨g, 0, none⟩)] #[], .slice p1 segs.length c1, .slice p2 es.length c2, .slice p3 cs.length c3, .slice p4 c.length c4] 52 (0, 0)) :: (K1 ++ (T1 ++ (K2 ++ (T2 ++ (K3 ++ R)))))) K4 from (by (try simp only [dj_app_l, dj_app_r, dj_cons_l, dj_cons_r, dj_nil_l, dj_nil_r, dk_app, dk_cons, dk_nil, and_true, true_and, and_assoc]); repeat' (first | trivial | assumption | exact Dj.symm (by assumption) | exact Ne.symm (by assumption) | apply And.intro))) p hp⟩) rfl (by simp [strV, Value.oneCell']) (by omega) (by omega) (by omega)) (fun _ => by simp only [List.setIfInBounds_toArray, List.set_cons_succ, List.set_cons_zero] <;> rfl) ?_
    rintro v10 K9 ⟨Kl10, O10, N10, rfl⟩
    obtain ⟨dj11_0, dj11_1, dj11_2, dj11_3, dj11_4, dj11_5, dj11_6⟩ : Dk g Kl10 ∧ Dj K1 Kl10 ∧ Dj T1 Kl10 ∧ Dj K2 Kl10 ∧ Dj T2 Kl10 ∧ Dj K3 Kl10 ∧ Dj R Kl10 := by simpa only [dj_app_l, dj_app_r, dj_cons_l, dj_cons_r, dj_nil_l, dj_nil_r, dk_app, dk_cons, dk_nil, and_true, true_and, and_assoc] using (show Dj ((g, .cells #[.func (.func 39) #[.pointer (some ⟨g, 0, none⟩)] #[], .slice p1 segs.length c1, .slice p2 es.length c2, .slice p3 cs.length c3, .slice p4 c.length c4] 52 (0, 0)) :: (K1 ++ (T1 ++ (K2 ++ (T2 ++ (K3 ++ R)))))) Kl10 from N10)
    refine lm (v := .pointer (some ⟨g, 0, none⟩)) rfl rfl ?_
    refine lm (v := .pointer (some ⟨g, 4, none⟩)) rfl rfl ?_
    obtain ⟨p12, c12, rfl⟩ := own_shape O10
    refine wpL_s ((g, .cells #[.func (.func 39) #[.pointer (some ⟨g, 0, none⟩)] #[], .slice p1 segs.length c1, .slice p2 es.length c2, .slice p3 cs.length c3, .slice p12 (c.length + 1) c12] 52 (0, 0)) :: ((K1 ++ (T1 ++ (K2 ++ (T2 ++ (K3 ++ R))))) ++ Kl10)) rfl rfl (st_row (off := 4) (v := .slice p12 (c.length + 1) c12) rfl (by kernel_rfl) (by kernel_rfl) (.head _) hB (by kernel_rfl) (by simp [Value.cells]) (by intro v hv; simp [Value.cells] at hv; first | (subst hv; rfl) | (rcases hv with rfl <;> rfl)) (by kernel_rfl) (List.forall_mem_cons.2 ⟨.inl rfl, (fun p hp => .inr ⟨(.tail _ hp), ((show Dk g ((K1 ++ (T1 ++ (K2 ++ (T2 ++ (K3 ++ R))))) ++ Kl10) from (by (try simp only [dj_app_l, dj_app_r, dj_cons_l, dj_cons_r, dj_nil_l, dj_nil_r, dk_app, dk_cons, dk_nil, and_true, true_and, and_assoc]); repeat' (first | trivial | assumption | exact Dj.symm (by assumption) | exact Ne.symm (by assumption) | apply And.intro))) _ hp)⟩)⟩)) ?_
    refine wpL_done (fun W3 hW3 => ?_)
    refine (show Code.wp _ _ _ _ _ from ?_)
    refine wp_seq ?_
    refine wp_region_L (W0 := W0) ((g, .cells #[.func (.func 39) #[.pointer (some ⟨g, 0, none⟩)] #[], .slice p1 segs.length c1, .slice p2 es.length c2, .slice p3 cs.length c3, .slice p12 (c.length + 1) c12] 52 (0, 0)) :: ((K1 ++ (T1 ++ (K2 ++ (T2 ++ (K3 ++ R))))) ++ Kl10)) (hW3) ?_
    refine lm (v := .int .i64 0) rfl rfl ?_
    refine lm (v := .int .i64 0) rfl rfl ?_
    refine wpL_done (fun W4 hW4 => ?_)
    refine (show Code.wp _ _ _ _ _ from ?_)
    refine wp_ret ?_
    try simp only [inBlock_ret, then_ret]
    refine bodyPost_ret (v := .tuple #[.int .i64 0, .int .i64 0]) ?_ rfl ?_
    · kernel_rfl
    · exact ans_ok (K2 := ((g, .cells #[.func (.func 39) #[.pointer (some ⟨g, 0, none⟩)] #[], .slice p1 segs.length c1, .slice p2 es.length c2, .slice p3 cs.length c3, .slice p12 (c.length + 1) c12] 52 (0, 0)) :: (K1 ++ (T1 ++ (K2 ++ (T2 ++ (K3 ++ Kl10))))))) (putc_b (by omega)) (hW4.sub (fun p hp => by simp only [List.mem_cons, List.mem_append, List.nil_append, List.not_mem_nil, or_assoc, or_false, false_or, List.cons_append, List.append_assoc] at hp ⊢ <;> grind)) ⟨_, _, _, _, _, _, _, _, _, _, _, _, _, _, _, _, K1, T1, K2, T2, K3, Kl10, (by simp [esOf, csOf, cOf]), (by simp [esOf, csOf, cOf]), (by simp [esOf, csOf, cOf]), (by simp [esOf, csOf, cOf]), rfl, (u8s_snoc hb), rfl, hB, O1, E1, O2, E2, O3, O10, (show Dk g (K1 ++ (T1 ++ (K2 ++ (T2 ++ (K3 ++ Kl10))))) from (by (try simp only [dj_app_l, dj_app_r, dj_cons_l, dj_cons_r, dj_nil_l, dj_nil_r, dk_app, dk_cons, dk_nil, and_true, true_and, and_assoc]); repeat' (first | trivial | assumption | exact Dj.symm (by assumption) | exact Ne.symm (by assumption) | apply And.intro))), (show Dj K1 (T1 ++ (K2 ++ (T2 ++ (K3 ++ Kl10)))) from (by (try simp only [dj_app_l, dj_app_r, dj_cons_l, dj_cons_r, dj_nil_l, dj_nil_r, dk_app, dk_cons, dk_nil, and_true, true_and, and_assoc]); repeat' (first | trivial | assumption | exact Dj.symm (by assumption) | exact Ne.symm (by assumption) | apply And.intro))), (show Dj T1 (K2 ++ (T2 ++ (K3 ++ Kl10))) from (by (try simp only [dj_app_l, dj_app_r, dj_cons_l, dj_cons_r, dj_nil_l, dj_nil_r, dk_app, dk_cons, dk_nil, and_true, true_and, and_assoc]); repeat' (first | trivial | assumption | exact Dj.symm (by assumption) | exact Ne.symm (by assumption) | apply And.intro))), (show Dj K2 (T2 ++ (K3 ++ Kl10)) from (by (try simp only [dj_app_l, dj_app_r, dj_cons_l, dj_cons_r, dj_nil_l, dj_nil_r, dk_app, dk_cons, dk_nil, and_true, true_and, and_assoc]); repeat' (first | trivial | assumption | exact Dj.symm (by assumption) | exact Ne.symm (by assumption) | apply And.intro))), (show Dj T2 (K3 ++ Kl10) from (by (try simp only [dj_app_l, dj_app_r, dj_cons_l, dj_cons_r, dj_nil_l, dj_nil_r, dk_app, dk_cons, dk_nil, and_true, true_and, and_assoc]); repeat' (first | trivial | assumption | exact Dj.symm (by assumption) | exact Ne.symm (by assumption) | apply And.intro))), (show Dj K3 Kl10 from (by (try simp only [dj_app_l, dj_app_r, dj_cons_l, dj_cons_r, dj_nil_l, dj_nil_r, dk_app, dk_cons, dk_nil, and_true, true_and, and_assoc]); repeat' (first | trivial | assumption | exact Dj.symm (by assumption) | exact Ne.symm (by assumption) | apply And.intro)))⟩ (show Dj ((g, .cells #[.func (.func 39) #[.pointer (some ⟨g, 0, none⟩)] #[], .slice p1 segs.length c1, .slice p2 es.length c2, .slice p3 cs.length c3, .slice p12 (c.length + 1) c12] 52 (0, 0)) :: (K1 ++ (T1 ++ (K2 ++ (T2 ++ (K3 ++ Kl10)))))) R from (by (try simp only [dj_app_l, dj_app_r, dj_cons_l, dj_cons_r, dj_nil_l, dj_nil_r, dk_app, dk_cons, dk_nil, and_true, true_and, and_assoc]); repeat' (first | trivial | assumption | exact Dj.symm (by assumption) | exact Ne.symm (by assumption) | apply And.intro)))
  | true =>
    have h1 : c.length = 100 := of_decide_eq_true hd1
    clear hd1
    refine wp_cond_true rfl ?_
    refine wp_seq ?_
    refine wp_region_L (W0 := W0) ((g, .cells #[.func (.func 39) #[.pointer (some ⟨g, 0, none⟩)] #[], .slice p1 segs.length c1, .slice p2 es.length c2, .slice p3 cs.length c3, .slice p4 c.length c4] 52 (0, 0)) :: (K1 ++ (T1 ++ (K2 ++ (T2 ++ (K3 ++ (K4 ++ R))))))) (hW2) ?_
    refine lm (v := .int .i64 ((i : Nat) : Int)) rfl rfl ?_
    refine lm (v := .int .i64 ((i : Nat) : Int)) rfl rfl ?_
    refine lm (v := .int .i64 3) rfl rfl ?_
    refine wpL_done (fun W5 hW5 => ?_)
    refine (show Code.wp _ _ _ _ _ from ?_)
    refine wp_ret ?_
    try simp only [inBlock_ret, then_ret]
    refine bodyPost_ret (v := .tuple #[.int .i64 ((i : Nat) : Int), .int .i64 3]) ?_ rfl ?_
    · kernel_rfl
    · exact ans_bad (K := []) (putc_a (by omega)) (hW5.sub (fun p hp => by simp only [List.mem_cons, List.mem_append, List.nil_append, List.not_mem_nil, or_assoc, or_false, false_or, List.cons_append, List.append_assoc] at hp ⊢ <;> grind))
end Go.Proofs.Ytppegdbelgobiaa
namespace Go.Proofs.Ytppegdbelgobiaa
open Go Go.RowKit Tw
set_option maxRecDepth 100000 in
set_option maxHeartbeats 4000000 in
theorem inside_any {W0 : Base} {g : Nat} {segs : List Sgm} {es : List Elt} {cs : List Cmp} {c : Cmp} {i r n : Nat} {b : UInt8} {K R : List (Nat × Obj)} (hV : RdV W0 g (.func (.func 39) #[.pointer (some ⟨g, 0, none⟩)] #[]) segs es cs c K) (hR : Dj K R) (ls : segs.length < 5000) (le : es.length ≤ 29) (ls2 : cs.length ≤ 9) (lc : c.length ≤ 100) (li : i ≤ 4000000000) (hr : Rn b r n) (w : World) (hw : KS W0 (K ++ R) w) : Calls Try.prog 39 #[.pointer (some ⟨g, 0, none⟩), .int .i64 ((i : Nat) : Int), .int .i32 ((r : Nat) : Int)] w fun e w' => ∃ v K', e = .returned v ∧ KS W0 K' w' ∧ Ans W0 g (inside i b segs es cs c) R v K' := by
  have lr := rn_le hr
  obtain ⟨p1, p2, p3, p4, _, _, _, _, c1, c2, c3, c4, x1, x2, _, _, K1, T1, K2, T2, K3, K4, rfl, rfl, rfl, rfl, rfl, rfl, rfl, hB, O1, E1, O2, E2, O3, O4, dg, d1, d2, d3, d4, d5⟩ := hV
  obtain ⟨dj1_0, dj1_1, dj1_2, dj1_3, dj1_4, dj1_5⟩ : Dk g K1 ∧ Dk g T1 ∧ Dk g K2 ∧ Dk g T2 ∧ Dk g K3 ∧ Dk g K4 := by simpa only [dj_app_l, dj_app_r, dj_cons_l, dj_cons_r, dj_nil_l, dj_nil_r, dk_app, dk_cons, dk_nil, and_true, true_and, and_assoc] using (show Dk g (K1 ++ (T1 ++ (K2 ++ (T2 ++ (K3 ++ K4))))) from dg)
  obtain ⟨dj2_0, dj2_1, dj2_2, dj2_3, dj2_4⟩ : Dj K1 T1 ∧ Dj K1 K2 ∧ Dj K1 T2 ∧ Dj K1 K3 ∧ Dj K1 K4 := by simpa only [dj_app_l, dj_app_r, dj_cons_l, dj_cons_r, dj_nil_l, dj_nil_r, dk_app, dk_cons, dk_nil, and_true, true_and, and_assoc] using (show Dj K1 (T1 ++ (K2 ++ (T2 ++ (K3 ++ K4)))) from d1)
  obtain ⟨dj3_0, dj3_1, dj3_2, dj3_3⟩ : Dj T1 K2 ∧ Dj T1 T2 ∧ Dj T1 K3 ∧ Dj T1 K4 := by simpa only [dj_app_l, dj_app_r, dj_cons_l, dj_cons_r, dj_nil_l, dj_nil_r, dk_app, dk_cons, dk_nil, and_true, true_and, and_assoc] using (show Dj T1 (K2 ++ (T2 ++ (K3 ++ K4))) from d2)
  obtain ⟨dj4_0, dj4_1, dj4_2⟩ : Dj K2 T2 ∧ Dj K2 K3 ∧ Dj K2 K4 := by simpa only [dj_app_l, dj_app_r, dj_cons_l, dj_cons_r, dj_nil_l, dj_nil_r, dk_app, dk_cons, dk_nil, and_true, true_and, and_assoc] using (show Dj K2 (T2 ++ (K3 ++ K4)) from d3)
  obtain ⟨dj5_0, dj5_1⟩ : Dj T2 K3 ∧ Dj T2 K4 := by simpa only [dj_app_l, dj_app_r, dj_cons_l, dj_cons_r, dj_nil_l, dj_nil_r, dk_app, dk_cons, dk_nil, and_true, true_and, and_assoc] using (show Dj T2 (K3 ++ K4) from d4)
  obtain dj6_0 : Dj K3 K4 := by simpa only [dj_app_l, dj_app_r, dj_cons_l, dj_cons_r, dj_nil_l, dj_nil_r, dk_app, dk_cons, dk_nil, and_true, true_and, and_assoc] using (show Dj K3 K4 from d5)
  obtain ⟨dj7_0, dj7_1, dj7_2, dj7_3, dj7_4, dj7_5, dj7_6⟩ : Dk g R ∧ Dj K1 R ∧ Dj T1 R ∧ Dj K2 R ∧ Dj T2 R ∧ Dj K3 R ∧ Dj K4 R := by simpa only [dj_app_l, dj_app_r, dj_cons_l, dj_cons_r, dj_nil_l, dj_nil_r, dk_app, dk_cons, dk_nil, and_true, true_and, and_assoc] using (show Dj ((g, .cells #[.func (.func 39) #[.pointer (some ⟨g, 0, none⟩)] #[], .slice p1 segs.length c1, .slice p2 es.length c2, .slice p3 cs.length c3, .slice p4 c.length c4] 52 (0, 0)) :: (K1 ++ (T1 ++ (K2 ++ (T2 ++ (K3 ++ K4)))))) R from hR)
  go_enter Try.func39, Try.ntmps39
  refine wp_seq ?_
  refine wp_region_L (W0 := W0) ((g, .cells #[.func (.func 39) #[.pointer (some ⟨g, 0, none⟩)] #[], .slice p1 segs.length c1, .slice p2 es.length c2, .slice p3 cs.length c3, .slice p4 c.length c4] 52 (0, 0)) :: (K1 ++ (T1 ++ (K2 ++ (T2 ++ (K3 ++ (K4 ++ R))))))) ((hw.sub (fun p hp => by simp only [List.mem_cons, List.mem_append, List.nil_append, List.not_mem_nil, or_assoc, or_false, false_or, List.cons_append, List.append_assoc] at hp ⊢ <;> grind))) ?_
  refine lm (v := .int .i64 0) rfl rfl ?_
  refine lm (v := .int .i64 0) rfl rfl ?_
  refine wpL_done (fun W1 hW1 => ?_)
  refine (show Code.wp _ _ _ _ _ from ?_)
  refine wp_seq ?_
  refine wp_seq ?_
  refine wp_region_L (W0 := W0) ((g, .cells #[.func (.func 39) #[.pointer (some ⟨g, 0, none⟩)] #[], .slice p1 segs.length c1, .slice p2 es.length c2, .slice p3 cs.length c3, .slice p4 c.length c4] 52 (0, 0)) :: (K1 ++ (T1 ++ (K2 ++ (T2 ++ (K3 ++ (K4 ++ R))))))) (hW1) ?_
  refine lm (v := .int .i32 ((r : Nat) : Int)) rfl rfl ?_
  refine wpL_done (fun W2 hW2 => ?_)
  refine (show Code.wp _ _ _ _ _ from ?_)
  refine wp_block ?_
  refine wp_seq ?_
  refine wp_region_L (W0 := W0) ((g, .cells #[.func (.func 39) #[.pointer (some ⟨g, 0, none⟩)] #[], .slice p1 segs.length c1, .slice p2 es.length c2, .slice p3 cs.length c3, .slice p4 c.length c4] 52 (0, 0)) :: (K1 ++ (T1 ++ (K2 ++ (T2 ++ (K3 ++ (K4 ++ R))))))) (hW2) ?_
  refine lp (v := .bool false) rfl rfl (run_bin rfl (vx := (.int .i32 ((r : Nat) : Int))) (vy := (.int .i32 (-1))) (by kernel_rfl) (by kernel_rfl) fun w => bi_eql (decide_eq_false (by omega)) w) ?_
  refine lm (v := .bool false) rfl rfl ?_
  refine wpL_done (fun W3 hW3 => ?_)
  refine (show Code.wp _ _ _ _ _ from ?_)
  refine wp_cond_false rfl ?_
  refine wp_seq ?_
  refine wp_region_L (W0 := W0) ((g, .cells #[.func (.func 39) #[.pointer (some ⟨g, 0, none⟩)] #[], .slice p1 segs.length c1, .slice p2 es.length c2, .slice p3 cs.length c3, .slice p4 c.length c4] 52 (0, 0)) :: (K1 ++ (T1 ++ (K2 ++ (T2 ++ (K3 ++ (K4 ++ R))))))) (hW3) ?_
  refine lp (v := .bool (decide (r = 39))) rfl rfl (run_bin rfl (vx := (.int .i32 ((r : Nat) : Int))) (vy := (.int .i32 ((39 : Nat) : Int))) (by kernel_rfl) (by kernel_rfl) fun w => bn_eql rfl w) ?_
  refine lm (v := .bool (decide (r = 39))) rfl rfl ?_
  refine wpL_done (fun W4 hW4 => ?_)
  refine (show Code.wp _ _ _ _ _ from ?_)
  cases hd1 : (decide (r = 39)) with
  | false =>
    have h1 : ¬ (r = 39) := of_decide_eq_false hd1
    clear hd1
    refine wp_cond_false rfl ?_
    refine wp_seq ?_
    refine wp_region_L (W0 := W0) ((g, .cells #[.func (.func 39) #[.pointer (some ⟨g, 0, none⟩)] #[], .slice p1 segs.length c1, .slice p2 es.length c2, .slice p3 cs.length c3, .slice p4 c.length c4] 52 (0, 0)) :: (K1 ++ (T1 ++ (K2 ++ (T2 ++ (K3 ++ (K4 ++ R))))))) (hW4) ?_
    refine lp (v := .bool (decide (r = 43))) rfl rfl (run_bin rfl (vx := (.int .i32 ((r : Nat) : Int))) (vy := (.int .i32 ((43 : Nat) : Int))) (by kernel_rfl) (by kernel_rfl) fun w => bn_eql rfl w) ?_
    refine lm (v := .bool (decide (r = 43))) rfl rfl ?_
    refine wpL_done (fun W5 hW5 => ?_)
    refine (show Code.wp _ _ _ _ _ from ?_)
    cases hd2 : (decide (r = 43)) with
    | false =>
      have h2 : ¬ (r = 43) := of_decide_eq_false hd2
      clear hd2
      refine wp_cond_false rfl ?_
      refine wp_seq ?_
      refine wp_region_L (W0 := W0) ((g, .cells #[.func (.func 39) #[.pointer (some ⟨g, 0, none⟩)] #[], .slice p1 segs.length c1, .slice p2 es.length c2, .slice p3 cs.length c3, .slice p4 c.length c4] 52 (0, 0)) :: (K1 ++ (T1 ++ (K2 ++ (T2 ++ (K3 ++ (K4 ++ R))))))) (hW5) ?_
      refine lp (v := .bool (decide (r = 58))) rfl rfl (run_bin rfl (vx := (.int .i32 ((r : Nat) : Int))) (vy := (.int .i32 ((58 : Nat) : Int))) (by kernel_rfl) (by kernel_rfl) fun w => bn_eql rfl w) ?_
      refine lm (v := .bool (decide (r = 58))) rfl rfl ?_
      refine wpL_done (fun W6 hW6 => ?_)
      refine (show Code.wp _ _ _ _ _ from ?_)
      cases hd3 : (decide (r = 58)) with
      | false =>
        have h3 : ¬ (r = 58) := of_decide_eq_false hd3
        clear hd3
        refine wp_cond_false rfl ?_
        refine wp_seq ?_
        refine wp_region_L (W0 := W0) ((g, .cells #[.func (.func 39) #[.pointer (some ⟨g, 0, none⟩)] #[], .slice p1 segs.length c1, .slice p2 es.length c2, .slice p3 cs.length c3, .slice p4 c.length c4] 52 (0, 0)) :: (K1 ++ (T1 ++ (K2 ++ (T2 ++ (K3 ++ (K4 ++ R))))))) (hW6) ?_
        refine lp (v := .bool (decide (r = 63))) rfl rfl (run_bin rfl (vx := (.int .i32 ((r : Nat) : Int))) (vy := (.int .i32 ((63 : Nat) : Int))) (by kernel_rfl) (by kernel_rfl) fun w => bn_eql rfl w) ?_
        refine lm (v := .bool (decide (r = 63))) rfl rfl ?_
        refine wpL_done (fun W7 hW7 => ?_)
        refine (show Code.wp _ _ _ _ _ from ?_)
        cases hd4 : (decide (r = 63)) with
        | false =>
          have h4 : ¬ (r = 63) := of_decide_eq_false hd4
          clear hd4
          refine wp_cond_false rfl ?_
          refine wp_seq ?_
          refine wp_seq ?_
          refine wp_region_L (W0 := W0) ((g, .cells #[.func (.func 39) #[.pointer (some ⟨g, 0, none⟩)] #[], .slice p1 segs.length c1, .slice p2 es.length c2, .slice p3 cs.length c3, .slice p4 c.length c4] 52 (0, 0)) :: (K1 ++ (T1 ++ (K2 ++ (T2 ++ (K3 ++ (K4 ++ R))))))) (hW7) ?_
          refine lm (v := .int .i32 ((r : Nat) : Int)) rfl rfl ?_
          refine lv (v := .bool (may b)) rfl rfl (yb_call (f := 54) (args := #[.int .i32 ((r : Nat) : Int)]) (fun _ => by kernel_rfl) fun W hW => mayStand_any b r n hr W) ?_
          refine lp (v := .bool (!(may b))) rfl rfl (run_un rfl (by kernel_rfl) fun w => un_not w) ?_
          refine wpL_done (fun W8 hW8 => ?_)
          refine (show Code.wp _ _ _ _ _ from ?_)
          cases h5 : (may b) with
          | false =>
            refine wp_cond_true rfl ?_
            refine wp_seq ?_
            refine wp_region_L (W0 := W0) ((g, .cells #[.func (.func 39) #[.pointer (some ⟨g, 0, none⟩)] #[], .slice p1 segs.length c1, .slice p2 es.length c2, .slice p3 cs.length c3, .slice p4 c.length c4] 52 (0, 0)) :: (K1 ++ (T1 ++ (K2 ++ (T2 ++ (K3 ++ (K4 ++ R))))))) (hW8) ?_
            refine lm (v := .int .i64 ((i : Nat) : Int)) rfl rfl ?_
            refine lm (v := .int .i64 ((i : Nat) : Int)) rfl rfl ?_
            refine lm (v := .int .i64 40) rfl rfl ?_
            refine wpL_done (fun W9 hW9 => ?_)
            refine (show Code.wp _ _ _ _ _ from ?_)
            refine wp_ret ?_
            try simp only [inBlock_ret, then_ret]
            refine bodyPost_ret (v := .tuple #[.int .i64 ((i : Nat) : Int), .int .i64 40]) ?_ rfl ?_
            · kernel_rfl
            · exact ans_bad (K := []) (ins_no h5) (hW9.sub (fun p hp => by simp only [List.mem_cons, List.mem_append, List.nil_append, List.not_mem_nil, or_assoc, or_false, false_or, List.cons_append, List.append_assoc] at hp ⊢ <;> grind))
          | true =>
            refine wp_cond_false rfl ?_
            refine wp_skip ?_
            refine (show Code.wp _ _ _ _ _ from ?_)
            refine wp_seq ?_
            refine wp_region_L (W0 := W0) ((g, .cells #[.func (.func 39) #[.pointer (some ⟨g, 0, none⟩)] #[], .slice p1 segs.length c1, .slice p2 es.length c2, .slice p3 cs.length c3, .slice p4 c.length c4] 52 (0, 0)) :: (K1 ++ (T1 ++ (K2 ++ (T2 ++ (K3 ++ (K4 ++ R))))))) (hW8) ?_
            refine lm (v := .pointer (some ⟨g, 0, none⟩)) rfl rfl ?_
            refine lm (v := .int .i64 ((i : Nat) : Int)) rfl rfl ?_
            refine lm (v := .int .i32 ((r : Nat) : Int)) rfl rfl ?_
            refine wpL_c (f := 55) (args := #[.pointer (some ⟨g, 0, none⟩), .int .i64 ((i : Nat) : Int), .int .i32 ((r : Nat) : Int)]) (Ans W0 g (putc i b segs es cs c) R) rfl (by kernel_rfl) (fun _ => (by kernel_rfl)) (fun W hW => put_any ⟨_, _, _, _, _, _, _, _, _, _, _, _, _, _, _, _, K1, T1, K2, T2, K3, K4, (by simp [esOf, csOf, cOf]), (by simp [esOf, csOf, cOf]), (by simp [esOf, csOf, cOf]), (by simp [esOf, csOf, cOf]), rfl, rfl, rfl, hB, O1, E1, O2, E2, O3, O4, (show Dk g (K1 ++ (T1 ++ (K2 ++ (T2 ++ (K3 ++ K4))))) from (by (try simp only [dj_app_l, dj_app_r, dj_cons_l, dj_cons_r, dj_nil_l, dj_nil_r, dk_app, dk_cons, dk_nil, and_true, true_and, and_assoc]); repeat' (first | trivial | assumption | exact Dj.symm (by assumption) | exact Ne.symm (by assumption) | apply And.intro))), (show Dj K1 (T1 ++ (K2 ++ (T2 ++ (K3 ++ K4)))) from (by (try simp only [dj_app_l, dj_app_r, dj_cons_l, dj_cons_r, dj_nil_l, dj_nil_r, dk_app, dk_cons, dk_nil, and_true, true_and, and_assoc]); repeat' (first | trivial | assumption | exact Dj.symm (by assumption) | exact Ne.symm (by assumption) | apply And.intro))), (show Dj T1 (K2 ++ (T2 ++ (K3 ++ K4))) from (by (try simp only [dj_app_l, dj_app_r, dj_cons_l, dj_cons_r, dj_nil_l, dj_nil_r, dk_app, dk_cons, dk_nil, and_true, true_and, and_assoc]); repeat' (first | trivial | assumption | exact Dj.symm (by assumption) | exact Ne.symm (by assumption) | apply And.intro))), (show Dj K2 (T2 ++ (K3 ++ K4)) from (by (try simp only [dj_app_l, dj_app_r, dj_cons_l, dj_cons_r, dj_nil_l, dj_nil_r, dk_app, dk_cons, dk_nil, and_true, true_and, and_assoc]); repeat' (first | trivial | assumption | exact Dj.symm (by assumption) | exact Ne.symm (by assumption) | apply And.intro))), (show Dj T2 (K3 ++ K4) from (by (try simp only [dj_app_l, dj_app_r, dj_cons_l, dj_cons_r, dj_nil_l, dj_nil_r, dk_app, dk_cons, dk_nil, and_true, true_and, and_assoc]); repeat' (first | trivial | assumption | exact Dj.symm (by assumption) | exact Ne.symm (by assumption) | apply And.intro))), (show Dj K3 K4 from (by (try simp only [dj_app_l, dj_app_r, dj_cons_l, dj_cons_r, dj_nil_l, dj_nil_r, dk_app, dk_cons, dk_nil, and_true, true_and, and_assoc]); repeat' (first | trivial | assumption | exact Dj.symm (by assumption) | exact Ne.symm (by assumption) | apply And.intro)))⟩ (show Dj ((g, .cells #[.func (.func 39) #[.pointer (some ⟨g, 0, none⟩)] #[], .slice p1 segs.length c1, .slice p2 es.length c2, .slice p3 cs.length c3, .slice p4 c.length c4] 52 (0, 0)) :: (K1 ++ (T1 ++ (K2 ++ (T2 ++ (K3 ++ K4)))))) R from (by (try simp only [dj_app_l, dj_app_r, dj_cons_l, dj_cons_r, dj_nil_l, dj_nil_r, dk_app, dk_cons, dk_nil, and_true, true_and, and_assoc]); repeat' (first | trivial | assumption | exact Dj.symm (by assumption) | exact Ne.symm (by assumption) | apply And.intro))) lc li (low_may hr h5) W (hW.sub (fun p hp => by simp only [List.mem_cons, List.mem_append, List.nil_append, List.not_mem_nil, or_assoc, or_false, false_or, List.cons_append, List.append_assoc] at hp ⊢ <;> grind))) (fun _ => by simp only [List.setIfInBounds_toArray, List.set_cons_succ, List.set_cons_zero] <;> rfl) ?_
            rintro _ K9 ⟨rfl, K2b, rfl, hVb⟩
            refine lm (v := .int .i64 (((errAt (putc i b segs es cs c)) : Nat) : Int)) rfl rfl ?_
            refine lm (v := .int .i64 (((errNo (putc i b segs es cs c)) : Nat) : Int)) rfl rfl ?_
            refine lm (v := .int .i64 (((errAt (putc i b segs es cs c)) : Nat) : Int)) rfl rfl ?_
            refine lm (v := .int .i64 (((errNo (putc i b segs es cs c)) : Nat) : Int)) rfl rfl ?_
            refine wpL_done (fun W10 hW10 => ?_)
            refine (show Code.wp _ _ _ _ _ from ?_)
            refine wp_ret ?_
            try simp only [inBlock_ret, then_ret]
            refine bodyPost_ret (v := .tuple #[.int .i64 (((errAt (putc i b segs es cs c)) : Nat) : Int), .int .i64 (((errNo (putc i b segs es cs c)) : Nat) : Int)]) ?_ rfl ?_
            · kernel_rfl
            · exact (by rw [(ins_put (i := i) (segs := segs) (es := es) (cs := cs) (c := c) hr h5 h1 h2 h3 h4)]; exact ⟨_, _, rfl, hW10, rfl, K2b, rfl, hVb⟩)
        | true =>
          have h4 : r = 63 := of_decide_eq_true hd4
          clear hd4
          refine wp_cond_true rfl ?_
          refine wp_region_L (W0 := W0) ((g, .cells #[.func (.func 39) #[.pointer (some ⟨g, 0, none⟩)] #[], .slice p1 segs.length c1, .slice p2 es.length c2, .slice p3 cs.length c3, .slice p4 c.length c4] 52 (0, 0)) :: (K1 ++ (T1 ++ (K2 ++ (T2 ++ (K3 ++ (K4 ++ R))))))) (hW7) ?_
          refine lm (v := .pointer (some ⟨g, 0, none⟩)) rfl rfl ?_
          refine lm (v := .pointer (some ⟨g, 0, none⟩)) rfl rfl ?_
          refine lm (v := .func (.func 53) #[.pointer (some ⟨g, 0, none⟩)] #[]) rfl rfl ?_
          refine lm (v := .pointer (some ⟨g, 0, none⟩)) rfl rfl ?_
          refine lm (v := .pointer (some ⟨g, 0, none⟩)) rfl rfl ?_
          refine wpL_s ((g, .cells #[.func (.func 53) #[.pointer (some ⟨g, 0, none⟩)] #[], .slice p1 segs.length c1, .slice p2 es.length c2, .slice p3 cs.length c3, .slice p4 c.length c4] 52 (0, 0)) :: (K1 ++ (T1 ++ (K2 ++ (T2 ++ (K3 ++ (K4 ++ R))))))) rfl rfl (st_row (off := 0) (v := .func (.func 53) #[.pointer (some ⟨g, 0, none⟩)] #[]) rfl (by kernel_rfl) (by kernel_rfl) (.head _) hB (by kernel_rfl) (by simp [Value.cells]) (by intro v hv; simp [Value.cells] at hv; first | (subst hv; rfl) | (rcases hv with rfl <;> rfl)) (by kernel_rfl) (List.forall_mem_cons.2 ⟨.inl rfl, (fun p hp => .inr ⟨(.tail _ hp), ((show Dk g (K1 ++ (T1 ++ (K2 ++ (T2 ++ (K3 ++ (K4 ++ R)))))) from (by (try simp only [dj_app_l, dj_app_r, dj_cons_l, dj_cons_r, dj_nil_l, dj_nil_r, dk_app, dk_cons, dk_nil, and_true, true_and, and_assoc]); repeat' (first | trivial | assumption | exact Dj.symm (by assumption) | exact Ne.symm (by assumption) | apply And.intro))) _ hp)⟩)⟩)) ?_
          refine wpL_done (fun W11 hW11 => ?_)
          refine (show Code.wp _ _ _ _ _ from ?_)
          refine wp_seq ?_
          refine wp_region_L (W0 := W0) ((g, .cells #[.func (.func 53) #[.pointer (some ⟨g, 0, none⟩)] #[], .slice p1 segs.length c1, .slice p2 es.length c2, .slice p3 cs.length c3, .slice p4 c.length c4] 52 (0, 0)) :: (K1 ++ (T1 ++ (K2 ++ (T2 ++ (K3 ++ (K4 ++ R))))))) (hW11) ?_
          refine lm (v := .int .i64 0) rfl rfl ?_
          refine lm (v := .int .i64 0) rfl rfl ?_
          refine wpL_done (fun W12 hW12 => ?_)
          refine (show Code.wp _ _ _ _ _ from ?_)
          refine wp_ret ?_
          try simp only [inBlock_ret, then_ret]
          refine bodyPost_ret (v := .tuple #[.int .i64 0, .int .i64 0]) ?_ rfl ?_
          · kernel_rfl
          · exact ans_ok (K2 := ((g, .cells #[.func (.func 53) #[.pointer (some ⟨g, 0, none⟩)] #[], .slice p1 segs.length c1, .slice p2 es.length c2, .slice p3 cs.length c3, .slice p4 c.length c4] 52 (0, 0)) :: (K1 ++ (T1 ++ (K2 ++ (T2 ++ (K3 ++ K4))))))) (ins_63 hr h4) (hW12.sub (fun p hp => by simp only [List.mem_cons, List.mem_append, List.nil_append, List.not_mem_nil, or_assoc, or_false, false_or, List.cons_append, List.append_assoc] at hp ⊢ <;> grind)) ⟨_, _, _, _, _, _, _, _, _, _, _, _, _, _, _, _, K1, T1, K2, T2, K3, K4, (by simp [esOf, csOf, cOf]), (by simp [esOf, csOf, cOf]), (by simp [esOf, csOf, cOf]), (by simp [esOf, csOf, cOf]), rfl, rfl, rfl, hB, O1, E1, O2, E2, O3, O4, (show Dk g (K1 ++ (T1 ++ (K2 ++ (T2 ++ (K3 ++ K4))))) from (by (try simp only [dj_app_l, dj_app_r, dj_cons_l, dj_cons_r, dj_nil_l, dj_nil_r, dk_app, dk_cons, dk_nil, and_true, true_and, and_assoc]); repeat' (first | trivial | assumption | exact Dj.symm (by assumption) | exact Ne.symm (by assumption) | apply And.intro))), (show Dj K1 (T1 ++ (K2 ++ (T2 ++ (K3 ++ K4)))) from (by (try simp only [dj_app_l, dj_app_r, dj_cons_l, dj_cons_r, dj_nil_l, dj_nil_r, dk_app, dk_cons, dk_nil, and_true, true_and, and_assoc]); repeat' (first | trivial | assumption | exact Dj.symm (by assumption) | exact Ne.symm (by assumption) | apply And.intro))), (show Dj T1 (K2 ++ (T2 ++ (K3 ++ K4))) from (by (try simp only [dj_app_l, dj_app_r, dj_cons_l, dj_cons_r, dj_nil_l, dj_nil_r, dk_app, dk_cons, dk_nil, and_true, true_and, and_assoc]); repeat' (first | trivial | assumption | exact Dj.symm (by assumption) | exact Ne.symm (by assumption) | apply And.intro))), (show Dj K2 (T2 ++ (K3 ++ K4)) from (by (try simp only [dj_app_l, dj_app_r, dj_cons_l, dj_cons_r, dj_nil_l, dj_nil_r, dk_app, dk_cons, dk_nil, and_true, true_and, and_assoc]); repeat' (first | trivial | assumption | exact Dj.symm (by assumption) | exact Ne.symm (by assumption) | apply And.intro))), (show Dj T2 (K3 ++ K4) from (by (try simp only [dj_app_l, dj_app_r, dj_cons_l, dj_cons_r, dj_nil_l, dj_nil_r, dk_app, dk_cons, dk_nil, and_true, true_and, and_assoc]); repeat' (first | trivial | assumption | exact Dj.symm (by assumption) | exact Ne.symm (by assumption) | apply And.intro))), (show Dj K3 K4 from (by (try simp only [dj_app_l, dj_app_r, dj_cons_l, dj_cons_r, dj_nil_l, dj_nil_r, dk_app, dk_cons, dk_nil, and_true, true_and, and_assoc]); repeat' (first | trivial | assumption | exact Dj.symm (by assumption) | exact Ne.symm (by assumption) | apply And.intro)))⟩ (show Dj ((g, .cells #[.func (.func 53) #[.pointer (some ⟨g, 0, none⟩)] #[], .slice p1 segs.length c1, .slice p2 es.length c2, .slice p3 cs.length c3, .slice p4 c.length c4] 52 (0, 0)) :: (K1 ++ (T1 ++ (K2 ++ (T2 ++ (K3 ++ K4)))))) R from (by (try simp only [dj_app_l, dj_app_r, dj_cons_l, dj_cons_r, dj_nil_l, dj_nil_r, dk_app, dk_cons, dk_nil, and_true, true_and, and_assoc]); repeat' (first | trivial | assumption | exact Dj.symm (by assumption) | exact Ne.symm (by assumption) | apply And.intro)))
      | true =>
        have h3 : r = 58 := of_decide_eq_true hd3
        clear hd3
        refine wp_cond_true rfl ?_
        refine wp_seq ?_
        refine wp_region_L (W0 := W0) ((g, .cells #[.func (.func 39) #[.pointer (some ⟨g, 0, none⟩)] #[], .slice p1 segs.length c1, .slice p2 es.length c2, .slice p3 cs.length c3, .slice p4 c.length c4] 52 (0, 0)) :: (K1 ++ (T1 ++ (K2 ++ (T2 ++ (K3 ++ (K4 ++ R))))))) (hW6) ?_
        refine lm (v := .pointer (some ⟨g, 0, none⟩)) rfl rfl ?_
        refine wpL_c (f := 52) (args := #[.pointer (some ⟨g, 0, none⟩)]) (RdO W0 g (.func (.func 39) #[.pointer (some ⟨g, 0, none⟩)] #[]) segs es (cs ++ [c]) ([] : Cmp) R) rfl (by kernel_rfl) (fun _ => (by kernel_rfl)) (fun W hW => endC_any ⟨_, _, _, _, _, _, _, _, _, _, _, _, _, _, _, _, K1, T1, K2, T2, K3, K4, (by simp [esOf, csOf, cOf]), (by simp [esOf, csOf, cOf]), (by simp [esOf, csOf, cOf]), (by simp [esOf, csOf, cOf]), rfl, rfl, rfl, hB, O1, E1, O2, E2, O3, O4, (show Dk g (K1 ++ (T1 ++ (K2 ++ (T2 ++ (K3 ++ K4))))) from (by (try simp only [dj_app_l, dj_app_r, dj_cons_l, dj_cons_r, dj_nil_l, dj_nil_r, dk_app, dk_cons, dk_nil, and_true, true_and, and_assoc]); repeat' (first | trivial | assumption | exact Dj.symm (by assumption) | exact Ne.symm (by assumption) | apply And.intro))), (show Dj K1 (T1 ++ (K2 ++ (T2 ++ (K3 ++ K4)))) from (by (try simp only [dj_app_l, dj_app_r, dj_cons_l, dj_cons_r, dj_nil_l, dj_nil_r, dk_app, dk_cons, dk_nil, and_true, true_and, and_assoc]); repeat' (first | trivial | assumption | exact Dj.symm (by assumption) | exact Ne.symm (by assumption) | apply And.intro))), (show Dj T1 (K2 ++ (T2 ++ (K3 ++ K4))) from (by (try simp only [dj_app_l, dj_app_r, dj_cons_l, dj_cons_r, dj_nil_l, dj_nil_r, dk_app, dk_cons, dk_nil, and_true, true_and, and_assoc]); repeat' (first | trivial | assumption | exact Dj.symm (by assumption) | exact Ne.symm (by assumption) | apply And.intro))), (show Dj K2 (T2 ++ (K3 ++ K4)) from (by (try simp only [dj_app_l, dj_app_r, dj_cons_l, dj_cons_r, dj_nil_l, dj_nil_r, dk_app, dk_cons, dk_nil, and_true, true_and, and_assoc]); repeat' (first | trivial | assumption | exact Dj.symm (by assumption) | exact Ne.symm (by assumption) | apply And.intro))), (show Dj T2 (K3 ++ K4) from (by (try simp only [dj_app_l, dj_app_r, dj_cons_l, dj_cons_r, dj_nil_l, dj_nil_r, dk_app, dk_cons, dk_nil, and_true, true_and, and_assoc]); repeat' (first | trivial | assumption | exact Dj.symm (by assumption) | exact Ne.symm (by assumption) | apply And.intro))), (show Dj K3 K4 from (by (try simp only [dj_app_l, dj_app_r, dj_cons_l, dj_cons_r, dj_nil_l, dj_nil_r, dk_app, dk_cons, dk_nil, and_true, true_and, and_assoc]); repeat' (first | trivial | assumption | exact Dj.symm (by assumption) | exact Ne.symm (by assumption) | apply And.intro)))⟩ (show Dj ((g, .cells #[.func (.func 39) #[.pointer (some ⟨g, 0, none⟩)] #[], .slice p1 segs.length c1, .slice p2 es.length c2, .slice p3 cs.length c3, .slice p4 c.length c4] 52 (0, 0)) :: (K1 ++ (T1 ++ (K2 ++ (T2 ++ (K3 ++ K4)))))) R from (by (try simp only [dj_app_l, dj_app_r, dj_cons_l, dj_cons_r, dj_nil_l, dj_nil_r, dk_app, dk_cons, dk_nil, and_true, true_and, and_assoc]); repeat' (first | trivial | assumption | exact Dj.symm (by assumption) | exact Ne.symm (by assumption) | apply And.intro))) (by omega) W (hW.sub (fun p hp => by simp only [List.mem_cons, List.mem_append, List.nil_append, List.not_mem_nil, or_assoc, or_false, false_or, List.cons_append, List.append_assoc] at hp ⊢ <;> grind))) (fun _ => by simp only [List.setIfInBounds_toArray, List.set_cons_succ, List.set_cons_zero] <;> rfl) ?_
        rintro _ K9 ⟨rfl, K2a, rfl, hVa, hRa⟩
        refine wpL_done (fun W13 hW13 => ?_)
        obtain ⟨p1a, p2a, p3a, p4a, _, _, _, _, c1a, c2a, c3a, c4a, x1a, x2a, _, _, K1a, T1a, K2a, T2a, K3a, K4a, rfl, rfl, rfl, rfl, rfl, rfl, rfl, hBa, O1a, E1a, O2a, E2a, O3a, O4a, dga, d1a, d2a, d3a, d4a, d5a⟩ := hVa
        obtain ⟨dj8_0, dj8_1, dj8_2, dj8_3, dj8_4, dj8_5⟩ : Dk g K1a ∧ Dk g T1a ∧ Dk g K2a ∧ Dk g T2a ∧ Dk g K3a ∧ Dk g K4a := by simpa only [dj_app_l, dj_app_r, dj_cons_l, dj_cons_r, dj_nil_l, dj_nil_r, dk_app, dk_cons, dk_nil, and_true, true_and, and_assoc] using (show Dk g (K1a ++ (T1a ++ (K2a ++ (T2a ++ (K3a ++ K4a))))) from dga)
        obtain ⟨dj9_0, dj9_1, dj9_2, dj9_3, dj9_4⟩ : Dj K1a T1a ∧ Dj K1a K2a ∧ Dj K1a T2a ∧ Dj K1a K3a ∧ Dj K1a K4a := by simpa only [dj_app_l, dj_app_r, dj_cons_l, dj_cons_r, dj_nil_l, dj_nil_r, dk_app, dk_cons, dk_nil, and_true, true_and, and_assoc] using (show Dj K1a (T1a ++ (K2a ++ (T2a ++ (K3a ++ K4a)))) from d1a)
        obtain ⟨dj10_0, dj10_1, dj10_2, dj10_3⟩ : Dj T1a K2a ∧ Dj T1a T2a ∧ Dj T1a K3a ∧ Dj T1a K4a := by simpa only [dj_app_l, dj_app_r, dj_cons_l, dj_cons_r, dj_nil_l, dj_nil_r, dk_app, dk_cons, dk_nil, and_true, true_and, and_assoc] using (show Dj T1a (K2a ++ (T2a ++ (K3a ++ K4a))) from d2a)
        obtain ⟨dj11_0, dj11_1, dj11_2⟩ : Dj K2a T2a ∧ Dj K2a K3a ∧ Dj K2a K4a := by simpa only [dj_app_l, dj_app_r, dj_cons_l, dj_cons_r, dj_nil_l, dj_nil_r, dk_app, dk_cons, dk_nil, and_true, true_and, and_assoc] using (show Dj K2a (T2a ++ (K3a ++ K4a)) from d3a)
        obtain ⟨dj12_0, dj12_1⟩ : Dj T2a K3a ∧ Dj T2a K4a := by simpa only [dj_app_l, dj_app_r, dj_cons_l, dj_cons_r, dj_nil_l, dj_nil_r, dk_app, dk_cons, dk_nil, and_true, true_and, and_assoc] using (show Dj T2a (K3a ++ K4a) from d4a)
        obtain dj13_0 : Dj K3a K4a := by simpa only [dj_app_l, dj_app_r, dj_cons_l, dj_cons_r, dj_nil_l, dj_nil_r, dk_app, dk_cons, dk_nil, and_true, true_and, and_assoc] using (show Dj K3a K4a from d5a)
        obtain ⟨dj14_0, dj14_1, dj14_2, dj14_3, dj14_4, dj14_5, dj14_6⟩ : Dk g R ∧ Dj K1a R ∧ Dj T1a R ∧ Dj K2a R ∧ Dj T2a R ∧ Dj K3a R ∧ Dj K4a R := by simpa only [dj_app_l, dj_app_r, dj_cons_l, dj_cons_r, dj_nil_l, dj_nil_r, dk_app, dk_cons, dk_nil, and_true, true_and, and_assoc] using (show Dj ((g, .cells #[.func (.func 39) #[.pointer (some ⟨g, 0, none⟩)] #[], .slice p1a segs.length c1a, .slice p2a es.length c2a, .slice p3a (cs ++ [c]).length c3a, .slice p4a ([] : Cmp).length c4a] 52 (0, 0)) :: (K1a ++ (T1a ++ (K2a ++ (T2a ++ (K3a ++ K4a)))))) R from hRa)
        refine (show Code.wp _ _ _ _ _ from ?_)
        refine wp_seq ?_
        refine wp_region_L (W0 := W0) ((g, .cells #[.func (.func 39) #[.pointer (some ⟨g, 0, none⟩)] #[], .slice p1a segs.length c1a, .slice p2a es.length c2a, .slice p3a (cs ++ [c]).length c3a, .slice p4a ([] : Cmp).length c4a] 52 (0, 0)) :: (K1a ++ (T1a ++ (K2a ++ (T2a ++ (K3a ++ (K4a ++ R))))))) ((hW13.sub (fun p hp => by simp only [List.mem_cons, List.mem_append, List.nil_append, List.not_mem_nil, or_assoc, or_false, false_or, List.cons_append, List.append_assoc] at hp ⊢ <;> grind))) ?_
        refine lm (v := .pointer (some ⟨g, 0, none⟩)) rfl rfl ?_
        refine lm (v := .pointer (some ⟨g, 0, none⟩)) rfl rfl ?_
        refine lm (v := .pointer (some ⟨g, 3, none⟩)) rfl rfl ?_
        refine lv (v := .slice p3a (cs ++ [c]).length c3a) rfl rfl (yb_cell (off := 3) rfl (by kernel_rfl) (.head _) Try.underlying43 rfl (by kernel_rfl)) ?_
        refine lp (v := .int .i64 ((((cs ++ [c]).length) : Nat) : Int)) rfl rfl (run_lenO (W0 := W0) rfl Try.underlying43 (by kernel_rfl) O3a) ?_
        refine lp (v := .bool (decide (((cs ++ [c]).length) = 10))) rfl rfl (run_bin rfl (vx := (.int .i64 ((((cs ++ [c]).length) : Nat) : Int))) (vy := (.int .i64 ((10 : Nat) : Int))) (by kernel_rfl) (by kernel_rfl) fun w => bn_eql rfl w) ?_
        refine wpL_done (fun W14 hW14 => ?_)
        refine (show Code.wp _ _ _ _ _ from ?_)
        cases hd6 : (decide (((cs ++ [c]).length) = 10)) with
        | false =>
          have h6 : ¬ (((cs ++ [c]).length) = 10) := of_decide_eq_false hd6
          clear hd6
          refine wp_cond_false rfl ?_
          refine wp_skip ?_
          refine (show Code.wp _ _ _ _ _ from ?_)
          refine wp_seq ?_
          refine wp_region_L (W0 := W0) ((g, .cells #[.func (.func 39) #[.pointer (some ⟨g, 0, none⟩)] #[], .slice p1a segs.length c1a, .slice p2a es.length c2a, .slice p3a (cs ++ [c]).length c3a, .slice p4a ([] : Cmp).length c4a] 52 (0, 0)) :: (K1a ++ (T1a ++ (K2a ++ (T2a ++ (K3a ++ (K4a ++ R))))))) (hW14) ?_
          refine lm (v := .int .i64 0) rfl rfl ?_
          refine lm (v := .int .i64 0) rfl rfl ?_
          refine wpL_done (fun W15 hW15 => ?_)
          refine (show Code.wp _ _ _ _ _ from ?_)
          refine wp_ret ?_
          try simp only [inBlock_ret, then_ret]
          refine bodyPost_ret (v := .tuple #[.int .i64 0, .int .i64 0]) ?_ rfl ?_
          · kernel_rfl
          · exact ans_ok (K2 := ((g, .cells #[.func (.func 39) #[.pointer (some ⟨g, 0, none⟩)] #[], .slice p1a segs.length c1a, .slice p2a es.length c2a, .slice p3a (cs ++ [c]).length c3a, .slice p4a ([] : Cmp).length c4a] 52 (0, 0)) :: (K1a ++ (T1a ++ (K2a ++ (T2a ++ (K3a ++ K4a))))))) (ins_58b hr h3 (by have z := h6; rw [List.length_append, List.length_singleton] at z; omega)) (hW15.sub (fun p hp => by simp only [List.mem_cons, List.mem_append, List.nil_append, List.not_mem_nil, or_assoc, or_false, false_or, List.cons_append, List.append_assoc] at hp ⊢ <;> grind)) ⟨_, _, _, _, _, _, _, _, _, _, _, _, _, _, _, _, K1a, T1a, K2a, T2a, K3a, K4a, (by simp [esOf, csOf, cOf]), (by simp [esOf, csOf, cOf]), (by simp [esOf, csOf, cOf]), (by simp [esOf, csOf, cOf]), rfl, rfl, rfl, hBa, O1a, E1a, O2a, E2a, O3a, O4a, (show Dk g (K1a ++ (T1a ++ (K2a ++ (T2a ++ (K3a ++ K4a))))) from (by (try simp only [dj_app_l, dj_app_r, dj_cons_l, dj_cons_r, dj_nil_l, dj_nil_r, dk_app, dk_cons, dk_nil, and_true, true_and, and_assoc]); repeat' (first | trivial | assumption | exact Dj.symm (by assumption) | exact Ne.symm (by assumption) | apply And.intro))), (show Dj K1a (T1a ++ (K2a ++ (T2a ++ (K3a ++ K4a)))) from (by (try simp only [dj_app_l, dj_app_r, dj_cons_l, dj_cons_r, dj_nil_l, dj_nil_r, dk_app, dk_cons, dk_nil, and_true, true_and, and_assoc]); repeat' (first | trivial | assumption | exact Dj.symm (by assumption) | exact Ne.symm (by assumption) | apply And.intro))), (show Dj T1a (K2a ++ (T2a ++ (K3a ++ K4a))) from (by (try simp only [dj_app_l, dj_app_r, dj_cons_l, dj_cons_r, dj_nil_l, dj_nil_r, dk_app, dk_cons, dk_nil, and_true, true_and, and_assoc]); repeat' (first | trivial | assumption | exact Dj.symm (by assumption) | exact Ne.symm (by assumption) | apply And.intro))), (show Dj K2a (T2a ++ (K3a ++ K4a)) from (by (try simp only [dj_app_l, dj_app_r, dj_cons_l, dj_cons_r, dj_nil_l, dj_nil_r, dk_app, dk_cons, dk_nil, and_true, true_and, and_assoc]); repeat' (first | trivial | assumption | exact Dj.symm (by assumption) | exact Ne.symm (by assumption) | apply And.intro))), (show Dj T2a (K3a ++ K4a) from (by (try simp only [dj_app_l, dj_app_r, dj_cons_l, dj_cons_r, dj_nil_l, dj_nil_r, dk_app, dk_cons, dk_nil, and_true, true_and, and_assoc]); repeat' (first | trivial | assumption | exact Dj.symm (by assumption) | exact Ne.symm (by assumption) | apply And.intro))), (show Dj K3a K4a from (by (try simp only [dj_app_l, dj_app_r, dj_cons_l, dj_cons_r, dj_nil_l, dj_nil_r, dk_app, dk_cons, dk_nil, and_true, true_and, and_assoc]); repeat' (first | trivial | assumption | exact Dj.symm (by assumption) | exact Ne.symm (by assumption) | apply And.intro)))⟩ (show Dj ((g, .cells #[.func (.func 39) #[.pointer (some ⟨g, 0, none⟩)] #[], .slice p1a segs.length c1a, .slice p2a es.length c2a, .slice p3a (cs ++ [c]).length c3a, .slice p4a ([] : Cmp).length c4a] 52 (0, 0)) :: (K1a ++ (T1a ++ (K2a ++ (T2a ++ (K3a ++ K4a)))))) R from (by (try simp only [dj_app_l, dj_app_r, dj_cons_l, dj_cons_r, dj_nil_l, dj_nil_r, dk_app, dk_cons, dk_nil, and_true, true_and, and_assoc]); repeat' (first | trivial | assumption | exact Dj.symm (by assumption) | exact Ne.symm (by assumption) | apply And.intro)))
        | true =>
          have h6 : ((cs ++ [c]).length) = 10 := of_decide_eq_true hd6
          clear hd6
          refine wp_cond_true rfl ?_
          refine wp_seq ?_
          refine wp_region_L (W0 := W0) ((g, .cells #[.func (.func 39) #[.pointer (some ⟨g, 0, none⟩)] #[], .slice p1a segs.length c1a, .slice p2a es.length c2a, .slice p3a (cs ++ [c]).length c3a, .slice p4a ([] : Cmp).length c4a] 52 (0, 0)) :: (K1a ++ (T1a ++ (K2a ++ (T2a ++ (K3a ++ (K4a ++ R))))))) (hW14) ?_
          refine lm (v := .int .i64 ((i : Nat) : Int)) rfl rfl ?_
          refine lm (v := .int .i64 ((i : Nat) : Int)) rfl rfl ?_
          refine lm (v := .int .i64 5) rfl rfl ?_
          refine wpL_done (fun W16 hW16 => ?_)
          refine (show Code.wp _ _ _ _ _ from ?_)
          refine wp_ret ?_
          try simp only [inBlock_ret, then_ret]
          refine bodyPost_ret (v := .tuple #[.int .i64 ((i : Nat) : Int), .int .i64 5]) ?_ rfl ?_
          · kernel_rfl
          · exact ans_bad (K := []) (ins_58a hr h3 (by have z := h6; rw [List.length_append, List.length_singleton] at z; omega)) (hW16.sub (fun p hp => by simp only [List.mem_cons, List.mem_append, List.nil_append, List.not_mem_nil, or_assoc, or_false, false_or, List.cons_append, List.append_assoc] at hp ⊢ <;> grind))
    | true =>
      have h2 : r = 43 := of_decide_eq_true hd2
      clear hd2
      refine wp_cond_true rfl ?_
      refine wp_seq ?_
      refine wp_region_L (W0 := W0) ((g, .cells #[.func (.func 39) #[.pointer (some ⟨g, 0, none⟩)] #[], .slice p1 segs.length c1, .slice p2 es.length c2, .slice p3 cs.length c3, .slice p4 c.length c4] 52 (0, 0)) :: (K1 ++ (T1 ++ (K2 ++ (T2 ++ (K3 ++ (K4 ++ R))))))) (hW5) ?_
      refine lm (v := .pointer (some ⟨g, 0, none⟩)) rfl rfl ?_
      refine wpL_c (f := 51) (args := #[.pointer (some ⟨g, 0, none⟩)]) (RdO W0 g (.func (.func 39) #[.pointer (some ⟨g, 0, none⟩)] #[]) segs (es ++ [cs ++ [c]]) ([] : Elt) ([] : Cmp) R) rfl (by kernel_rfl) (fun _ => (by kernel_rfl)) (fun W hW => endE_any ⟨_, _, _, _, _, _, _, _, _, _, _, _, _, _, _, _, K1, T1, K2, T2, K3, K4, (by simp [esOf, csOf, cOf]), (by simp [esOf, csOf, cOf]), (by simp [esOf, csOf, cOf]), (by simp [esOf, csOf, cOf]), rfl, rfl, rfl, hB, O1, E1, O2, E2, O3, O4, (show Dk g (K1 ++ (T1 ++ (K2 ++ (T2 ++ (K3 ++ K4))))) from (by (try simp only [dj_app_l, dj_app_r, dj_cons_l, dj_cons_r, dj_nil_l, dj_nil_r, dk_app, dk_cons, dk_nil, and_true, true_and, and_assoc]); repeat' (first | trivial | assumption | exact Dj.symm (by assumption) | exact Ne.symm (by assumption) | apply And.intro))), (show Dj K1 (T1 ++ (K2 ++ (T2 ++ (K3 ++ K4)))) from (by (try simp only [dj_app_l, dj_app_r, dj_cons_l, dj_cons_r, dj_nil_l, dj_nil_r, dk_app, dk_cons, dk_nil, and_true, true_and, and_assoc]); repeat' (first | trivial | assumption | exact Dj.symm (by assumption) | exact Ne.symm (by assumption) | apply And.intro))), (show Dj T1 (K2 ++ (T2 ++ (K3 ++ K4))) from (by (try simp only [dj_app_l, dj_app_r, dj_cons_l, dj_cons_r, dj_nil_l, dj_nil_r, dk_app, dk_cons, dk_nil, and_true, true_and, and_assoc]); repeat' (first | trivial | assumption | exact Dj.symm (by assumption) | exact Ne.symm (by assumption) | apply And.intro))), (show Dj K2 (T2 ++ (K3 ++ K4)) from (by (try simp only [dj_app_l, dj_app_r, dj_cons_l, dj_cons_r, dj_nil_l, dj_nil_r, dk_app, dk_cons, dk_nil, and_true, true_and, and_assoc]); repeat' (first | trivial | assumption | exact Dj.symm (by assumption) | exact Ne.symm (by assumption) | apply And.intro))), (show Dj T2 (K3 ++ K4) from (by (try simp only [dj_app_l, dj_app_r, dj_cons_l, dj_cons_r, dj_nil_l, dj_nil_r, dk_app, dk_cons, dk_nil, and_true, true_and, and_assoc]); repeat' (first | trivial | assumption | exact Dj.symm (by assumption) | exact Ne.symm (by assumption) | apply And.intro))), (show Dj K3 K4 from (by (try simp only [dj_app_l, dj_app_r, dj_cons_l, dj_cons_r, dj_nil_l, dj_nil_r, dk_app, dk_cons, dk_nil, and_true, true_and, and_assoc]); repeat' (first | trivial | assumption | exact Dj.symm (by assumption) | exact Ne.symm (by assumption) | apply And.intro)))⟩ (show Dj ((g, .cells #[.func (.func 39) #[.pointer (some ⟨g, 0, none⟩)] #[], .slice p1 segs.length c1, .slice p2 es.length c2, .slice p3 cs.length c3, .slice p4 c.length c4] 52 (0, 0)) :: (K1 ++ (T1 ++ (K2 ++ (T2 ++ (K3 ++ K4)))))) R from (by (try simp only [dj_app_l, dj_app_r, dj_cons_l, dj_cons_r, dj_nil_l, dj_nil_r, dk_app, dk_cons, dk_nil, and_true, true_and, and_assoc]); repeat' (first | trivial | assumption | exact Dj.symm (by assumption) | exact Ne.symm (by assumption) | apply And.intro))) (by omega) (by omega) W (hW.sub (fun p hp => by simp only [List.mem_cons, List.mem_append, List.nil_append, List.not_mem_nil, or_assoc, or_false, false_or, List.cons_append, List.append_assoc] at hp ⊢ <;> grind))) (fun _ => by simp only [List.setIfInBounds_toArray, List.set_cons_succ, List.set_cons_zero] <;> rfl) ?_
      rintro _ K9 ⟨rfl, K2a, rfl, hVa, hRa⟩
      refine wpL_done (fun W17 hW17 => ?_)
      obtain ⟨p1a, p2a, p3a, p4a, _, _, _, _, c1a, c2a, c3a, c4a, x1a, x2a, _, _, K1a, T1a, K2a, T2a, K3a, K4a, rfl, rfl, rfl, rfl, rfl, rfl, rfl, hBa, O1a, E1a, O2a, E2a, O3a, O4a, dga, d1a, d2a, d3a, d4a, d5a⟩ := hVa
      obtain ⟨dj15_0, dj15_1, dj15_2, dj15_3, dj15_4, dj15_5⟩ : Dk g K1a ∧ Dk g T1a ∧ Dk g K2a ∧ Dk g T2a ∧ Dk g K3a ∧ Dk g K4a := by simpa only [dj_app_l, dj_app_r, dj_cons_l, dj_cons_r, dj_nil_l, dj_nil_r, dk_app, dk_cons, dk_nil, and_true, true_and, and_assoc] using (show Dk g (K1a ++ (T1a ++ (K2a ++ (T2a ++ (K3a ++ K4a))))) from dga)
      obtain ⟨dj16_0, dj16_1, dj16_2, dj16_3, dj16_4⟩ : Dj K1a T1a ∧ Dj K1a K2a ∧ Dj K1a T2a ∧ Dj K1a K3a ∧ Dj K1a K4a := by simpa only [dj_app_l, dj_app_r, dj_cons_l, dj_cons_r, dj_nil_l, dj_nil_r, dk_app, dk_cons, dk_nil, and_true, true_and, and_assoc] using (show Dj K1a (T1a ++ (K2a ++ (T2a ++ (K3a ++ K4a)))) from d1a)
      obtain ⟨dj17_0, dj17_1, dj17_2, dj17_3⟩ : Dj T1a K2a ∧ Dj T1a T2a ∧ Dj T1a K3a ∧ Dj T1a K4a := by simpa only [dj_app_l, dj_app_r, dj_cons_l, dj_cons_r, dj_nil_l, dj_nil_r, dk_app, dk_cons, dk_nil, and_true, true_and, and_assoc] using (show Dj T1a (K2a ++ (T2a ++ (K3a ++ K4a))) from d2a)
      obtain ⟨dj18_0, dj18_1, dj18_2⟩ : Dj K2a T2a ∧ Dj K2a K3a ∧ Dj K2a K4a := by simpa only [dj_app_l, dj_app_r, dj_cons_l, dj_cons_r, dj_nil_l, dj_nil_r, dk_app, dk_cons, dk_nil, and_true, true_and, and_assoc] using (show Dj K2a (T2a ++ (K3a ++ K4a)) from d3a)
      obtain ⟨dj19_0, dj19_1⟩ : Dj T2a K3a ∧ Dj T2a K4a := by simpa only [dj_app_l, dj_app_r, dj_cons_l, dj_cons_r, dj_nil_l, dj_nil_r, dk_app, dk_cons, dk_nil, and_true, true_and, and_assoc] using (show Dj T2a (K3a ++ K4a) from d4a)
      obtain dj20_0 : Dj K3a K4a := by simpa only [dj_app_l, dj_app_r, dj_cons_l, dj_cons_r, dj_nil_l, dj_nil_r, dk_app, dk_cons, dk_nil, and_true, true_and, and_assoc] using (show Dj K3a K4a from d5a)
      obtain ⟨dj21_0, dj21_1, dj21_2, dj21_3, dj21_4, dj21_5, dj21_6⟩ : Dk g R ∧ Dj K1a R ∧ Dj T1a R ∧ Dj K2a R ∧ Dj T2a R ∧ Dj K3a R ∧ Dj K4a R := by simpa only [dj_app_l, dj_app_r, dj_cons_l, dj_cons_r, dj_nil_l, dj_nil_r, dk_app, dk_cons, dk_nil, and_true, true_and, and_assoc] using (show Dj ((g, .cells #[.func (.func 39) #[.pointer (some ⟨g, 0, none⟩)] #[], .slice p1a segs.length c1a, .slice p2a (es ++ [cs ++ [c]]).length c2a, .slice p3a ([] : Elt).length c3a, .slice p4a ([] : Cmp).length c4a] 52 (0, 0)) :: (K1a ++ (T1a ++ (K2a ++ (T2a ++ (K3a ++ K4a)))))) R from hRa)
      refine (show Code.wp _ _ _ _ _ from ?_)
      refine wp_seq ?_
      refine wp_region_L (W0 := W0) ((g, .cells #[.func (.func 39) #[.pointer (some ⟨g, 0, none⟩)] #[], .slice p1a segs.length c1a, .slice p2a (es ++ [cs ++ [c]]).length c2a, .slice p3a ([] : Elt).length c3a, .slice p4a ([] : Cmp).length c4a] 52 (0, 0)) :: (K1a ++ (T1a ++ (K2a ++ (T2a ++ (K3a ++ (K4a ++ R))))))) ((hW17.sub (fun p hp => by simp only [List.mem_cons, List.mem_append, List.nil_append, List.not_mem_nil, or_assoc, or_false, false_or, List.cons_append, List.append_assoc] at hp ⊢ <;> grind))) ?_
      refine lm (v := .pointer (some ⟨g, 0, none⟩)) rfl rfl ?_
      refine lm (v := .pointer (some ⟨g, 0, none⟩)) rfl rfl ?_
      refine lm (v := .pointer (some ⟨g, 2, none⟩)) rfl rfl ?_
      refine lv (v := .slice p2a (es ++ [cs ++ [c]]).length c2a) rfl rfl (yb_cell (off := 2) rfl (by kernel_rfl) (.head _) Try.underlying37 rfl (by kernel_rfl)) ?_
      refine lp (v := .int .i64 ((((es ++ [cs ++ [c]]).length) : Nat) : Int)) rfl rfl (run_lenO (W0 := W0) rfl Try.underlying37 (by kernel_rfl) O2a) ?_
      refine lp (v := .bool (decide (((es ++ [cs ++ [c]]).length) = 30))) rfl rfl (run_bin rfl (vx := (.int .i64 ((((es ++ [cs ++ [c]]).length) : Nat) : Int))) (vy := (.int .i64 ((30 : Nat) : Int))) (by kernel_rfl) (by kernel_rfl) fun w => bn_eql rfl w) ?_
      refine wpL_done (fun W18 hW18 => ?_)
      refine (show Code.wp _ _ _ _ _ from ?_)
      cases hd7 : (decide (((es ++ [cs ++ [c]]).length) = 30)) with
      | false =>
        have h7 : ¬ (((es ++ [cs ++ [c]]).length) = 30) := of_decide_eq_false hd7
        clear hd7
        refine wp_cond_false rfl ?_
        refine wp_skip ?_
        refine (show Code.wp _ _ _ _ _ from ?_)
        refine wp_seq ?_
        refine wp_region_L (W0 := W0) ((g, .cells #[.func (.func 39) #[.pointer (some ⟨g, 0, none⟩)] #[], .slice p1a segs.length c1a, .slice p2a (es ++ [cs ++ [c]]).length c2a, .slice p3a ([] : Elt).length c3a, .slice p4a ([] : Cmp).length c4a] 52 (0, 0)) :: (K1a ++ (T1a ++ (K2a ++ (T2a ++ (K3a ++ (K4a ++ R))))))) (hW18) ?_
        refine lm (v := .int .i64 0) rfl rfl ?_
        refine lm (v := .int .i64 0) rfl rfl ?_
        refine wpL_done (fun W19 hW19 => ?_)
        refine (show Code.wp _ _ _ _ _ from ?_)
        refine wp_ret ?_
        try simp only [inBlock_ret, then_ret]
        refine bodyPost_ret (v := .tuple #[.int .i64 0, .int .i64 0]) ?_ rfl ?_
        · kernel_rfl
        · exact ans_ok (K2 := ((g, .cells #[.func (.func 39) #[.pointer (some ⟨g, 0, none⟩)] #[], .slice p1a segs.length c1a, .slice p2a (es ++ [cs ++ [c]]).length c2a, .slice p3a ([] : Elt).length c3a, .slice p4a ([] : Cmp).length c4a] 52 (0, 0)) :: (K1a ++ (T1a ++ (K2a ++ (T2a ++ (K3a ++ K4a))))))) (ins_43b hr h2 (by have z := h7; rw [List.length_append, List.length_singleton] at z; omega)) (hW19.sub (fun p hp => by simp only [List.mem_cons, List.mem_append, List.nil_append, List.not_mem_nil, or_assoc, or_false, false_or, List.cons_append, List.append_assoc] at hp ⊢ <;> grind)) ⟨_, _, _, _, _, _, _, _, _, _, _, _, _, _, _, _, K1a, T1a, K2a, T2a, K3a, K4a, (by simp [esOf, csOf, cOf]), (by simp [esOf, csOf, cOf]), (by simp [esOf, csOf, cOf]), (by simp [esOf, csOf, cOf]), rfl, rfl, rfl, hBa, O1a, E1a, O2a, E2a, O3a, O4a, (show Dk g (K1a ++ (T1a ++ (K2a ++ (T2a ++ (K3a ++ K4a))))) from (by (try simp only [dj_app_l, dj_app_r, dj_cons_l, dj_cons_r, dj_nil_l, dj_nil_r, dk_app, dk_cons, dk_nil, and_true, true_and, and_assoc]); repeat' (first | trivial | assumption | exact Dj.symm (by assumption) | exact Ne.symm (by assumption) | apply And.intro))), (show Dj K1a (T1a ++ (K2a ++ (T2a ++ (K3a ++ K4a)))) from (by (try simp only [dj_app_l, dj_app_r, dj_cons_l, dj_cons_r, dj_nil_l, dj_nil_r, dk_app, dk_cons, dk_nil, and_true, true_and, and_assoc]); repeat' (first | trivial | assumption | exact Dj.symm (by assumption) | exact Ne.symm (by assumption) | apply And.intro))), (show Dj T1a (K2a ++ (T2a ++ (K3a ++ K4a))) from (by (try simp only [dj_app_l, dj_app_r, dj_cons_l, dj_cons_r, dj_nil_l, dj_nil_r, dk_app, dk_cons, dk_nil, and_true, true_and, and_assoc]); repeat' (first | trivial | assumption | exact Dj.symm (by assumption) | exact Ne.symm (by assumption) | apply And.intro))), (show Dj K2a (T2a ++ (K3a ++ K4a)) from (by (try simp only [dj_app_l, dj_app_r, dj_cons_l, dj_cons_r, dj_nil_l, dj_nil_r, dk_app, dk_cons, dk_nil, and_true, true_and, and_assoc]); repeat' (first | trivial | assumption | exact Dj.symm (by assumption) | exact Ne.symm (by assumption) | apply And.intro))), (show Dj T2a (K3a ++ K4a) from (by (try simp only [dj_app_l, dj_app_r, dj_cons_l, dj_cons_r, dj_nil_l, dj_nil_r, dk_app, dk_cons, dk_nil, and_true, true_and, and_assoc]); repeat' (first | trivial | assumption | exact Dj.symm (by assumption) | exact Ne.symm (by assumption) | apply And.intro))), (show Dj K3a K4a from (by (try simp only [dj_app_l, dj_app_r, dj_cons_l, dj_cons_r, dj_nil_l, dj_nil_r, dk_app, dk_cons, dk_nil, and_true, true_and, and_assoc]); repeat' (first | trivial | assumption | exact Dj.symm (by assumption) | exact Ne.symm (by assumption) | apply And.intro)))⟩ (show Dj ((g, .cells #[.func (.func 39) #[.pointer (some ⟨g, 0, none⟩)] #[], .slice p1a segs.length c1a, .slice p2a (es ++ [cs ++ [c]]).length c2a, .slice p3a ([] : Elt).length c3a, .slice p4a ([] : Cmp).length c4a] 52 (0, 0)) :: (K1a ++ (T1a ++ (K2a ++ (T2a ++ (K3a ++ K4a)))))) R from (by (try simp only [dj_app_l, dj_app_r, dj_cons_l, dj_cons_r, dj_nil_l, dj_nil_r, dk_app, dk_cons, dk_nil, and_true, true_and, and_assoc]); repeat' (first | trivial | assumption | exact Dj.symm (by assumption) | exact Ne.symm (by assumption) | apply And.intro)))
      | true =>
        have h7 : ((es ++ [cs ++ [c]]).length) = 30 := of_decide_eq_true hd7
        clear hd7
        refine wp_cond_true rfl ?_
        refine wp_seq ?_
        refine wp_region_L (W0 := W0) ((g, .cells #[.func (.func 39) #[.pointer (some ⟨g, 0, none⟩)] #[], .slice p1a segs.length c1a, .slice p2a (es ++ [cs ++ [c]]).length c2a, .slice p3a ([] : Elt).length c3a, .slice p4a ([] : Cmp).length c4a] 52 (0, 0)) :: (K1a ++ (T1a ++ (K2a ++ (T2a ++ (K3a ++ (K4a ++ R))))))) (hW18) ?_
        refine lm (v := .int .i64 ((i : Nat) : Int)) rfl rfl ?_
        refine lm (v := .int .i64 ((i : Nat) : Int)) rfl rfl ?_
        refine lm (v := .int .i64 5) rfl rfl ?_
        refine wpL_done (fun W20 hW20 => ?_)
        refine (show Code.wp _ _ _ _ _ from ?_)
        refine wp_ret ?_
        try simp only [inBlock_ret, then_ret]
        refine bodyPost_ret (v := .tuple #[.int .i64 ((i : Nat) : Int), .int .i64 5]) ?_ rfl ?_
        · kernel_rfl
        · exact ans_bad (K := []) (ins_43a hr h2 (by have z := h7; rw [List.length_append, List.length_singleton] at z; omega)) (hW20.sub (fun p hp => by simp only [List.mem_cons, List.mem_append, List.nil_append, List.not_mem_nil, or_assoc, or_false, false_or, List.cons_append, List.append_assoc] at hp ⊢ <;> grind))
  | true =>
    have h1 : r = 39 := of_decide_eq_true hd1
    clear hd1
    refine wp_cond_true rfl ?_
    refine wp_seq ?_
    refine wp_region_L (W0 := W0) ((g, .cells #[.func (.func 39) #[.pointer (some ⟨g, 0, none⟩)] #[], .slice p1 segs.length c1, .slice p2 es.length c2, .slice p3 cs.length c3, .slice p4 c.length c4] 52 (0, 0)) :: (K1 ++ (T1 ++ (K2 ++ (T2 ++ (K3 ++ (K4 ++ R))))))) (hW4) ?_
    refine lm (v := .pointer (some ⟨g, 0, none⟩)) rfl rfl ?_
    refine wpL_c (f := 50) (args := #[.pointer (some ⟨g, 0, none⟩)]) (RdO W0 g (.func (.func 39) #[.pointer (some ⟨g, 0, none⟩)] #[]) (segs ++ [es ++ [cs ++ [c]]]) ([] : List Elt) ([] : Elt) ([] : Cmp) R) rfl (by kernel_rfl) (fun _ => (by kernel_rfl)) (fun W hW => endS_any ⟨_, _, _, _, _, _, _, _, _, _, _, _, _, _, _, _, K1, T1, K2, T2, K3, K4, (by simp [esOf, csOf, cOf]), (by simp [esOf, csOf, cOf]), (by simp [esOf, csOf, cOf]), (by simp [esOf, csOf, cOf]), rfl, rfl, rfl, hB, O1, E1, O2, E2, O3, O4, (show Dk g (K1 ++ (T1 ++ (K2 ++ (T2 ++ (K3 ++ K4))))) from (by (try simp only [dj_app_l, dj_app_r, dj_cons_l, dj_cons_r, dj_nil_l, dj_nil_r, dk_app, dk_cons, dk_nil, and_true, true_and, and_assoc]); repeat' (first | trivial | assumption | exact Dj.symm (by assumption) | exact Ne.symm (by assumption) | apply And.intro))), (show Dj K1 (T1 ++ (K2 ++ (T2 ++ (K3 ++ K4)))) from (by (try simp only [dj_app_l, dj_app_r, dj_cons_l, dj_cons_r, dj_nil_l, dj_nil_r, dk_app, dk_cons, dk_nil, and_true, true_and, and_assoc]); repeat' (first | trivial | assumption | exact Dj.symm (by assumption) | exact Ne.symm (by assumption) | apply And.intro))), (show Dj T1 (K2 ++ (T2 ++ (K3 ++ K4))) from (by (try simp only [dj_app_l, dj_app_r, dj_cons_l, dj_cons_r, dj_nil_l, dj_nil_r, dk_app, dk_cons, dk_nil, and_true, true_and, and_assoc]); repeat' (first | trivial | assumption | exact Dj.symm (by assumption) | exact Ne.symm (by assumption) | apply And.intro))), (show Dj K2 (T2 ++ (K3 ++ K4)) from (by (try simp only [dj_app_l, dj_app_r, dj_cons_l, dj_cons_r, dj_nil_l, dj_nil_r, dk_app, dk_cons, dk_nil, and_true, true_and, and_assoc]); repeat' (first | trivial | assumption | exact Dj.symm (by assumption) | exact Ne.symm (by assumption) | apply And.intro))), (show Dj T2 (K3 ++ K4) from (by (try simp only [dj_app_l, dj_app_r, dj_cons_l, dj_cons_r, dj_nil_l, dj_nil_r, dk_app, dk_cons, dk_nil, and_true, true_and, and_assoc]); repeat' (first | trivial | assumption | exact Dj.symm (by assumption) | exact Ne.symm (by assumption) | apply And.intro))), (show Dj K3 K4 from (by (try simp only [dj_app_l, dj_app_r, dj_cons_l, dj_cons_r, dj_nil_l, dj_nil_r, dk_app, dk_cons, dk_nil, and_true, true_and, and_assoc]); repeat' (first | trivial | assumption | exact Dj.symm (by assumption) | exact Ne.symm (by assumption) | apply And.intro)))⟩ (show Dj ((g, .cells #[.func (.func 39) #[.pointer (some ⟨g, 0, none⟩)] #[], .slice p1 segs.length c1, .slice p2 es.length c2, .slice p3 cs.length c3, .slice p4 c.length c4] 52 (0, 0)) :: (K1 ++ (T1 ++ (K2 ++ (T2 ++ (K3 ++ K4)))))) R from (by (try simp only [dj_app_l, dj_app_r, dj_cons_l, dj_cons_r, dj_nil_l, dj_nil_r, dk_app, dk_cons, dk_nil, and_true, true_and, and_assoc]); repeat' (first | trivial | assumption | exact Dj.symm (by assumption) | exact Ne.symm (by assumption) | apply And.intro))) (by omega) (by omega) (by omega) W (hW.sub (fun p hp => by simp only [List.mem_cons, List.mem_append, List.nil_append, List.not_mem_nil, or_assoc, or_false, false_or, List.cons_append, List.append_assoc] at hp ⊢ <;> grind))) (fun _ => by simp only [List.setIfInBounds_toArray, List.set_cons_succ, List.set_cons_zero] <;> rfl) ?_
    rintro _ K9 ⟨rfl, K2a, rfl, hVa, hRa⟩
    refine wpL_done (fun W21 hW21 => ?_)
    obtain ⟨p1a, p2a, p3a, p4a, _, _, _, _, c1a, c2a, c3a, c4a, x1a, x2a, _, _, K1a, T1a, K2a, T2a, K3a, K4a, rfl, rfl, rfl, rfl, rfl, rfl, rfl, hBa, O1a, E1a, O2a, E2a, O3a, O4a, dga, d1a, d2a, d3a, d4a, d5a⟩ := hVa
    obtain ⟨dj22_0, dj22_1, dj22_2, dj22_3, dj22_4, dj22_5⟩ : Dk g K1a ∧ Dk g T1a ∧ Dk g K2a ∧ Dk g T2a ∧ Dk g K3a ∧ Dk g K4a := by simpa only [dj_app_l, dj_app_r, dj_cons_l, dj_cons_r, dj_nil_l, dj_nil_r, dk_app, dk_cons, dk_nil, and_true, true_and, and_assoc] using (show Dk g (K1a ++ (T1a ++ (K2a ++ (T2a ++ (K3a ++ K4a))))) from dga)
    obtain ⟨dj23_0, dj23_1, dj23_2, dj23_3, dj23_4⟩ : Dj K1a T1a ∧ Dj K1a K2a ∧ Dj K1a T2a ∧ Dj K1a K3a ∧ Dj K1a K4a := by simpa only [dj_app_l, dj_app_r, dj_cons_l, dj_cons_r, dj_nil_l, dj_nil_r, dk_app, dk_cons, dk_nil, and_true, true_and, and_assoc] using (show Dj K1a (T1a ++ (K2a ++ (T2a ++ (K3a ++ K4a)))) from d1a)
    obtain ⟨dj24_0, dj24_1, dj24_2, dj24_3⟩ : Dj T1a K2a ∧ Dj T1a T2a ∧ Dj T1a K3a ∧ Dj T1a K4a := by simpa only [dj_app_l, dj_app_r, dj_cons_l, dj_cons_r, dj_nil_l, dj_nil_r, dk_app, dk_cons, dk_nil, and_true, true_and, and_assoc] using (show Dj T1a (K2a ++ (T2a ++ (K3a ++ K4a))) from d2a)
    obtain ⟨dj25_0, dj25_1, dj25_2⟩ : Dj K2a T2a ∧ Dj K2a K3a ∧ Dj K2a K4a := by simpa only [dj_app_l, dj_app_r, dj_cons_l, dj_cons_r, dj_nil_l, dj_nil_r, dk_app, dk_cons, dk_nil, and_true, true_and, and_assoc] using (show Dj K2a (T2a ++ (K3a ++ K4a)) from d3a)
    obtain ⟨dj26_0, dj26_1⟩ : Dj T2a K3a ∧ Dj T2a K4a := by simpa only [dj_app_l, dj_app_r, dj_cons_l, dj_cons_r, dj_nil_l, dj_nil_r, dk_app, dk_cons, dk_nil, and_true, true_and, and_assoc] using (show Dj T2a (K3a ++ K4a) from d4a)
    obtain dj27_0 : Dj K3a K4a := by simpa only [dj_app_l, dj_app_r, dj_cons_l, dj_cons_r, dj_nil_l, dj_nil_r, dk_app, dk_cons, dk_nil, and_true, true_and, and_assoc] using (show Dj K3a K4a from d5a)
    obtain ⟨dj28_0, dj28_1, dj28_2, dj28_3, dj28_4, dj28_5, dj28_6⟩ : Dk g R ∧ Dj K1a R ∧ Dj T1a R ∧ Dj K2a R ∧ Dj T2a R ∧ Dj K3a R ∧ Dj K4a R := by simpa only [dj_app_l, dj_app_r, dj_cons_l, dj_cons_r, dj_nil_l, dj_nil_r, dk_app, dk_cons, dk_nil, and_true, true_and, and_assoc] using (show Dj ((g, .cells #[.func (.func 39) #[.pointer (some ⟨g, 0, none⟩)] #[], .slice p1a (segs ++ [es ++ [cs ++ [c]]]).length c1a, .slice p2a ([] : List Elt).length c2a, .slice p3a ([] : Elt).length c3a, .slice p4a ([] : Cmp).length c4a] 52 (0, 0)) :: (K1a ++ (T1a ++ (K2a ++ (T2a ++ (K3a ++ K4a)))))) R from hRa)
    refine (show Code.wp _ _ _ _ _ from ?_)
    refine wp_region_L (W0 := W0) ((g, .cells #[.func (.func 39) #[.pointer (some ⟨g, 0, none⟩)] #[], .slice p1a (segs ++ [es ++ [cs ++ [c]]]).length c1a, .slice p2a ([] : List Elt).length c2a, .slice p3a ([] : Elt).length c3a, .slice p4a ([] : Cmp).length c4a] 52 (0, 0)) :: (K1a ++ (T1a ++ (K2a ++ (T2a ++ (K3a ++ (K4a ++ R))))))) ((hW21.sub (fun p hp => by simp only [List.mem_cons, List.mem_append, List.nil_append, List.not_mem_nil, or_assoc, or_false, false_or, List.cons_append, List.append_assoc] at hp ⊢ <;> grind))) ?_
    refine lm (v := .pointer (some ⟨g, 0, none⟩)) rfl rfl ?_
    refine lm (v := .pointer (some ⟨g, 0, none⟩)) rfl rfl ?_
    refine lm (v := .func (.func 25) #[.pointer (some ⟨g, 0, none⟩)] #[]) rfl rfl ?_
    refine lm (v := .pointer (some ⟨g, 0, none⟩)) rfl rfl ?_
    refine lm (v := .pointer (some ⟨g, 0, none⟩)) rfl rfl ?_
    refine wpL_s ((g, .cells #[.func (.func 25) #[.pointer (some ⟨g, 0, none⟩)] #[], .slice p1a (segs ++ [es ++ [cs ++ [c]]]).length c1a, .slice p2a ([] : List Elt).length c2a, .slice p3a ([] : Elt).length c3a, .slice p4a ([] : Cmp).length c4a] 52 (0, 0)) :: (K1a ++ (T1a ++ (K2a ++ (T2a ++ (K3a ++ (K4a ++ R))))))) rfl rfl (st_row (off := 0) (v := .func (.func 25) #[.pointer (some ⟨g, 0, none⟩)] #[]) rfl (by kernel_rfl) (by kernel_rfl) (.head _) hBa (by kernel_rfl) (by simp [Value.cells]) (by intro v hv; simp [Value.cells] at hv; first | (subst hv; rfl) | (rcases hv with rfl <;> rfl)) (by kernel_rfl) (List.forall_mem_cons.2 ⟨.inl rfl, (fun p hp => .inr ⟨(.tail _ hp), ((show Dk g (K1a ++ (T1a ++ (K2a ++ (T2a ++ (K3a ++ (K4a ++ R)))))) from (by (try simp only [dj_app_l, dj_app_r, dj_cons_l, dj_cons_r, dj_nil_l, dj_nil_r, dk_app, dk_cons, dk_nil, and_true, true_and, and_assoc]); repeat' (first | trivial | assumption | exact Dj.symm (by assumption) | exact Ne.symm (by assumption) | apply And.intro))) _ hp)⟩)⟩)) ?_
    refine wpL_done (fun W22 hW22 => ?_)
    refine (show Code.wp _ _ _ _ _ from ?_)
    refine wp_seq ?_
    refine wp_region_L (W0 := W0) ((g, .cells #[.func (.func 25) #[.pointer (some ⟨g, 0, none⟩)] #[], .slice p1a (segs ++ [es ++ [cs ++ [c]]]).length c1a, .slice p2a ([] : List Elt).length c2a, .slice p3a ([] : Elt).length c3a, .slice p4a ([] : Cmp).length c4a] 52 (0, 0)) :: (K1a ++ (T1a ++ (K2a ++ (T2a ++ (K3a ++ (K4a ++ R))))))) (hW22) ?_
    refine lm (v := .int .i64 0) rfl rfl ?_
    refine lm (v := .int .i64 0) rfl rfl ?_
    refine wpL_done (fun W23 hW23 => ?_)
    refine (show Code.wp _ _ _ _ _ from ?_)
    refine wp_ret ?_
    try simp only [inBlock_ret, then_ret]
    refine bodyPost_ret (v := .tuple #[.int .i64 0, .int .i64 0]) ?_ rfl ?_
    · kernel_rfl
    · exact ans_ok (K2 := ((g, .cells #[.func (.func 25) #[.pointer (some ⟨g, 0, none⟩)] #[], .slice p1a (segs ++ [es ++ [cs ++ [c]]]).length c1a, .slice p2a ([] : List Elt).length c2a, .slice p3a ([] : Elt).length c3a, .slice p4a ([] : Cmp).length c4a] 52 (0, 0)) :: (K1a ++ (T1a ++ (K2a ++ (T2a ++ (K3a ++ K4a))))))) (ins_39 hr h1) (hW23.sub (fun p hp => by simp only [List.mem_cons, List.mem_append, List.nil_append, List.not_mem_nil, or_assoc, or_false, false_or, List.cons_append, List.append_assoc] at hp ⊢ <;> grind)) ⟨_, _, _, _, _, _, _, _, _, _, _, _, _, _, _, _, K1a, T1a, K2a, T2a, K3a, K4a, (by simp [esOf, csOf, cOf]), (by simp [esOf, csOf, cOf]), (by simp [esOf, csOf, cOf]), (by simp [esOf, csOf, cOf]), rfl, rfl, rfl, hBa, O1a, E1a, O2a, E2a, O3a, O4a, (show Dk g (K1a ++ (T1a ++ (K2a ++ (T2a ++ (K3a ++ K4a))))) from (by (try simp only [dj_app_l, dj_app_r, dj_cons_l, dj_cons_r, dj_nil_l, dj_nil_r, dk_app, dk_cons, dk_nil, and_true, true_and, and_assoc]); repeat' (first | trivial | assumption | exact Dj.symm (by assumption) | exact Ne.symm (by assumption) | apply And.intro))), (show Dj K1a (T1a ++ (K2a ++ (T2a ++ (K3a ++ K4a)))) from (by (try simp only [dj_app_l, dj_app_r, dj_cons_l, dj_cons_r, dj_nil_l, dj_nil_r, dk_app, dk_cons, dk_nil, and_true, true_and, and_assoc]); repeat' (first | trivial | assumption | exact Dj.symm (by assumption) | exact Ne.symm (by assumption) | apply And.intro))), (show Dj T1a (K2a ++ (T2a ++ (K3a ++ K4a))) from (by (try simp only [dj_app_l, dj_app_r, dj_cons_l, dj_cons_r, dj_nil_l, dj_nil_r, dk_app, dk_cons, dk_nil, and_true, true_and, and_assoc]); repeat' (first | trivial | assumption | exact Dj.symm (by assumption) | exact Ne.symm (by assumption) | apply And.intro))), (show Dj K2a (T2a ++ (K3a ++ K4a)) from (by (try simp only [dj_app_l, dj_app_r, dj_cons_l, dj_cons_r, dj_nil_l, dj_nil_r, dk_app, dk_cons, dk_nil, and_true, true_and, and_assoc]); repeat' (first | trivial | assumption | exact Dj.symm (by assumption) | exact Ne.symm (by assumption) | apply And.intro))), (show Dj T2a (K3a ++ K4a) from (by (try simp only [dj_app_l, dj_app_r, dj_cons_l, dj_cons_r, dj_nil_l, dj_nil_r, dk_app, dk_cons, dk_nil, and_true, true_and, and_assoc]); repeat' (first | trivial | assumption | exact Dj.symm (by assumption) | exact Ne.symm (by assumption) | apply And.intro))), (show Dj K3a K4a from (by (try simp only [dj_app_l, dj_app_r, dj_cons_l, dj_cons_r, dj_nil_l, dj_nil_r, dk_app, dk_cons, dk_nil, and_true, true_and, and_assoc]); repeat' (first | trivial | assumption | exact Dj.symm (by assumption) | exact Ne.symm (by assumption) | apply And.intro)))⟩ (show Dj ((g, .cells #[.func (.func 25) #[.pointer (some ⟨g, 0, none⟩)] #[], .slice p1a (segs ++ [es ++ [cs ++ [c]]]).length c1a, .slice p2a ([] : List Elt).length c2a, .slice p3a ([] : Elt).length c3a, .slice p4a ([] : Cmp).length c4a] 52 (0, 0)) :: (K1a ++ (T1a ++ (K2a ++ (T2a ++ (K3a ++ K4a)))))) R from (by (try simp only [dj_app_l, dj_app_r, dj_cons_l, dj_cons_r, dj_nil_l, dj_nil_r, dk_app, dk_cons, dk_nil, and_true, true_and, and_assoc]); repeat' (first | trivial | assumption | exact Dj.symm (by assumption) | exact Ne.symm (by assumption) | apply And.intro)))
end Go.Proofs.Ytppegdbelgobiaa
namespace Go.Proofs.Ytppegdbelgobiaa
open Go Go.RowKit Tw
set_option maxRecDepth 100000 in
set_option maxHeartbeats 4000000 in
theorem released_any {W0 : Base} {g : Nat} {segs : List Sgm} {es : List Elt} {cs : List Cmp} {c : Cmp} {i r n p : Nat} {b : UInt8} {K R : List (Nat × Obj)} (hV : RdV W0 g (.func (.func 53) #[.pointer (some ⟨g, 0, none⟩)] #[]) segs es cs c K) (hR : Dj K R) (lc : c.length ≤ 100) (li : i ≤ 4000000000) (hp : p + 1 = i) (hr : Rn b r n) (w : World) (hw : KS W0 (K ++ R) w) : Calls Try.prog 53 #[.pointer (some ⟨g, 0, none⟩), .int .i64 ((i : Nat) : Int), .int .i32 ((r : Nat) : Int)] w fun e w' => ∃ v K', e = .returned v ∧ KS W0 K' w' ∧ Ans W0 g (step i b ⟨segs, .rel p es cs c⟩) R v K' := by
  have lr := rn_le hr
  obtain ⟨p1, p2, p3, p4, _, _, _, _, c1, c2, c3, c4, x1, x2, _, _, K1, T1, K2, T2, K3, K4, rfl, rfl, rfl, rfl, rfl, rfl, rfl, hB, O1, E1, O2, E2, O3, O4, dg, d1, d2, d3, d4, d5⟩ := hV
  obtain ⟨dj1_0, dj1_1, dj1_2, dj1_3, dj1_4, dj1_5⟩ : Dk g K1 ∧ Dk g T1 ∧ Dk g K2 ∧ Dk g T2 ∧ Dk g K3 ∧ Dk g K4 := by simpa only [dj_app_l, dj_app_r, dj_cons_l, dj_cons_r, dj_nil_l, dj_nil_r, dk_app, dk_cons, dk_nil, and_true, true_and, and_assoc] using (show Dk g (K1 ++ (T1 ++ (K2 ++ (T2 ++ (K3 ++ K4))))) from dg)
  obtain ⟨dj2_0, dj2_1, dj2_2, dj2_3, dj2_4⟩ : Dj K1 T1 ∧ Dj K1 K2 ∧ Dj K1 T2 ∧ Dj K1 K3 ∧ Dj K1 K4 := by simpa only [dj_app_l, dj_app_r, dj_cons_l, dj_cons_r, dj_nil_l, dj_nil_r, dk_app, dk_cons, dk_nil, and_true, true_and, and_assoc] using (show Dj K1 (T1 ++ (K2 ++ (T2 ++ (K3 ++ K4)))) from d1)
  obtain ⟨dj3_0, dj3_1, dj3_2, dj3_3⟩ : Dj T1 K2 ∧ Dj T1 T2 ∧ Dj T1 K3 ∧ Dj T1 K4 := by simpa only [dj_app_l, dj_app_r, dj_cons_l, dj_cons_r, dj_nil_l, dj_nil_r, dk_app, dk_cons, dk_nil, and_true, true_and, and_assoc] using (show Dj T1 (K2 ++ (T2 ++ (K3 ++ K4))) from d2)
  obtain ⟨dj4_0, dj4_1, dj4_2⟩ : Dj K2 T2 ∧ Dj K2 K3 ∧ Dj K2 K4 := by simpa only [dj_app_l, dj_app_r, dj_cons_l, dj_cons_r, dj_nil_l, dj_nil_r, dk_app, dk_cons, dk_nil, and_true, true_and, and_assoc] using (show Dj K2 (T2 ++ (K3 ++ K4)) from d3)
  obtain ⟨dj5_0, dj5_1⟩ : Dj T2 K3 ∧ Dj T2 K4 := by simpa only [dj_app_l, dj_app_r, dj_cons_l, dj_cons_r, dj_nil_l, dj_nil_r, dk_app, dk_cons, dk_nil, and_true, true_and, and_assoc] using (show Dj T2 (K3 ++ K4) from d4)
  obtain dj6_0 : Dj K3 K4 := by simpa only [dj_app_l, dj_app_r, dj_cons_l, dj_cons_r, dj_nil_l, dj_nil_r, dk_app, dk_cons, dk_nil, and_true, true_and, and_assoc] using (show Dj K3 K4 from d5)
  obtain ⟨dj7_0, dj7_1, dj7_2, dj7_3, dj7_4, dj7_5, dj7_6⟩ : Dk g R ∧ Dj K1 R ∧ Dj T1 R ∧ Dj K2 R ∧ Dj T2 R ∧ Dj K3 R ∧ Dj K4 R := by simpa only [dj_app_l, dj_app_r, dj_cons_l, dj_cons_r, dj_nil_l, dj_nil_r, dk_app, dk_cons, dk_nil, and_true, true_and, and_assoc] using (show Dj ((g, .cells #[.func (.func 53) #[.pointer (some ⟨g, 0, none⟩)] #[], .slice p1 segs.length c1, .slice p2 es.length c2, .slice p3 cs.length c3, .slice p4 c.length c4] 52 (0, 0)) :: (K1 ++ (T1 ++ (K2 ++ (T2 ++ (K3 ++ K4)))))) R from hR)
  go_enter Try.func53, Try.ntmps53
  refine wp_seq ?_
  refine wp_region_L (W0 := W0) ((g, .cells #[.func (.func 53) #[.pointer (some ⟨g, 0, none⟩)] #[], .slice p1 segs.length c1, .slice p2 es.length c2, .slice p3 cs.length c3, .slice p4 c.length c4] 52 (0, 0)) :: (K1 ++ (T1 ++ (K2 ++ (T2 ++ (K3 ++ (K4 ++ R))))))) ((hw.sub (fun p hp => by simp only [List.mem_cons, List.mem_append, List.nil_append, List.not_mem_nil, or_assoc, or_false, false_or, List.cons_append, List.append_assoc] at hp ⊢ <;> grind))) ?_
  refine lm (v := .int .i64 0) rfl rfl ?_
  refine lm (v := .int .i64 0) rfl rfl ?_
  refine wpL_done (fun W1 hW1 => ?_)
  refine (show Code.wp _ _ _ _ _ from ?_)
  refine wp_seq ?_
  refine wp_seq ?_
  refine wp_region_L (W0 := W0) ((g, .cells #[.func (.func 53) #[.pointer (some ⟨g, 0, none⟩)] #[], .slice p1 segs.length c1, .slice p2 es.length c2, .slice p3 cs.length c3, .slice p4 c.length c4] 52 (0, 0)) :: (K1 ++ (T1 ++ (K2 ++ (T2 ++ (K3 ++ (K4 ++ R))))))) (hW1) ?_
  refine lm (v := .int .i32 ((r : Nat) : Int)) rfl rfl ?_
  refine lv (v := .bool (svc b)) rfl rfl (yb_call (f := 49) (args := #[.int .i32 ((r : Nat) : Int)]) (fun _ => by kernel_rfl) fun W hW => isService_any b r n hr W) ?_
  refine lp (v := .bool (!(svc b))) rfl rfl (run_un rfl (by kernel_rfl) fun w => un_not w) ?_
  refine lm (v := .bool (!(svc b))) rfl rfl ?_
  cases h1 : (svc b) with
  | false =>
    refine lm (v := .int .i32 ((r : Nat) : Int)) rfl rfl ?_
    refine lp (v := .bool (!(decide (r = 32)))) rfl rfl (run_bin rfl (vx := (.int .i32 ((r : Nat) : Int))) (vy := (.int .i32 ((32 : Nat) : Int))) (by kernel_rfl) (by kernel_rfl) fun w => bn_neq rfl w) ?_
    refine lm (v := .bool (!(decide (r = 32)))) rfl rfl ?_
    refine wpL_done (fun W2 hW2 => ?_)
    refine (show Code.wp _ _ _ _ _ from ?_)
    cases hd2 : (decide (r = 32)) with
    | false =>
      have h2 : ¬ (r = 32) := of_decide_eq_false hd2
      clear hd2
      refine wp_cond_true rfl ?_
      refine wp_seq ?_
      refine wp_region_L (W0 := W0) ((g, .cells #[.func (.func 53) #[.pointer (some ⟨g, 0, none⟩)] #[], .slice p1 segs.length c1, .slice p2 es.length c2, .slice p3 cs.length c3, .slice p4 c.length c4] 52 (0, 0)) :: (K1 ++ (T1 ++ (K2 ++ (T2 ++ (K3 ++ (K4 ++ R))))))) (hW2) ?_
      refine lm (v := .int .i64 ((i : Nat) : Int)) rfl rfl ?_
      refine lp (v := .int .i64 ((p : Nat) : Int)) rfl rfl (run_bin rfl (vx := (.int .i64 ((i : Nat) : Int))) (vy := (.int .i64 ((1 : Nat) : Int))) (by kernel_rfl) (by kernel_rfl) fun w => bn_sub (z := p) (by omega) (by omega) (wr_i64 (by omega)) w) ?_
      refine lm (v := .int .i64 ((p : Nat) : Int)) rfl rfl ?_
      refine lm (v := .int .i64 41) rfl rfl ?_
      refine wpL_done (fun W3 hW3 => ?_)
      refine (show Code.wp _ _ _ _ _ from ?_)
      refine wp_ret ?_
      try simp only [inBlock_ret, then_ret]
      refine bodyPost_ret (v := .tuple #[.int .i64 ((p : Nat) : Int), .int .i64 41]) ?_ rfl ?_
      · kernel_rfl
      · exact ans_bad (K := []) (rel_no hr h1 h2) (hW3.sub (fun p hp => by simp only [List.mem_cons, List.mem_append, List.nil_append, List.not_mem_nil, or_assoc, or_false, false_or, List.cons_append, List.append_assoc] at hp ⊢ <;> grind))
    | true =>
      have h2 : r = 32 := of_decide_eq_true hd2
      clear hd2
      refine wp_cond_false rfl ?_
      refine wp_skip ?_
      refine (show Code.wp _ _ _ _ _ from ?_)
      refine wp_seq ?_
      refine wp_region_L (W0 := W0) ((g, .cells #[.func (.func 53) #[.pointer (some ⟨g, 0, none⟩)] #[], .slice p1 segs.length c1, .slice p2 es.length c2, .slice p3 cs.length c3, .slice p4 c.length c4] 52 (0, 0)) :: (K1 ++ (T1 ++ (K2 ++ (T2 ++ (K3 ++ (K4 ++ R))))))) (hW2) ?_
      refine lm (v := .pointer (some ⟨g, 0, none⟩)) rfl rfl ?_
      refine lm (v := .pointer (some ⟨g, 0, none⟩)) rfl rfl ?_
      refine lm (v := .func (.func 39) #[.pointer (some ⟨g, 0, none⟩)] #[]) rfl rfl ?_
      refine lm (v := .pointer (some ⟨g, 0, none⟩)) rfl rfl ?_
      refine lm (v := .pointer (some ⟨g, 0, none⟩)) rfl rfl ?_
      refine wpL_s ((g, .cells #[.func (.func 39) #[.pointer (some ⟨g, 0, none⟩)] #[], .slice p1 segs.length c1, .slice p2 es.length c2, .slice p3 cs.length c3, .slice p4 c.length c4] 52 (0, 0)) :: (K1 ++ (T1 ++ (K2 ++ (T2 ++ (K3 ++ (K4 ++ R))))))) rfl rfl (st_row (off := 0) (v := .func (.func 39) #[.pointer (some ⟨g, 0, none⟩)] #[]) rfl (by kernel_rfl) (by kernel_rfl) (.head _) hB (by kernel_rfl) (by simp [Value.cells]) (by intro v hv; simp [Value.cells] at hv; first | (subst hv; rfl) | (rcases hv with rfl <;> rfl)) (by kernel_rfl) (List.forall_mem_cons.2 ⟨.inl rfl, (fun p hp => .inr ⟨(.tail _ hp), ((show Dk g (K1 ++ (T1 ++ (K2 ++ (T2 ++ (K3 ++ (K4 ++ R)))))) from (by (try simp only [dj_app_l, dj_app_r, dj_cons_l, dj_cons_r, dj_nil_l, dj_nil_r, dk_app, dk_cons, dk_nil, and_true, true_and, and_assoc]); repeat' (first | trivial | assumption | exact Dj.symm (by assumption) | exact Ne.symm (by assumption) | apply And.intro))) _ hp)⟩)⟩)) ?_
      refine wpL_done (fun W4 hW4 => ?_)
      refine (show Code.wp _ _ _ _ _ from ?_)
      refine wp_seq ?_
      refine wp_region_L (W0 := W0) ((g, .cells #[.func (.func 39) #[.pointer (some ⟨g, 0, none⟩)] #[], .slice p1 segs.length c1, .slice p2 es.length c2, .slice p3 cs.length c3, .slice p4 c.length c4] 52 (0, 0)) :: (K1 ++ (T1 ++ (K2 ++ (T2 ++ (K3 ++ (K4 ++ R))))))) (hW4) ?_
      refine lm (v := .pointer (some ⟨g, 0, none⟩)) rfl rfl ?_
      refine lm (v := .int .i64 ((i : Nat) : Int)) rfl rfl ?_
      refine lp (v := .int .i64 ((p : Nat) : Int)) rfl rfl (run_bin rfl (vx := (.int .i64 ((i : Nat) : Int))) (vy := (.int .i64 ((1 : Nat) : Int))) (by kernel_rfl) (by kernel_rfl) fun w => bn_sub (z := p) (by omega) (by omega) (wr_i64 (by omega)) w) ?_
      refine lm (v := .int .i32 ((r : Nat) : Int)) rfl rfl ?_
      refine wpL_c (f := 55) (args := #[.pointer (some ⟨g, 0, none⟩), .int .i64 ((p : Nat) : Int), .int .i32 ((r : Nat) : Int)]) (Ans W0 g (putc p b segs es cs c) R) rfl (by kernel_rfl) (fun _ => (by kernel_rfl)) (fun W hW => put_any ⟨_, _, _, _, _, _, _, _, _, _, _, _, _, _, _, _, K1, T1, K2, T2, K3, K4, (by simp [esOf, csOf, cOf]), (by simp [esOf, csOf, cOf]), (by simp [esOf, csOf, cOf]), (by simp [esOf, csOf, cOf]), rfl, rfl, rfl, hB, O1, E1, O2, E2, O3, O4, (show Dk g (K1 ++ (T1 ++ (K2 ++ (T2 ++ (K3 ++ K4))))) from (by (try simp only [dj_app_l, dj_app_r, dj_cons_l, dj_cons_r, dj_nil_l, dj_nil_r, dk_app, dk_cons, dk_nil, and_true, true_and, and_assoc]); repeat' (first | trivial | assumption | exact Dj.symm (by assumption) | exact Ne.symm (by assumption) | apply And.intro))), (show Dj K1 (T1 ++ (K2 ++ (T2 ++ (K3 ++ K4)))) from (by (try simp only [dj_app_l, dj_app_r, dj_cons_l, dj_cons_r, dj_nil_l, dj_nil_r, dk_app, dk_cons, dk_nil, and_true, true_and, and_assoc]); repeat' (first | trivial | assumption | exact Dj.symm (by assumption) | exact Ne.symm (by assumption) | apply And.intro))), (show Dj T1 (K2 ++ (T2 ++ (K3 ++ K4))) from (by (try simp only [dj_app_l, dj_app_r, dj_cons_l, dj_cons_r, dj_nil_l, dj_nil_r, dk_app, dk_cons, dk_nil, and_true, true_and, and_assoc]); repeat' (first | trivial | assumption | exact Dj.symm (by assumption) | exact Ne.symm (by assumption) | apply And.intro))), (show Dj K2 (T2 ++ (K3 ++ K4)) from (by (try simp only [dj_app_l, dj_app_r, dj_cons_l, dj_cons_r, dj_nil_l, dj_nil_r, dk_app, dk_cons, dk_nil, and_true, true_and, and_assoc]); repeat' (first | trivial | assumption | exact Dj.symm (by assumption) | exact Ne.symm (by assumption) | apply And.intro))), (show Dj T2 (K3 ++ K4) from (by (try simp only [dj_app_l, dj_app_r, dj_cons_l, dj_cons_r, dj_nil_l, dj_nil_r, dk_app, dk_cons, dk_nil, and_true, true_and, and_assoc]); repeat' (first | trivial | assumption | exact Dj.symm (by assumption) | exact Ne.symm (by assumption) | apply And.intro))), (show Dj K3 K4 from (by (try simp only [dj_app_l, dj_app_r, dj_cons_l, dj_cons_r, dj_nil_l, dj_nil_r, dk_app, dk_cons, dk_nil, and_true, true_and, and_assoc]); repeat' (first | trivial | assumption | exact Dj.symm (by assumption) | exact Ne.symm (by assumption) | apply And.intro)))⟩ (show Dj ((g, .cells #[.func (.func 39) #[.pointer (some ⟨g, 0, none⟩)] #[], .slice p1 segs.length c1, .slice p2 es.length c2, .slice p3 cs.length c3, .slice p4 c.length c4] 52 (0, 0)) :: (K1 ++ (T1 ++ (K2 ++ (T2 ++ (K3 ++ K4)))))) R from (by (try simp only [dj_app_l, dj_app_r, dj_cons_l, dj_cons_r, dj_nil_l, dj_nil_r, dk_app, dk_cons, dk_nil, and_true, true_and, and_assoc]); repeat' (first | trivial | assumption | exact Dj.symm (by assumption) | exact Ne.symm (by assumption) | apply And.intro))) lc (by omega) (rel_low hr (.inr h2)) W (hW.sub (fun p hp => by simp only [List.mem_cons, List.mem_append, List.nil_append, List.not_mem_nil, or_assoc, or_false, false_or, List.cons_append, List.append_assoc] at hp ⊢ <;> grind))) (fun _ => by simp only [List.setIfInBounds_toArray, List.set_cons_succ, List.set_cons_zero] <;> rfl) ?_
      rintro _ K9 ⟨rfl, K2b, rfl, hVb⟩
      refine lm (v := .int .i64 (((errAt (putc p b segs es cs c)) : Nat) : Int)) rfl rfl ?_
      refine lm (v := .int .i64 (((errNo (putc p b segs es cs c)) : Nat) : Int)) rfl rfl ?_
      refine lm (v := .int .i64 (((errAt (putc p b segs es cs c)) : Nat) : Int)) rfl rfl ?_
      refine lm (v := .int .i64 (((errNo (putc p b segs es cs c)) : Nat) : Int)) rfl rfl ?_
      refine wpL_done (fun W5 hW5 => ?_)
      refine (show Code.wp _ _ _ _ _ from ?_)
      refine wp_ret ?_
      try simp only [inBlock_ret, then_ret]
      refine bodyPost_ret (v := .tuple #[.int .i64 (((errAt (putc p b segs es cs c)) : Nat) : Int), .int .i64 (((errNo (putc p b segs es cs c)) : Nat) : Int)]) ?_ rfl ?_
      · kernel_rfl
      · exact (by rw [rel_yes hr (.inr h2)]; exact ⟨_, _, rfl, hW5, rfl, K2b, rfl, hVb⟩)
  | true =>
    refine ln rfl ?_
    refine ln rfl ?_
    refine lm (v := .bool false) rfl rfl ?_
    refine wpL_done (fun W6 hW6 => ?_)
    refine (show Code.wp _ _ _ _ _ from ?_)
    refine wp_cond_false rfl ?_
    refine wp_skip ?_
    refine (show Code.wp _ _ _ _ _ from ?_)
    refine wp_seq ?_
    refine wp_region_L (W0 := W0) ((g, .cells #[.func (.func 53) #[.pointer (some ⟨g, 0, none⟩)] #[], .slice p1 segs.length c1, .slice p2 es.length c2, .slice p3 cs.length c3, .slice p4 c.length c4] 52 (0, 0)) :: (K1 ++ (T1 ++ (K2 ++ (T2 ++ (K3 ++ (K4 ++ R))))))) (hW6) ?_
    refine lm (v := .pointer (some ⟨g, 0, none⟩)) rfl rfl ?_
    refine lm (v := .pointer (some ⟨g, 0, none⟩)) rfl rfl ?_
    refine lm (v := .func (.func 39) #[.pointer (some ⟨g, 0, none⟩)] #[]) rfl rfl ?_
    refine lm (v := .pointer (some ⟨g, 0, none⟩)) rfl rfl ?_
    refine lm (v := .pointer (some ⟨g, 0, none⟩)) rfl rfl ?_
    refine wpL_s ((g, .cells #[.func (.func 39) #[.pointer (some ⟨g, 0, none⟩)] #[], .slice p1 segs.length c1, .slice p2 es.length c2, .slice p3 cs.length c3, .slice p4 c.length c4] 52 (0, 0)) :: (K1 ++ (T1 ++ (K2 ++ (T2 ++ (K3 ++ (K4 ++ R))))))) rfl rfl (st_row (off := 0) (v := .func (.func 39) #[.pointer (some ⟨g, 0, none⟩)] #[]) rfl (by kernel_rfl) (by kernel_rfl) (.head _) hB (by kernel_rfl) (by simp [Value.cells]) (by intro v hv; simp [Value.cells] at hv; first | (subst hv; rfl) | (rcases hv with rfl <;> rfl)) (by kernel_rfl) (List.forall_mem_cons.2 ⟨.inl rfl, (fun p hp => .inr ⟨(.tail _ hp), ((show Dk g (K1 ++ (T1 ++ (K2 ++ (T2 ++ (K3 ++ (K4 ++ R)))))) from (by (try simp only [dj_app_l, dj_app_r, dj_cons_l, dj_cons_r, dj_nil_l, dj_nil_r, dk_app, dk_cons, dk_nil, and_true, true_and, and_assoc]); repeat' (first | trivial | assumption | exact Dj.symm (by assumption) | exact Ne.symm (by assumption) | apply And.intro))) _ hp)⟩)⟩)) ?_
    refine wpL_done (fun W7 hW7 => ?_)
    refine (show Code.wp _ _ _ _ _ from ?_)
    refine wp_seq ?_
    refine wp_region_L (W0 := W0) ((g, .cells #[.func (.func 39) #[.pointer (some ⟨g, 0, none⟩)] #[], .slice p1 segs.length c1, .slice p2 es.length c2, .slice p3 cs.length c3, .slice p4 c.length c4] 52 (0, 0)) :: (K1 ++ (T1 ++ (K2 ++ (T2 ++ (K3 ++ (K4 ++ R))))))) (hW7) ?_
    refine lm (v := .pointer (some ⟨g, 0, none⟩)) rfl rfl ?_
    refine lm (v := .int .i64 ((i : Nat) : Int)) rfl rfl ?_
    refine lp (v := .int .i64 ((p : Nat) : Int)) rfl rfl (run_bin rfl (vx := (.int .i64 ((i : Nat) : Int))) (vy := (.int .i64 ((1 : Nat) : Int))) (by kernel_rfl) (by kernel_rfl) fun w => bn_sub (z := p) (by omega) (by omega) (wr_i64 (by omega)) w) ?_
    refine lm (v := .int .i32 ((r : Nat) : Int)) rfl rfl ?_
    refine wpL_c (f := 55) (args := #[.pointer (some ⟨g, 0, none⟩), .int .i64 ((p : Nat) : Int), .int .i32 ((r : Nat) : Int)]) (Ans W0 g (putc p b segs es cs c) R) rfl (by kernel_rfl) (fun _ => (by kernel_rfl)) (fun W hW => put_any ⟨_, _, _, _, _, _, _, _, _, _, _, _, _, _, _, _, K1, T1, K2, T2, K3, K4, (by simp [esOf, csOf, cOf]), (by simp [esOf, csOf, cOf]), (by simp [esOf, csOf, cOf]), (by simp [esOf, csOf, cOf]), rfl, rfl, rfl, hB, O1, E1, O2, E2, O3, O4, (show Dk g (K1 ++ (T1 ++ (K2 ++ (T2 ++ (K3 ++ K4))))) from (by (try simp only [dj_app_l, dj_app_r, dj_cons_l, dj_cons_r, dj_nil_l, dj_nil_r, dk_app, dk_cons, dk_nil, and_true, true_and, and_assoc]); repeat' (first | trivial | assumption | exact Dj.symm (by assumption) | exact Ne.symm (by assumption) | apply And.intro))), (show Dj K1 (T1 ++ (K2 ++ (T2 ++ (K3 ++ K4)))) from (by (try simp only [dj_app_l, dj_app_r, dj_cons_l, dj_cons_r, dj_nil_l, dj_nil_r, dk_app, dk_cons, dk_nil, and_true, true_and, and_assoc]); repeat' (first | trivial | assumption | exact Dj.symm (by assumption) | exact Ne.symm (by assumption) | apply And.intro))), (show Dj T1 (K2 ++ (T2 ++ (K3 ++ K4))) from (by (try simp only [dj_app_l, dj_app_r, dj_cons_l, dj_cons_r, dj_nil_l, dj_nil_r, dk_app, dk_cons, dk_nil, and_true, true_and, and_assoc]); repeat' (first | trivial | assumption | exact Dj.symm (by assumption) | exact Ne.symm (by assumption) | apply And.intro))), (show Dj K2 (T2 ++ (K3 ++ K4)) from (by (try simp only [dj_app_l, dj_app_r, dj_cons_l, dj_cons_r, dj_nil_l, dj_nil_r, dk_app, dk_cons, dk_nil, and_true, true_and, and_assoc]); repeat' (first | trivial | assumption | exact Dj.symm (by assumption) | exact Ne.symm (by assumption) | apply And.intro))), (show Dj T2 (K3 ++ K4) from (by (try simp only [dj_app_l, dj_app_r, dj_cons_l, dj_cons_r, dj_nil_l, dj_nil_r, dk_app, dk_cons, dk_nil, and_true, true_and, and_assoc]); repeat' (first | trivial | assumption | exact Dj.symm (by assumption) | exact Ne.symm (by assumption) | apply And.intro))), (show Dj K3 K4 from (by (try simp only [dj_app_l, dj_app_r, dj_cons_l, dj_cons_r, dj_nil_l, dj_nil_r, dk_app, dk_cons, dk_nil, and_true, true_and, and_assoc]); repeat' (first | trivial | assumption | exact Dj.symm (by assumption) | exact Ne.symm (by assumption) | apply And.intro)))⟩ (show Dj ((g, .cells #[.func (.func 39) #[.pointer (some ⟨g, 0, none⟩)] #[], .slice p1 segs.length c1, .slice p2 es.length c2, .slice p3 cs.length c3, .slice p4 c.length c4] 52 (0, 0)) :: (K1 ++ (T1 ++ (K2 ++ (T2 ++ (K3 ++ K4)))))) R from (by (try simp only [dj_app_l, dj_app_r, dj_cons_l, dj_cons_r, dj_nil_l, dj_nil_r, dk_app, dk_cons, dk_nil, and_true, true_and, and_assoc]); repeat' (first | trivial | assumption | exact Dj.symm (by assumption) | exact Ne.symm (by assumption) | apply And.intro))) lc (by omega) (rel_low hr (.inl h1)) W (hW.sub (fun p hp => by simp only [List.mem_cons, List.mem_append, List.nil_append, List.not_mem_nil, or_assoc, or_false, false_or, List.cons_append, List.append_assoc] at hp ⊢ <;> grind))) (fun _ => by simp only [List.setIfInBounds_toArray, List.set_cons_succ, List.set_cons_zero] <;> rfl) ?_
    rintro _ K9 ⟨rfl, K2b, rfl, hVb⟩
    refine lm (v := .int .i64 (((errAt (putc p b segs es cs c)) : Nat) : Int)) rfl rfl ?_
    refine lm (v := .int .i64 (((errNo (putc p b segs es cs c)) : Nat) : Int)) rfl rfl ?_
    refine lm (v := .int .i64 (((errAt (putc p b segs es cs c)) : Nat) : Int)) rfl rfl ?_
    refine lm (v := .int .i64 (((errNo (putc p b segs es cs c)) : Nat) : Int)) rfl rfl ?_
    refine wpL_done (fun W8 hW8 => ?_)
    refine (show Code.wp _ _ _ _ _ from ?_)
    refine wp_ret ?_
    try simp only [inBlock_ret, then_ret]
    refine bodyPost_ret (v := .tuple #[.int .i64 (((errAt (putc p b segs es cs c)) : Nat) : Int), .int .i64 (((errNo (putc p b segs es cs c)) : Nat) : Int)]) ?_ rfl ?_
    · kernel_rfl
    · exact (by rw [rel_yes hr (.inl h1)]; exact ⟨_, _, rfl, hW8, rfl, K2b, rfl, hVb⟩)
set_option maxRecDepth 100000 in
set_option maxHeartbeats 4000000 in
theorem between_any {W0 : Base} {g : Nat} {segs : List Sgm} {i r n : Nat} {b : UInt8} {K R : List (Nat × Obj)} (hV : RdV W0 g (.func (.func 25) #[.pointer (some ⟨g, 0, none⟩)] #[]) segs [] [] [] K) (hR : Dj K R) (ls : segs.length ≤ 5000) (li : i ≤ 4000000000) (hr : Rn b r n) (w : World) (hw : KS W0 (K ++ R) w) : Calls Try.prog 25 #[.pointer (some ⟨g, 0, none⟩), .int .i64 ((i : Nat) : Int), .int .i32 ((r : Nat) : Int)] w fun e w' => ∃ v K', e = .returned v ∧ KS W0 K' w' ∧ Ans W0 g (step i b ⟨segs, .out⟩) R v K' := by
  have lr := rn_le hr
  obtain ⟨p1, p2, p3, p4, _, _, _, _, c1, c2, c3, c4, x1, x2, _, _, K1, T1, K2, T2, K3, K4, rfl, rfl, rfl, rfl, rfl, rfl, rfl, hB, O1, E1, O2, E2, O3, O4, dg, d1, d2, d3, d4, d5⟩ := hV
  obtain ⟨dj1_0, dj1_1, dj1_2, dj1_3, dj1_4, dj1_5⟩ : Dk g K1 ∧ Dk g T1 ∧ Dk g K2 ∧ Dk g T2 ∧ Dk g K3 ∧ Dk g K4 := by simpa only [dj_app_l, dj_app_r, dj_cons_l, dj_cons_r, dj_nil_l, dj_nil_r, dk_app, dk_cons, dk_nil, and_true, true_and, and_assoc] using (show Dk g (K1 ++ (T1 ++ (K2 ++ (T2 ++ (K3 ++ K4))))) from dg)
  obtain ⟨dj2_0, dj2_1, dj2_2, dj2_3, dj2_4⟩ : Dj K1 T1 ∧ Dj K1 K2 ∧ Dj K1 T2 ∧ Dj K1 K3 ∧ Dj K1 K4 := by simpa only [dj_app_l, dj_app_r, dj_cons_l, dj_cons_r, dj_nil_l, dj_nil_r, dk_app, dk_cons, dk_nil, and_true, true_and, and_assoc] using (show Dj K1 (T1 ++ (K2 ++ (T2 ++ (K3 ++ K4)))) from d1)
  obtain ⟨dj3_0, dj3_1, dj3_2, dj3_3⟩ : Dj T1 K2 ∧ Dj T1 T2 ∧ Dj T1 K3 ∧ Dj T1 K4 := by simpa only [dj_app_l, dj_app_r, dj_cons_l, dj_cons_r, dj_nil_l, dj_nil_r, dk_app, dk_cons, dk_nil, and_true, true_and, and_assoc] using (show Dj T1 (K2 ++ (T2 ++ (K3 ++ K4))) from d2)
  obtain ⟨dj4_0, dj4_1, dj4_2⟩ : Dj K2 T2 ∧ Dj K2 K3 ∧ Dj K2 K4 := by simpa only [dj_app_l, dj_app_r, dj_cons_l, dj_cons_r, dj_nil_l, dj_nil_r, dk_app, dk_cons, dk_nil, and_true, true_and, and_assoc] using (show Dj K2 (T2 ++ (K3 ++ K4)) from d3)
  obtain ⟨dj5_0, dj5_1⟩ : Dj T2 K3 ∧ Dj T2 K4 := by simpa only [dj_app_l, dj_app_r, dj_cons_l, dj_cons_r, dj_nil_l, dj_nil_r, dk_app, dk_cons, dk_nil, and_true, true_and, and_assoc] using (show Dj T2 (K3 ++ K4) from d4)
  obtain dj6_0 : Dj K3 K4 := by simpa only [dj_app_l, dj_app_r, dj_cons_l, dj_cons_r, dj_nil_l, dj_nil_r, dk_app, dk_cons, dk_nil, and_true, true_and, and_assoc] using (show Dj K3 K4 from d5)
  obtain ⟨dj7_0, dj7_1, dj7_2, dj7_3, dj7_4, dj7_5, dj7_6⟩ : Dk g R ∧ Dj K1 R ∧ Dj T1 R ∧ Dj K2 R ∧ Dj T2 R ∧ Dj K3 R ∧ Dj K4 R := by simpa only [dj_app_l, dj_app_r, dj_cons_l, dj_cons_r, dj_nil_l, dj_nil_r, dk_app, dk_cons, dk_nil, and_true, true_and, and_assoc] using (show Dj ((g, .cells #[.func (.func 25) #[.pointer (some ⟨g, 0, none⟩)] #[], .slice p1 segs.length c1, .slice p2 ([] : List Elt).length c2, .slice p3 ([] : Elt).length c3, .slice p4 ([] : Cmp).length c4] 52 (0, 0)) :: (K1 ++ (T1 ++ (K2 ++ (T2 ++ (K3 ++ K4)))))) R from hR)
  go_enter Try.func25, Try.ntmps25
  refine wp_seq ?_
  refine wp_region_L (W0 := W0) ((g, .cells #[.func (.func 25) #[.pointer (some ⟨g, 0, none⟩)] #[], .slice p1 segs.length c1, .slice p2 ([] : List Elt).length c2, .slice p3 ([] : Elt).length c3, .slice p4 ([] : Cmp).length c4] 52 (0, 0)) :: (K1 ++ (T1 ++ (K2 ++ (T2 ++ (K3 ++ (K4 ++ R))))))) ((hw.sub (fun p hp => by simp only [List.mem_cons, List.mem_append, List.nil_append, List.not_mem_nil, or_assoc, or_false, false_or, List.cons_append, List.append_assoc] at hp ⊢ <;> grind))) ?_
  refine lm (v := .int .i64 0) rfl rfl ?_
  refine lm (v := .int .i64 0) rfl rfl ?_
  refine wpL_done (fun W1 hW1 => ?_)
  refine (show Code.wp _ _ _ _ _ from ?_)
  refine wp_seq ?_
  refine wp_seq ?_
  refine wp_region_L (W0 := W0) ((g, .cells #[.func (.func 25) #[.pointer (some ⟨g, 0, none⟩)] #[], .slice p1 segs.length c1, .slice p2 ([] : List Elt).length c2, .slice p3 ([] : Elt).length c3, .slice p4 ([] : Cmp).length c4] 52 (0, 0)) :: (K1 ++ (T1 ++ (K2 ++ (T2 ++ (K3 ++ (K4 ++ R))))))) (hW1) ?_
  refine lm (v := .int .i32 ((r : Nat) : Int)) rfl rfl ?_
  refine wpL_done (fun W2 hW2 => ?_)
  refine (show Code.wp _ _ _ _ _ from ?_)
  refine wp_block ?_
  refine wp_seq ?_
  refine wp_seq ?_
  refine wp_region_L (W0 := W0) ((g, .cells #[.func (.func 25) #[.pointer (some ⟨g, 0, none⟩)] #[], .slice p1 segs.length c1, .slice p2 ([] : List Elt).length c2, .slice p3 ([] : Elt).length c3, .slice p4 ([] : Cmp).length c4] 52 (0, 0)) :: (K1 ++ (T1 ++ (K2 ++ (T2 ++ (K3 ++ (K4 ++ R))))))) (hW2) ?_
  refine lp (v := .bool (decide (r = 10))) rfl rfl (run_bin rfl (vx := (.int .i32 ((r : Nat) : Int))) (vy := (.int .i32 ((10 : Nat) : Int))) (by kernel_rfl) (by kernel_rfl) fun w => bn_eql rfl w) ?_
  refine lm (v := .bool (decide (r = 10))) rfl rfl ?_
  refine wpL_done (fun W3 hW3 => ?_)
  refine (show Code.wp _ _ _ _ _ from ?_)
  cases hd1 : (decide (r = 10)) with
  | false =>
    have h1 : ¬ (r = 10) := of_decide_eq_false hd1
    clear hd1
    refine wp_cond_false rfl ?_
    refine wp_seq ?_
    refine wp_region_L (W0 := W0) ((g, .cells #[.func (.func 25) #[.pointer (some ⟨g, 0, none⟩)] #[], .slice p1 segs.length c1, .slice p2 ([] : List Elt).length c2, .slice p3 ([] : Elt).length c3, .slice p4 ([] : Cmp).length c4] 52 (0, 0)) :: (K1 ++ (T1 ++ (K2 ++ (T2 ++ (K3 ++ (K4 ++ R))))))) (hW3) ?_
    refine lp (v := .bool (decide (r = 13))) rfl rfl (run_bin rfl (vx := (.int .i32 ((r : Nat) : Int))) (vy := (.int .i32 ((13 : Nat) : Int))) (by kernel_rfl) (by kernel_rfl) fun w => bn_eql rfl w) ?_
    refine lm (v := .bool (decide (r = 13))) rfl rfl ?_
    refine wpL_done (fun W4 hW4 => ?_)
    refine (show Code.wp _ _ _ _ _ from ?_)
    cases hd2 : (decide (r = 13)) with
    | false =>
      have h2 : ¬ (r = 13) := of_decide_eq_false hd2
      clear hd2
      refine wp_cond_false rfl ?_
      refine wp_seq ?_
      refine wp_region_L (W0 := W0) ((g, .cells #[.func (.func 25) #[.pointer (some ⟨g, 0, none⟩)] #[], .slice p1 segs.length c1, .slice p2 ([] : List Elt).length c2, .slice p3 ([] : Elt).length c3, .slice p4 ([] : Cmp).length c4] 52 (0, 0)) :: (K1 ++ (T1 ++ (K2 ++ (T2 ++ (K3 ++ (K4 ++ R))))))) (hW4) ?_
      refine lp (v := .bool (decide (r = 32))) rfl rfl (run_bin rfl (vx := (.int .i32 ((r : Nat) : Int))) (vy := (.int .i32 ((32 : Nat) : Int))) (by kernel_rfl) (by kernel_rfl) fun w => bn_eql rfl w) ?_
      refine lm (v := .bool (decide (r = 32))) rfl rfl ?_
      refine wpL_done (fun W5 hW5 => ?_)
      refine (show Code.wp _ _ _ _ _ from ?_)
      cases hd3 : (decide (r = 32)) with
      | false =>
        have h3 : ¬ (r = 32) := of_decide_eq_false hd3
        clear hd3
        refine wp_cond_false rfl ?_
        refine wp_region_L (W0 := W0) ((g, .cells #[.func (.func 25) #[.pointer (some ⟨g, 0, none⟩)] #[], .slice p1 segs.length c1, .slice p2 ([] : List Elt).length c2, .slice p3 ([] : Elt).length c3, .slice p4 ([] : Cmp).length c4] 52 (0, 0)) :: (K1 ++ (T1 ++ (K2 ++ (T2 ++ (K3 ++ (K4 ++ R))))))) (hW5) ?_
        refine lp (v := .bool false) rfl rfl (run_bin rfl (vx := (.int .i32 ((r : Nat) : Int))) (vy := (.int .i32 (-1))) (by kernel_rfl) (by kernel_rfl) fun w => bi_eql (decide_eq_false (by omega)) w) ?_
        refine lm (v := .bool false) rfl rfl ?_
        refine wpL_done (fun W6 hW6 => ?_)
        refine (show Code.wp _ _ _ _ _ from ?_)
        refine wp_cond_false rfl ?_
        refine wp_skip ?_
        refine (show Code.wp _ _ _ _ _ from ?_)
        refine wp_seq ?_
        refine wp_seq ?_
        refine wp_region_L (W0 := W0) ((g, .cells #[.func (.func 25) #[.pointer (some ⟨g, 0, none⟩)] #[], .slice p1 segs.length c1, .slice p2 ([] : List Elt).length c2, .slice p3 ([] : Elt).length c3, .slice p4 ([] : Cmp).length c4] 52 (0, 0)) :: (K1 ++ (T1 ++ (K2 ++ (T2 ++ (K3 ++ (K4 ++ R))))))) (hW6) ?_
        refine lm (v := .pointer (some ⟨g, 0, none⟩)) rfl rfl ?_
        refine lm (v := .pointer (some ⟨g, 0, none⟩)) rfl rfl ?_
        refine lm (v := .pointer (some ⟨g, 1, none⟩)) rfl rfl ?_
        refine lv (v := .slice p1 segs.length c1) rfl rfl (yb_cell (off := 1) rfl (by kernel_rfl) (.head _) Try.underlying24 rfl (by kernel_rfl)) ?_
        refine lp (v := .int .i64 ((segs.length : Nat) : Int)) rfl rfl (run_lenO (W0 := W0) rfl Try.underlying24 (by kernel_rfl) O1) ?_
        refine lp (v := .bool (decide (segs.length = 5000))) rfl rfl (run_bin rfl (vx := (.int .i64 ((segs.length : Nat) : Int))) (vy := (.int .i64 ((5000 : Nat) : Int))) (by kernel_rfl) (by kernel_rfl) fun w => bn_eql rfl w) ?_
        refine wpL_done (fun W7 hW7 => ?_)
        refine (show Code.wp _ _ _ _ _ from ?_)
        cases hd4 : (decide (segs.length = 5000)) with
        | false =>
          have h4 : ¬ (segs.length = 5000) := of_decide_eq_false hd4
          clear hd4
          refine wp_cond_false rfl ?_
          refine wp_skip ?_
          refine (show Code.wp _ _ _ _ _ from ?_)
          refine wp_seq ?_
          refine wp_region_L (W0 := W0) ((g, .cells #[.func (.func 25) #[.pointer (some ⟨g, 0, none⟩)] #[], .slice p1 segs.length c1, .slice p2 ([] : List Elt).length c2, .slice p3 ([] : Elt).length c3, .slice p4 ([] : Cmp).length c4] 52 (0, 0)) :: (K1 ++ (T1 ++ (K2 ++ (T2 ++ (K3 ++ (K4 ++ R))))))) (hW7) ?_
          refine lm (v := .pointer (some ⟨g, 0, none⟩)) rfl rfl ?_
          refine lm (v := .pointer (some ⟨g, 0, none⟩)) rfl rfl ?_
          refine lm (v := .func (.func 39) #[.pointer (some ⟨g, 0, none⟩)] #[]) rfl rfl ?_
          refine lm (v := .pointer (some ⟨g, 0, none⟩)) rfl rfl ?_
          refine lm (v := .pointer (some ⟨g, 0, none⟩)) rfl rfl ?_
          refine wpL_s ((g, .cells #[.func (.func 39) #[.pointer (some ⟨g, 0, none⟩)] #[], .slice p1 segs.length c1, .slice p2 ([] : List Elt).length c2, .slice p3 ([] : Elt).length c3, .slice p4 ([] : Cmp).length c4] 52 (0, 0)) :: (K1 ++ (T1 ++ (K2 ++ (T2 ++ (K3 ++ (K4 ++ R))))))) rfl rfl (st_row (off := 0) (v := .func (.func 39) #[.pointer (some ⟨g, 0, none⟩)] #[]) rfl (by kernel_rfl) (by kernel_rfl) (.head _) hB (by kernel_rfl) (by simp [Value.cells]) (by intro v hv; simp [Value.cells] at hv; first | (subst hv; rfl) | (rcases hv with rfl <;> rfl)) (by kernel_rfl) (List.forall_mem_cons.2 ⟨.inl rfl, (fun p hp => .inr ⟨(.tail _ hp), ((show Dk g (K1 ++ (T1 ++ (K2 ++ (T2 ++ (K3 ++ (K4 ++ R)))))) from (by (try simp only [dj_app_l, dj_app_r, dj_cons_l, dj_cons_r, dj_nil_l, dj_nil_r, dk_app, dk_cons, dk_nil, and_true, true_and, and_assoc]); repeat' (first | trivial | assumption | exact Dj.symm (by assumption) | exact Ne.symm (by assumption) | apply And.intro))) _ hp)⟩)⟩)) ?_
          refine wpL_done (fun W8 hW8 => ?_)
          refine (show Code.wp _ _ _ _ _ from ?_)
          refine wp_seq ?_
          refine wp_region_L (W0 := W0) ((g, .cells #[.func (.func 39) #[.pointer (some ⟨g, 0, none⟩)] #[], .slice p1 segs.length c1, .slice p2 ([] : List Elt).length c2, .slice p3 ([] : Elt).length c3, .slice p4 ([] : Cmp).length c4] 52 (0, 0)) :: (K1 ++ (T1 ++ (K2 ++ (T2 ++ (K3 ++ (K4 ++ R))))))) (hW8) ?_
          refine lm (v := .pointer (some ⟨g, 0, none⟩)) rfl rfl ?_
          refine lm (v := .int .i64 ((i : Nat) : Int)) rfl rfl ?_
          refine lm (v := .int .i32 ((r : Nat) : Int)) rfl rfl ?_
          refine wpL_c (f := 39) (args := #[.pointer (some ⟨g, 0, none⟩), .int .i64 ((i : Nat) : Int), .int .i32 ((r : Nat) : Int)]) (Ans W0 g (inside i b segs [] [] []) R) rfl (by kernel_rfl) (fun _ => (by kernel_rfl)) (fun W hW => inside_any ⟨_, _, _, _, _, _, _, _, _, _, _, _, _, _, _, _, K1, T1, K2, T2, K3, K4, (by simp [esOf, csOf, cOf]), (by simp [esOf, csOf, cOf]), (by simp [esOf, csOf, cOf]), (by simp [esOf, csOf, cOf]), rfl, rfl, rfl, hB, O1, E1, O2, E2, O3, O4, (show Dk g (K1 ++ (T1 ++ (K2 ++ (T2 ++ (K3 ++ K4))))) from (by (try simp only [dj_app_l, dj_app_r, dj_cons_l, dj_cons_r, dj_nil_l, dj_nil_r, dk_app, dk_cons, dk_nil, and_true, true_and, and_assoc]); repeat' (first | trivial | assumption | exact Dj.symm (by assumption) | exact Ne.symm (by assumption) | apply And.intro))), (show Dj K1 (T1 ++ (K2 ++ (T2 ++ (K3 ++ K4)))) from (by (try simp only [dj_app_l, dj_app_r, dj_cons_l, dj_cons_r, dj_nil_l, dj_nil_r, dk_app, dk_cons, dk_nil, and_true, true_and, and_assoc]); repeat' (first | trivial | assumption | exact Dj.symm (by assumption) | exact Ne.symm (by assumption) | apply And.intro))), (show Dj T1 (K2 ++ (T2 ++ (K3 ++ K4))) from (by (try simp only [dj_app_l, dj_app_r, dj_cons_l, dj_cons_r, dj_nil_l, dj_nil_r, dk_app, dk_cons, dk_nil, and_true, true_and, and_assoc]); repeat' (first | trivial | assumption | exact Dj.symm (by assumption) | exact Ne.symm (by assumption) | apply And.intro))), (show Dj K2 (T2 ++ (K3 ++ K4)) from (by (try simp only [dj_app_l, dj_app_r, dj_cons_l, dj_cons_r, dj_nil_l, dj_nil_r, dk_app, dk_cons, dk_nil, and_true, true_and, and_assoc]); repeat' (first | trivial | assumption | exact Dj.symm (by assumption) | exact Ne.symm (by assumption) | apply And.intro))), (show Dj T2 (K3 ++ K4) from (by (try simp only [dj_app_l, dj_app_r, dj_cons_l, dj_cons_r, dj_nil_l, dj_nil_r, dk_app, dk_cons, dk_nil, and_true, true_and, and_assoc]); repeat' (first | trivial | assumption | exact Dj.symm (by assumption) | exact Ne.symm (by assumption) | apply And.intro))), (show Dj K3 K4 from (by (try simp only [dj_app_l, dj_app_r, dj_cons_l, dj_cons_r, dj_nil_l, dj_nil_r, dk_app, dk_cons, dk_nil, and_true, true_and, and_assoc]); repeat' (first | trivial | assumption | exact Dj.symm (by assumption) | exact Ne.symm (by assumption) | apply And.intro)))⟩ (show Dj ((g, .cells #[.func (.func 39) #[.pointer (some ⟨g, 0, none⟩)] #[], .slice p1 segs.length c1, .slice p2 ([] : List Elt).length c2, .slice p3 ([] : Elt).length c3, .slice p4 ([] : Cmp).length c4] 52 (0, 0)) :: (K1 ++ (T1 ++ (K2 ++ (T2 ++ (K3 ++ K4)))))) R from (by (try simp only [dj_app_l, dj_app_r, dj_cons_l, dj_cons_r, dj_nil_l, dj_nil_r, dk_app, dk_cons, dk_nil, and_true, true_and, and_assoc]); repeat' (first | trivial | assumption | exact Dj.symm (by assumption) | exact Ne.symm (by assumption) | apply And.intro))) (by omega) (by simp) (by simp) (by simp) li hr W (hW.sub (fun p hp => by simp only [List.mem_cons, List.mem_append, List.nil_append, List.not_mem_nil, or_assoc, or_false, false_or, List.cons_append, List.append_assoc] at hp ⊢ <;> grind))) (fun _ => by simp only [List.setIfInBounds_toArray, List.set_cons_succ, List.set_cons_zero] <;> rfl) ?_
          rintro _ K9 ⟨rfl, K2b, rfl, hVb⟩
          refine lm (v := .int .i64 (((errAt (inside i b segs [] [] [])) : Nat) : Int)) rfl rfl ?_
          refine lm (v := .int .i64 (((errNo (inside i b segs [] [] [])) : Nat) : Int)) rfl rfl ?_
          refine lm (v := .int .i64 (((errAt (inside i b segs [] [] [])) : Nat) : Int)) rfl rfl ?_
          refine lm (v := .int .i64 (((errNo (inside i b segs [] [] [])) : Nat) : Int)) rfl rfl ?_
          refine wpL_done (fun W9 hW9 => ?_)
          refine (show Code.wp _ _ _ _ _ from ?_)
          refine wp_ret ?_
          try simp only [inBlock_ret, then_ret]
          refine bodyPost_ret (v := .tuple #[.int .i64 (((errAt (inside i b segs [] [] [])) : Nat) : Int), .int .i64 (((errNo (inside i b segs [] [] [])) : Nat) : Int)]) ?_ rfl ?_
          · kernel_rfl
          · exact (by rw [out_ins hr h1 h2 h3 (by omega)]; exact ⟨_, _, rfl, hW9, rfl, K2b, rfl, hVb⟩)
        | true =>
          have h4 : segs.length = 5000 := of_decide_eq_true hd4
          clear hd4
          refine wp_cond_true rfl ?_
          refine wp_seq ?_
          refine wp_region_L (W0 := W0) ((g, .cells #[.func (.func 25) #[.pointer (some ⟨g, 0, none⟩)] #[], .slice p1 segs.length c1, .slice p2 ([] : List Elt).length c2, .slice p3 ([] : Elt).length c3, .slice p4 ([] : Cmp).length c4] 52 (0, 0)) :: (K1 ++ (T1 ++ (K2 ++ (T2 ++ (K3 ++ (K4 ++ R))))))) (hW7) ?_
          refine lm (v := .int .i64 ((i : Nat) : Int)) rfl rfl ?_
          refine lm (v := .int .i64 ((i : Nat) : Int)) rfl rfl ?_
          refine lm (v := .int .i64 5) rfl rfl ?_
          refine wpL_done (fun W10 hW10 => ?_)
          refine (show Code.wp _ _ _ _ _ from ?_)
          refine wp_ret ?_
          try simp only [inBlock_ret, then_ret]
          refine bodyPost_ret (v := .tuple #[.int .i64 ((i : Nat) : Int), .int .i64 5]) ?_ rfl ?_
          · kernel_rfl
          · exact ans_bad (K := []) (out_many hr h1 h2 h3 (by omega)) (hW10.sub (fun p hp => by simp only [List.mem_cons, List.mem_append, List.nil_append, List.not_mem_nil, or_assoc, or_false, false_or, List.cons_append, List.append_assoc] at hp ⊢ <;> grind))
      | true =>
        have h3 : r = 32 := of_decide_eq_true hd3
        clear hd3
        refine wp_cond_true rfl ?_
        refine wp_skip ?_
        refine (show Code.wp _ _ _ _ _ from ?_)
        refine wp_cond_true rfl ?_
        refine wp_seq ?_
        refine wp_region_L (W0 := W0) ((g, .cells #[.func (.func 25) #[.pointer (some ⟨g, 0, none⟩)] #[], .slice p1 segs.length c1, .slice p2 ([] : List Elt).length c2, .slice p3 ([] : Elt).length c3, .slice p4 ([] : Cmp).length c4] 52 (0, 0)) :: (K1 ++ (T1 ++ (K2 ++ (T2 ++ (K3 ++ (K4 ++ R))))))) (hW5) ?_
        refine lm (v := .int .i64 0) rfl rfl ?_
        refine lm (v := .int .i64 0) rfl rfl ?_
        refine wpL_done (fun W11 hW11 => ?_)
        refine (show Code.wp _ _ _ _ _ from ?_)
        refine wp_ret ?_
        try simp only [inBlock_ret, then_ret]
        refine bodyPost_ret (v := .tuple #[.int .i64 0, .int .i64 0]) ?_ rfl ?_
        · kernel_rfl
        · exact ans_ok (K2 := ((g, .cells #[.func (.func 25) #[.pointer (some ⟨g, 0, none⟩)] #[], .slice p1 segs.length c1, .slice p2 ([] : List Elt).length c2, .slice p3 ([] : Elt).length c3, .slice p4 ([] : Cmp).length c4] 52 (0, 0)) :: (K1 ++ (T1 ++ (K2 ++ (T2 ++ (K3 ++ K4))))))) (out_gap hr (.inr (.inr h3))) (hW11.sub (fun p hp => by simp only [List.mem_cons, List.mem_append, List.nil_append, List.not_mem_nil, or_assoc, or_false, false_or, List.cons_append, List.append_assoc] at hp ⊢ <;> grind)) ⟨_, _, _, _, _, _, _, _, _, _, _, _, _, _, _, _, K1, T1, K2, T2, K3, K4, (by simp [esOf, csOf, cOf]), (by simp [esOf, csOf, cOf]), (by simp [esOf, csOf, cOf]), (by simp [esOf, csOf, cOf]), rfl, rfl, rfl, hB, O1, E1, O2, E2, O3, O4, (show Dk g (K1 ++ (T1 ++ (K2 ++ (T2 ++ (K3 ++ K4))))) from (by (try simp only [dj_app_l, dj_app_r, dj_cons_l, dj_cons_r, dj_nil_l, dj_nil_r, dk_app, dk_cons, dk_nil, and_true, true_and, and_assoc]); repeat' (first | trivial | assumption | exact Dj.symm (by assumption) | exact Ne.symm (by assumption) | apply And.intro))), (show Dj K1 (T1 ++ (K2 ++ (T2 ++ (K3 ++ K4)))) from (by (try simp only [dj_app_l, dj_app_r, dj_cons_l, dj_cons_r, dj_nil_l, dj_nil_r, dk_app, dk_cons, dk_nil, and_true, true_and, and_assoc]); repeat' (first | trivial | assumption | exact Dj.symm (by assumption) | exact Ne.symm (by assumption) | apply And.intro))), (show Dj T1 (K2 ++ (T2 ++ (K3 ++ K4))) from (by (try simp only [dj_app_l, dj_app_r, dj_cons_l, dj_cons_r, dj_nil_l, dj_nil_r, dk_app, dk_cons, dk_nil, and_true, true_and, and_assoc]); repeat' (first | trivial | assumption | exact Dj.symm (by assumption) | exact Ne.symm (by assumption) | apply And.intro))), (show Dj K2 (T2 ++ (K3 ++ K4)) from (by (try simp only [dj_app_l, dj_app_r, dj_cons_l, dj_cons_r, dj_nil_l, dj_nil_r, dk_app, dk_cons, dk_nil, and_true, true_and, and_assoc]); repeat' (first | trivial | assumption | exact Dj.symm (by assumption) | exact Ne.symm (by assumption) | apply And.intro))), (show Dj T2 (K3 ++ K4) from (by (try simp only [dj_app_l, dj_app_r, dj_cons_l, dj_cons_r, dj_nil_l, dj_nil_r, dk_app, dk_cons, dk_nil, and_true, true_and, and_assoc]); repeat' (first | trivial | assumption | exact Dj.symm (by assumption) | exact Ne.symm (by assumption) | apply And.intro))), (show Dj K3 K4 from (by (try simp only [dj_app_l, dj_app_r, dj_cons_l, dj_cons_r, dj_nil_l, dj_nil_r, dk_app, dk_cons, dk_nil, and_true, true_and, and_assoc]); repeat' (first | trivial | assumption | exact Dj.symm (by assumption) | exact Ne.symm (by assumption) | apply And.intro)))⟩ (show Dj ((g, .cells #[.func (.func 25) #[.pointer (some ⟨g, 0, none⟩)] #[], .slice p1 segs.length c1, .slice p2 ([] : List Elt).length c2, .slice p3 ([] : Elt).length c3, .slice p4 ([] : Cmp).length c4] 52 (0, 0)) :: (K1 ++ (T1 ++ (K2 ++ (T2 ++ (K3 ++ K4)))))) R from (by (try simp only [dj_app_l, dj_app_r, dj_cons_l, dj_cons_r, dj_nil_l, dj_nil_r, dk_app, dk_cons, dk_nil, and_true, true_and, and_assoc]); repeat' (first | trivial | assumption | exact Dj.symm (by assumption) | exact Ne.symm (by assumption) | apply And.intro)))
    | true =>
      have h2 : r = 13 := of_decide_eq_true hd2
      clear hd2
      refine wp_cond_true rfl ?_
      refine wp_skip ?_
      refine (show Code.wp _ _ _ _ _ from ?_)
      refine wp_cond_true rfl ?_
      refine wp_seq ?_
      refine wp_region_L (W0 := W0) ((g, .cells #[.func (.func 25) #[.pointer (some ⟨g, 0, none⟩)] #[], .slice p1 segs.length c1, .slice p2 ([] : List Elt).length c2, .slice p3 ([] : Elt).length c3, .slice p4 ([] : Cmp).length c4] 52 (0, 0)) :: (K1 ++ (T1 ++ (K2 ++ (T2 ++ (K3 ++ (K4 ++ R))))))) (hW4) ?_
      refine lm (v := .int .i64 0) rfl rfl ?_
      refine lm (v := .int .i64 0) rfl rfl ?_
      refine wpL_done (fun W12 hW12 => ?_)
      refine (show Code.wp _ _ _ _ _ from ?_)
      refine wp_ret ?_
      try simp only [inBlock_ret, then_ret]
      refine bodyPost_ret (v := .tuple #[.int .i64 0, .int .i64 0]) ?_ rfl ?_
      · kernel_rfl
      · exact ans_ok (K2 := ((g, .cells #[.func (.func 25) #[.pointer (some ⟨g, 0, none⟩)] #[], .slice p1 segs.length c1, .slice p2 ([] : List Elt).length c2, .slice p3 ([] : Elt).length c3, .slice p4 ([] : Cmp).length c4] 52 (0, 0)) :: (K1 ++ (T1 ++ (K2 ++ (T2 ++ (K3 ++ K4))))))) (out_gap hr (.inr (.inl h2))) (hW12.sub (fun p hp => by simp only [List.mem_cons, List.mem_append, List.nil_append, List.not_mem_nil, or_assoc, or_false, false_or, List.cons_append, List.append_assoc] at hp ⊢ <;> grind)) ⟨_, _, _, _, _, _, _, _, _, _, _, _, _, _, _, _, K1, T1, K2, T2, K3, K4, (by simp [esOf, csOf, cOf]), (by simp [esOf, csOf, cOf]), (by simp [esOf, csOf, cOf]), (by simp [esOf, csOf, cOf]), rfl, rfl, rfl, hB, O1, E1, O2, E2, O3, O4, (show Dk g (K1 ++ (T1 ++ (K2 ++ (T2 ++ (K3 ++ K4))))) from (by (try simp only [dj_app_l, dj_app_r, dj_cons_l, dj_cons_r, dj_nil_l, dj_nil_r, dk_app, dk_cons, dk_nil, and_true, true_and, and_assoc]); repeat' (first | trivial | assumption | exact Dj.symm (by assumption) | exact Ne.symm (by assumption) | apply And.intro))), (show Dj K1 (T1 ++ (K2 ++ (T2 ++ (K3 ++ K4)))) from (by (try simp only [dj_app_l, dj_app_r, dj_cons_l, dj_cons_r, dj_nil_l, dj_nil_r, dk_app, dk_cons, dk_nil, and_true, true_and, and_assoc]); repeat' (first | trivial | assumption | exact Dj.symm (by assumption) | exact Ne.symm (by assumption) | apply And.intro))), (show Dj T1 (K2 ++ (T2 ++ (K3 ++ K4))) from (by (try simp only [dj_app_l, dj_app_r, dj_cons_l, dj_cons_r, dj_nil_l, dj_nil_r, dk_app, dk_cons, dk_nil, and_true, true_and, and_assoc]); repeat' (first | trivial | assumption | exact Dj.symm (by assumption) | exact Ne.symm (by assumption) | apply And.intro))), (show Dj K2 (T2 ++ (K3 ++ K4)) from (by (try simp only [dj_app_l, dj_app_r, dj_cons_l, dj_cons_r, dj_nil_l, dj_nil_r, dk_app, dk_cons, dk_nil, and_true, true_and, and_assoc]); repeat' (first | trivial | assumption | exact Dj.symm (by assumption) | exact Ne.symm (by assumption) | apply And.intro))), (show Dj T2 (K3 ++ K4) from (by (try simp only [dj_app_l, dj_app_r, dj_cons_l, dj_cons_r, dj_nil_l, dj_nil_r, dk_app, dk_cons, dk_nil, and_true, true_and, and_assoc]); repeat' (first | trivial | assumption | exact Dj.symm (by assumption) | exact Ne.symm (by assumption) | apply And.intro))), (show Dj K3 K4 from (by (try simp only [dj_app_l, dj_app_r, dj_cons_l, dj_cons_r, dj_nil_l, dj_nil_r, dk_app, dk_cons, dk_nil, and_true, true_and, and_assoc]); repeat' (first | trivial | assumption | exact Dj.symm (by assumption) | exact Ne.symm (by assumption) | apply And.intro)))⟩ (show Dj ((g, .cells #[.func (.func 25) #[.pointer (some ⟨g, 0, none⟩)] #[], .slice p1 segs.length c1, .slice p2 ([] : List Elt).length c2, .slice p3 ([] : Elt).length c3, .slice p4 ([] : Cmp).length c4] 52 (0, 0)) :: (K1 ++ (T1 ++ (K2 ++ (T2 ++ (K3 ++ K4)))))) R from (by (try simp only [dj_app_l, dj_app_r, dj_cons_l, dj_cons_r, dj_nil_l, dj_nil_r, dk_app, dk_cons, dk_nil, and_true, true_and, and_assoc]); repeat' (first | trivial | assumption | exact Dj.symm (by assumption) | exact Ne.symm (by assumption) | apply And.intro)))
  | true =>
    have h1 : r = 10 := of_decide_eq_true hd1
    clear hd1
    refine wp_cond_true rfl ?_
    refine wp_skip ?_
    refine (show Code.wp _ _ _ _ _ from ?_)
    refine wp_cond_true rfl ?_
    refine wp_seq ?_
    refine wp_region_L (W0 := W0) ((g, .cells #[.func (.func 25) #[.pointer (some ⟨g, 0, none⟩)] #[], .slice p1 segs.length c1, .slice p2 ([] : List Elt).length c2, .slice p3 ([] : Elt).length c3, .slice p4 ([] : Cmp).length c4] 52 (0, 0)) :: (K1 ++ (T1 ++ (K2 ++ (T2 ++ (K3 ++ (K4 ++ R))))))) (hW3) ?_
    refine lm (v := .int .i64 0) rfl rfl ?_
    refine lm (v := .int .i64 0) rfl rfl ?_
    refine wpL_done (fun W13 hW13 => ?_)
    refine (show Code.wp _ _ _ _ _ from ?_)
    refine wp_ret ?_
    try simp only [inBlock_ret, then_ret]
    refine bodyPost_ret (v := .tuple #[.int .i64 0, .int .i64 0]) ?_ rfl ?_
    · kernel_rfl
    · exact ans_ok (K2 := ((g, .cells #[.func (.func 25) #[.pointer (some ⟨g, 0, none⟩)] #[], .slice p1 segs.length c1, .slice p2 ([] : List Elt).length c2, .slice p3 ([] : Elt).length c3, .slice p4 ([] : Cmp).length c4] 52 (0, 0)) :: (K1 ++ (T1 ++ (K2 ++ (T2 ++ (K3 ++ K4))))))) (out_gap hr (.inl h1)) (hW13.sub (fun p hp => by simp only [List.mem_cons, List.mem_append, List.nil_append, List.not_mem_nil, or_assoc, or_false, false_or, List.cons_append, List.append_assoc] at hp ⊢ <;> grind)) ⟨_, _, _, _, _, _, _, _, _, _, _, _, _, _, _, _, K1, T1, K2, T2, K3, K4, (by simp [esOf, csOf, cOf]), (by simp [esOf, csOf, cOf]), (by simp [esOf, csOf, cOf]), (by simp [esOf, csOf, cOf]), rfl, rfl, rfl, hB, O1, E1, O2, E2, O3, O4, (show Dk g (K1 ++ (T1 ++ (K2 ++ (T2 ++ (K3 ++ K4))))) from (by (try simp only [dj_app_l, dj_app_r, dj_cons_l, dj_cons_r, dj_nil_l, dj_nil_r, dk_app, dk_cons, dk_nil, and_true, true_and, and_assoc]); repeat' (first | trivial | assumption | exact Dj.symm (by assumption) | exact Ne.symm (by assumption) | apply And.intro))), (show Dj K1 (T1 ++ (K2 ++ (T2 ++ (K3 ++ K4)))) from (by (try simp only [dj_app_l, dj_app_r, dj_cons_l, dj_cons_r, dj_nil_l, dj_nil_r, dk_app, dk_cons, dk_nil, and_true, true_and, and_assoc]); repeat' (first | trivial | assumption | exact Dj.symm (by assumption) | exact Ne.symm (by assumption) | apply And.intro))), (show Dj T1 (K2 ++ (T2 ++ (K3 ++ K4))) from (by (try simp only [dj_app_l, dj_app_r, dj_cons_l, dj_cons_r, dj_nil_l, dj_nil_r, dk_app, dk_cons, dk_nil, and_true, true_and, and_assoc]); repeat' (first | trivial | assumption | exact Dj.symm (by assumption) | exact Ne.symm (by assumption) | apply And.intro))), (show Dj K2 (T2 ++ (K3 ++ K4)) from (by (try simp only [dj_app_l, dj_app_r, dj_cons_l, dj_cons_r, dj_nil_l, dj_nil_r, dk_app, dk_cons, dk_nil, and_true, true_and, and_assoc]); repeat' (first | trivial | assumption | exact Dj.symm (by assumption) | exact Ne.symm (by assumption) | apply And.intro))), (show Dj T2 (K3 ++ K4) from (by (try simp only [dj_app_l, dj_app_r, dj_cons_l, dj_cons_r, dj_nil_l, dj_nil_r, dk_app, dk_cons, dk_nil, and_true, true_and, and_assoc]); repeat' (first | trivial | assumption | exact Dj.symm (by assumption) | exact Ne.symm (by assumption) | apply And.intro))), (show Dj K3 K4 from (by (try simp only [dj_app_l, dj_app_r, dj_cons_l, dj_cons_r, dj_nil_l, dj_nil_r, dk_app, dk_cons, dk_nil, and_true, true_and, and_assoc]); repeat' (first | trivial | assumption | exact Dj.symm (by assumption) | exact Ne.symm (by assumption) | apply And.intro)))⟩ (show Dj ((g, .cells #[.func (.func 25) #[.pointer (some ⟨g, 0, none⟩)] #[], .slice p1 segs.length c1, .slice p2 ([] : List Elt).length c2, .slice p3 ([] : Elt).length c3, .slice p4 ([] : Cmp).length c4] 52 (0, 0)) :: (K1 ++ (T1 ++ (K2 ++ (T2 ++ (K3 ++ K4)))))) R from (by (try simp only [dj_app_l, dj_app_r, dj_cons_l, dj_cons_r, dj_nil_l, dj_nil_r, dk_app, dk_cons, dk_nil, and_true, true_and, and_assoc]); repeat' (first | trivial | assumption | exact Dj.symm (by assumption) | exact Ne.symm (by assumption) | apply And.intro)))
end Go.Proofs.Ytppegdbelgobiaa

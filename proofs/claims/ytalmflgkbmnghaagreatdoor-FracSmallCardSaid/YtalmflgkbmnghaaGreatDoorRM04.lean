import Derived.Test.YtalmflgkbmnghaaGreatDoorRM00
import Derived.Test.YtalmflgkbmnghaaGreatDoorRM01
import Derived.Test.YtalmflgkbmnghaaGreatDoorRM03
import Derived.Deep.Cut
import Derived.Maps.RangeWalk
import Derived.Outline
import Derived.Test.YtalmflgkbmnghaaGreatDoorCards
import Derived.Test.YtalmflgkbmnghaaGreatDoorTie
import Derived.WalkKit
import Derived.ProofKit
import Derived.OpenShut
import Derived.LaidMore
import Derived.SizedLaws
import Derived.Shelf.Vars
import Derived.Stop.Joined
import Derived.SevenTiedAt
/- Part of the proof: Dg, Tp, Pa, Rd, Rf, Ra, Rb, FLa, Rj, Ax, Rk, Rl, Aw, Ay, Rw. -/
set_option linter.unusedVariables false
set_option linter.unusedSimpArgs false
set_option linter.unusedSectionVars false
namespace Go.Proofs.YtalmflgkbmnghaaGreatDoor
open Go.RowKit Tf
def isDig (b : UInt8) : Bool := decide (48 ≤ b.toNat) && decide (b.toNat ≤ 57)
def digL (l : List UInt8) : Bool := l.all isDig && (l == [48] || (!l.isEmpty && (l.headD 0).toNat != 48))
theorem ret_bool' {a b : Bool} (h : a = b) : Ending.returned (.bool a) = .returned (.bool b) := by rw [h]
theorem get_list (s : ByteArray) (k : Nat) (h : k < s.size) : s.toList[k]? = some s[k] := by
 rw [ByteArray.toList_eq]
 have h' : k < s.data.size := h
 rw [Array.getElem?_toList, Array.getElem?_eq_getElem h']
 rfl
theorem len_list (s : ByteArray) : s.toList.length = s.size := by rw [ByteArray.toList_eq]; rfl

set_option maxRecDepth 100000 in
set_option maxHeartbeats 400000 in
theorem digits_any (s : ByteArray) (hs : s.size < 4611686018427387904) (w : World) :
   Calls Tryz.prog 72 #[.string s] w fun e w' => e = .returned (.bool (digL s.toList)) ∧ Below w.heap.size w w' := by
 go_enter Tryz.func72, Tryz.ntmps72
 go_wp2
 go_loopw [6] (fun i wr => ∃ k : Nat, k ≤ s.size ∧ (∀ (j : Nat) (b : UInt8), j < k → s.toList[j]? = some b → isDig b = true) ∧ i = .int .i64 k ∧ Below w.heap.size w wr)
   (fun i _ => (s.size - intOf i).toNat)
 case atStart => exact ⟨0, by omega, fun j b hj => by omega, rfl, Below.refl _ _⟩
 case round =>
   obtain ⟨k, hk, hd, rfl, hB⟩ := hrel
   rcases Nat.lt_or_ge k s.size with h | h
   · have h1 : (k : Int) < (s.size : Int) := by omega
     have HD := Lib.hid hd
     have HG := Lib.hid (get_list s k h)
     clear hd
     have hno : isDig s[k] = false → digL s.toList = false := fun hi => by
       have hm : s[k] ∈ s.toList := List.mem_of_getElem? HG.out
       have : s.toList.all isDig = false := by
         rw [Bool.eq_false_iff]; intro ha
         rw [List.all_eq_true] at ha
         rw [ha _ hm] at hi; cases hi
       rw [digL, this]; rfl
     have HNO := Lib.hid hno
     clear hno
     by_cases c1 : (s[k].toNat : Int) < 48
     · go_wp2
       go_ret
       exact ⟨ret_bool' (by rw [HNO.out (by unfold isDig; simp; omega)]), hB⟩
     · by_cases c2 : (57 : Int) < (s[k].toNat : Int)
       · go_wp2
         go_ret
         exact ⟨ret_bool' (by rw [HNO.out (by unfold isDig; simp; omega)]), hB⟩
       · go_wp2
         go_roundw
         case rel =>
           refine ⟨k + 1, by omega, fun j b hj hb => ?_, rfl, hB⟩
           rcases Nat.lt_or_ge j k with hjk | hjk
           · exact HD.out j b hjk hb
           · obtain rfl : j = k := by omega
             rw [HG.out] at hb
             cases hb
             unfold isDig
             simp
             omega
         case measure => simp only [intOf]; omega
   · have h1 : ¬ (k : Int) < (s.size : Int) := by omega
     have ha : s.toList.all isDig = true := by
       rw [List.all_eq_true]
       intro b hb
       obtain ⟨j, hj⟩ := List.getElem?_of_mem hb
       have := (List.getElem?_eq_some_iff.1 hj).1
       rw [len_list] at this
       exact hd j b Tw.om hj
     have HA := Lib.hid (show digL s.toList = (s.toList == [48] || (!s.toList.isEmpty && (s.toList.headD 0).toNat != 48)) by rw [digL, ha]; rfl)
     clear ha hd
     have HL := Lib.hid (len_list s)
     rcases Nat.eq_zero_or_pos s.size with h0 | h0
     · have hl : s.toList = [] := List.eq_nil_of_length_eq_zero (by rw [HL.out, h0])
       have HE := Lib.hid hl
       have hb : (s.toList == [48]) = false := by rw [hl]; rfl
       have he : s.toList.isEmpty = true := by rw [hl]; rfl
       clear hl
       go_wp2
       go_ret
       exact ⟨ret_bool' (by rw [HA.out, HE.out]; rfl), hB⟩
     · have hp : (0 : Int) < (s.size : Int) := by omega
       have he : s.toList.isEmpty = false := by
         cases hc : s.toList with
         | nil => have := HL.out; rw [hc] at this; simp at this; omega
         | cons x l => rfl
       have HH := Lib.hid (show s.toList.headD 0 = s[0] by
         have := get_list s 0 h0
         cases hc : s.toList with
         | nil => rw [hc] at he; cases he
         | cons x l => rw [hc] at this; simpa using this)
       have HE := Lib.hid he
       rcases hb : (s.toList == [48]) with _ | _
       · go_wp2
         go_ret
         exact ⟨ret_bool' (by rw [HA.out, hb, HE.out, HH.out]; simp; try (rw [Bool.eq_iff_iff]; simp; try omega)), hB⟩
       · go_wp2
         go_ret
         exact ⟨ret_bool' (by rw [HA.out, hb]; rfl), hB⟩
end Go.Proofs.YtalmflgkbmnghaaGreatDoor
namespace Go.Proofs.YtalmflgkbmnghaaGreatDoor
open Go.RowKit Tf

set_option maxRecDepth 100000 in
set_option maxHeartbeats 1000000 in
theorem timesPlus_any (a x y : Nat) (ha : a < R 18) (hx : x < 4294967296) (hy : y < 4294967296) (hr : a * x + y < R 18) (w : World) :
   Calls Tryz.prog 96 #[wid a, .int .u32 x, .int .u32 y] w fun e w' => e = .returned (wid (a * x + y)) ∧ Below w.heap.size w w' := by
 unfold wid
 go_enter Tryz.func96, Tryz.ntmps96
 go_wp2
 go_loopw [7, 12] (fun c i wr => ∃ k c0 P : Nat, k ≤ 18 ∧ c0 < 4294967296 ∧ Hid (P + c0 * R k = (a % R k) * x + y + a / R k * R k) ∧ Hid (P / R k = a / R k) ∧ P < R 18 ∧ c = .int .u64 c0 ∧ i = .int .i64 k ∧ Below w.heap.size w wr ∧
     wr.heap[w.heap.size]? = some (.cells (fa 18 (dg P)) 76 (0, 0)) ∧ wr.heap[w.heap.size + 1]? = some (.cells (fa 18 (fun _ => 0)) 76 (0, 0)))
   (fun _ i _ => 18 - (intOf i).toNat)
 case atStart =>
   refine ⟨0, y, a, by omega, hy, ?_, rfl, ha, rfl, rfl, below2 _ _ _, (heap2 _ _ _).1, (heap2 _ _ _).2⟩
   unfold Hid; rw [R_zero, Nat.mod_one, Nat.zero_mul, Nat.div_one]; omega
 case round =>
   obtain ⟨k, c0, P, hk, hc, he, hd, hP, rfl, rfl, hB, e0, e1⟩ := hrel
   by_cases hlt : k < 18
   · have h1 := blk_cell e0 hlt
     have h3 : wr.frozen? ⟨w.heap.size, k, none⟩ = false := blk_free e0
     have b1 := dg_lt P k
     obtain ⟨b4, b5⟩ := mulbd b1 hx
     have hlt' : ((k : Nat) : Int) < 18 := by omega
     have E0 := Lib.hid e0
     have E1 := Lib.hid e1
     clear e0 e1
     go_wp2
     go_roundw
     case rel =>
       obtain ⟨t, ht⟩ : ∃ t, t = dg P k * x + c0 := ⟨_, rfl⟩
       have e : (dg P k : Int) * x + c0 = (t : Int) := by rw [ht]; simp
       have hb := fits64 b1 hx hc (show 0 < 4294967296 by omega)
       have hda : dg P k = dg a k := by unfold dg; rw [hd.out]
       have hv : t % 4294967296 < 4294967296 := Nat.mod_lt _ Tw.om
       rw [e, show (t : Int) % 4294967296 = ((t % 4294967296 : Nat) : Int) from by omega]
       refine ⟨k + 1, t / 4294967296, setd P k (t % 4294967296), by omega, by omega, ?_, ?_, setd_lt hP hlt hv, ?_, by go_num, ?_, ?_, ?_⟩
       · exact scale_step he.out hda Tw.om
       · unfold Hid; rw [setd_div _ _ _ hv]
         have h1 := div_succ P k
         have h2 := div_succ a k
         have h3 := hd.out
         omega
       · exact congrArg (Value.int .u64) Tw.om
       · exact hB.setCell (Nat.le_refl _) _
       · exact blk_set E0.out hlt hv
       · rw [heap_setCell_other _ _ _ _ (by simp)]; exact E1.out
     case measure => (simp [intOf] <;> omega)
   · obtain rfl : k = 18 := by omega
     have hfin : P = a * x + y := by
       have h := he.out
       rw [Nat.mod_eq_of_lt ha, Nat.div_eq_of_lt ha] at h
       have h0 := R_pos 18
       rcases Nat.eq_zero_or_pos c0 with h1 | h1
       · subst h1; omega
       · have : 1 * R 18 ≤ c0 * R 18 := Nat.mul_le_mul_right _ h1
         omega
     have E1 := Lib.hid e1
     subst hfin
     obtain ⟨d, hu, hdd⟩ := under65
     clear e1 he
     go_wp2_with (first
       | (refine wpList_lda rfl rfl rfl e0 hu hdd size65 ?_)
       | (refine wpList_sta rfl rfl rfl rfl E1.out size65 ?_))
     exact bodyPost_ret (res_cell rfl rfl (setRow_heap _ _ _ _ _ _ E1.out) hu hdd (by rw [size65, fa_size])) rfl ⟨rfl, below_setRow hB Tw.om _⟩
end Go.Proofs.YtalmflgkbmnghaaGreatDoor
namespace Go.Proofs.YtalmflgkbmnghaaGreatDoor
open Go.RowKit Tf
def decV (l : List UInt8) : Nat := l.foldl (fun a b => a * 10 + (b.toNat - 48)) 0
theorem decV_take {l : List UInt8} {k : Nat} {b : UInt8} (h : l[k]? = some b) : decV (l.take (k + 1)) = decV (l.take k) * 10 + (b.toNat - 48) := by
 unfold decV
 rw [List.take_add_one, h, List.foldl_append]
 rfl
theorem decV_lt : ∀ (k : Nat) (l : List UInt8), l.all isDig = true → decV (l.take k) < 10 ^ k
 | 0, l, _ => by simp [decV]
 | k + 1, l, h => by
   have ih := decV_lt k l h
   cases hb : l[k]? with
   | none =>
     have : l.take (k + 1) = l.take k := by rw [List.take_add_one, hb]; simp
     rw [this, Nat.pow_succ]; omega
   | some b =>
     rw [decV_take hb, Nat.pow_succ]
     have := List.all_eq_true.1 h b (List.mem_of_getElem? hb)
     unfold isDig at this
     simp at this
     omega
theorem ten78 : 10 ^ 78 < R 9 := by unfold R; decide
theorem run_idx {o : Oper} {a : Act} {x y : Operand} {s : ByteArray} {k : Nat} (ho : o.op = .index 9 x y) (hx : a.eval x = .string s) (hy : a.eval y = .int .i64 (k : Int)) (h : k < s.size) (w : World) :
   (execOp a.eval o).run Tryz.prog w = .ok (.value (.int .u8 ((s[k].toNat : Nat) : Int))) w := by
 have h1 : (k : Int) < (s.size : Int) := by omega
 unfold execOp
 rw [ho]
 simp only [hx, hy]
 go_simp
theorem run_sub48 {c : Nat} {x y : Operand} (w : World) (h : 48 ≤ c ∧ c ≤ 57) : (do eqGuard .sub 5 x y (.int .u8 (c : Int)) (.int .u8 48); binOp .sub 5 (.int .u8 (c : Int)) (.int .u8 48) : Sem Value).run Tryz.prog w = .ok (.int .u8 ((c - 48 : Nat) : Int)) w := by
 go_simp
 have e : ((c : Int) - 48) % 256 = ((c - 48 : Nat) : Int) := by omega
 first | exact e | (simp only [IntKind.wrap_u8]; exact congrArg (fun z => Result.ok (Value.int .u8 z) w) e) | (rw [show IntKind.u8.wrap ((c : Int) - 48) = ((c - 48 : Nat) : Int) from by simp only [IntKind.wrap_u8]; exact e])
theorem run_cv {o : Oper} {a : Act} {x : Operand} {c : Nat} (ho : o.op = .convert 5 22 x) (hx : a.eval x = .int .u8 ((c - 48 : Nat) : Int)) (h : 48 ≤ c ∧ c ≤ 57) (w : World) :
   (execOp a.eval o).run Tryz.prog w = .ok (.value (.int .u32 ((c - 48 : Nat) : Int))) w := by
 unfold execOp
 rw [ho]
 simp only [hx]
 go_simp
 first | done | omega | (simp only [IntKind.wrap_u32]; omega)
def parseV (l : List UInt8) : Value := if l.length ≤ 78 ∧ decV l < R 8 then .tuple #[num (decV l), .bool true] else .tuple #[num 0, .bool false]
theorem fa_num0 : fa 8 (dg 0) = fa 8 (fun _ => 0) := (fa_dg0 8).symm

set_option maxRecDepth 100000 in
set_option maxHeartbeats 1000000 in
theorem parse_any (s : ByteArray) (hdig : s.toList.all isDig = true) (hs : s.size < 4611686018427387904) (w : World) :
   Calls Tryz.prog 73 #[.string s] w fun e w' => e = .returned (parseV s.toList) ∧ Below w.heap.size w w' := by
 have HDIG := Lib.hid hdig
 clear hdig
 have HLEN := Lib.hid (len_list s)
 go_enter Tryz.func73, Tryz.ntmps73
 go_upto_region 1 with (fail)
 by_cases hlen : (78 : Int) < (s.size : Int)
 · have hK := KS.one w (.cells (fa 8 (fun _ => 0)) 23)
   obtain ⟨W, hW⟩ : ∃ W, W = w.alloc (.cells (fa 8 (fun _ => 0)) 23) := ⟨_, rfl⟩
   rw [← hW] at hK
   rw [fa_zero8] at hW
   rw [← hW]
   clear hW
   have HK := Lib.hid hK
   clear hK
   have HV := Lib.hid (show parseV s.toList = .tuple #[num 0, .bool false] from if_neg (fun h => by have := HLEN.out; omega))
   go_wp2_with (first
     | (refine wpList_sta (f := fun _ => 0) (f' := fun _ => 0) rfl rfl rfl rfl (HK.out.2 _ Tw.m0) size25 ?_))
   exact bodyPost_ret (res_cell_tmp rfl rfl (setRow_heap _ _ _ _ _ _ (HK.out.2 _ Tw.m0)) Tryz.underlying23 rfl (by rw [size25, fa_size])) rfl ⟨by rw [HV.out, num, fa_num0]; rfl, below_setRow HK.out.1 Tw.om _⟩
 · have hl78 : s.toList.length ≤ 78 := by have := HLEN.out; omega
   have HL78 := Lib.hid hl78
   clear hl78
   go_upto_region 4 with (fail)
   have hK := KS.two w (.cells (fa 8 (fun _ => 0)) 23) (.cells (fa 18 (fun _ => 0)) 76)
   obtain ⟨W, hW⟩ : ∃ W, W = (w.alloc (.cells (fa 8 (fun _ => 0)) 23)).alloc (.cells (fa 18 (fun _ => 0)) 76) := ⟨_, rfl⟩
   rw [← hW] at hK
   rw [fa_zero8, fa_zero18] at hW
   rw [← hW]
   clear hW
   have HK := Lib.hid hK
   clear hK
   go_wp2
   go_loopw [12] (fun i wr => ∃ k : Nat, k ≤ s.size ∧ i = .int .i64 k ∧ Hid (KS w [(w.heap.size, .cells (fa 8 (fun _ => 0)) 23 (0, 0)), (w.heap.size + 1, .cells (fa 18 (dg (decV (s.toList.take k)))) 76 (0, 0))] wr))
     (fun i _ => (s.size - intOf i).toNat)
   case atStart => exact ⟨0, by omega, rfl, by rw [fa_dg0 18] at HK; exact HK⟩
   case round =>
     clear HK
     obtain ⟨k, hk, rfl, HK⟩ := hrel
     rcases Nat.lt_or_ge k s.size with hks | hks
     · have h1 : (k : Int) < (s.size : Int) := by omega
       have HG := Lib.hid (get_list s k hks)
       have hstep := decV_take HG.out
       have hvl := decV_lt k s.toList HDIG.out
       have hvl' := decV_lt (k + 1) s.toList HDIG.out
       have h78 : 10 ^ (k + 1) ≤ 10 ^ 78 := Nat.pow_le_pow_right Tw.om Tw.om
       have h78' : 10 ^ k ≤ 10 ^ 78 := Nat.pow_le_pow_right Tw.om Tw.om
       have hc : 48 ≤ s[k].toNat ∧ s[k].toNat ≤ 57 := by
         have := List.all_eq_true.1 HDIG.out _ (List.mem_of_getElem? HG.out)
         unfold isDig at this
         simp at this
         exact this
       have hv18 : decV (s.toList.take k) < R 18 := lt_R_of_le (Nat.lt_trans (Nat.lt_of_lt_of_le hvl h78') ten78) Tw.om
       have hr18 : decV (s.toList.take k) * 10 + (s[k].toNat - 48) < R 18 := by rw [← hstep]; exact lt_R_of_le (Nat.lt_trans (Nat.lt_of_lt_of_le hvl' h78) ten78) Tw.om
       have hd32 : s[k].toNat - 48 < 4294967296 := by omega
       have HST := Lib.hid hstep
       clear hstep hvl hvl' h78 h78'
       generalize decV (s.toList.take k) = v at *
       have HX := Lib.hid (⟨hc, hv18, hr18, hd32⟩ : (48 ≤ s[k].toNat ∧ s[k].toNat ≤ 57) ∧ v < R 18 ∧ v * 10 + (s[k].toNat - 48) < R 18 ∧ s[k].toNat - 48 < 4294967296)
       clear hc hv18 hr18 hd32
       go_wp2_with fail
       obtain ⟨hc, hv18, hr18, hd32⟩ := HX.out
       refine wp_region_U [(w.heap.size, .cells (fa 8 (fun _ => 0)) 23 (0, 0)), (w.heap.size + 1, .cells (fa 18 (dg v)) 76 (0, 0))] Tw.kr (HK.out) ?_
       refine wpU_vY (i := 0) (v := wid v) rfl rfl Tw.kr Tw.kr rfl (yb_lda rfl Tw.kr Tw.m1 Tryz.underlying76 rfl size65) Tw.pu ?_
       refine wpU_pY (i := 1) (v := .string s) rfl rfl Tw.kr Tw.kr rfl Tw.kf Tw.pu ?_
       refine wpU_pY (i := 2) (v := .int .i64 (k : Int)) rfl rfl Tw.kr Tw.kr rfl Tw.kf Tw.pu ?_
       refine wpU_pY (i := 3) (v := .int .u8 ((s[k].toNat : Nat) : Int)) rfl rfl Tw.kr Tw.kr rfl (run_idx rfl Tw.kr Tw.kr hks) Tw.pu ?_
       refine wpU_pY (i := 4) (v := .int .u8 ((s[k].toNat - 48 : Nat) : Int)) rfl rfl Tw.kr Tw.kr rfl (run_binY rfl (vx := .int .u8 ((s[k].toNat : Nat) : Int)) (vy := .int .u8 48) Tw.kr Tw.kr fun w => run_sub48 w hc) Tw.pu ?_
       refine wpU_pY (i := 5) (v := .int .u32 ((s[k].toNat - 48 : Nat) : Int)) rfl rfl Tw.kr Tw.kr rfl (run_cv rfl Tw.kr hc) Tw.pu ?_
       refine wpU_vY (i := 6) (v := wid (v * 10 + (s[k].toNat - 48))) rfl rfl Tw.kr Tw.kr rfl (yb_call (f := 96) (args := #[wid v, .int .u32 10, .int .u32 ((s[k].toNat - 48 : Nat) : Int)]) Tw.kf fun W hW => timesPlus_any v 10 (s[k].toNat - 48) hv18 Tw.om hd32 hr18 W) Tw.pu ?_
       refine wpU_sY [(w.heap.size, .cells (fa 8 (fun _ => 0)) 23 (0, 0)), (w.heap.size + 1, .cells (fa 18 (dg (v * 10 + (s[k].toNat - 48)))) 76 (0, 0))] (i := 7) rfl Tw.kr rfl rfl rfl
         (st_a rfl rfl rfl Tw.m1 Tw.om size65 (by intro p hp; simp only [List.mem_cons, List.not_mem_nil, or_false] at hp; rcases hp with rfl | rfl; exact .inr ⟨by simp, by simp only; omega⟩; exact .inl rfl)) ?_
       refine wpU_done Tw.kr (fun W4 hW4 => ?_) _
       clear hc hv18 hr18 hd32
       have HW := Lib.hid hW4
       clear hW4
       go_wp2_with fail
       go_roundw
       case rel => exact ⟨k + 1, by omega, rfl, by rw [HST.out]; exact HW⟩
       case measure => simp only [intOf]; omega
     · have h1 : ¬ (k : Int) < (s.size : Int) := by omega
       have htk : s.toList.take k = s.toList := List.take_of_length_le (by have := HLEN.out; omega)
       rw [htk] at HK
       have hv18 : decV s.toList < R 18 := by
         have h0 := decV_lt k s.toList HDIG.out
         rw [htk] at h0
         have h78' : 10 ^ k ≤ 10 ^ 78 := Nat.pow_le_pow_right Tw.om Tw.om
         exact lt_R_of_le (Nat.lt_trans (Nat.lt_of_lt_of_le h0 h78') ten78) Tw.om
       have HV18 := Lib.hid hv18
       clear htk hv18
       by_cases hv8 : decV s.toList < R 8
       · have HV := Lib.hid (show parseV s.toList = .tuple #[num (decV s.toList), .bool true] from if_pos ⟨HL78.out, hv8⟩)
         have HV8 := Lib.hid hv8
         clear hv8
         generalize decV s.toList = v at *
         go_wp2_with (first
           | (refine wpList_lda rfl rfl rfl (HK.out.2 _ Tw.m1) Tryz.underlying76 rfl size65 ?_)
           | ((go_at_call 97); refine (narrow_yes v HV8.out _).mono ?_; rintro e w1 ⟨rfl, hb1⟩; have HK1 := Lib.hid (HK.out.below hb1); clear hb1; unfold num)
           | (refine wpList_sta (f := dg (v)) (f' := fun _ => 0) rfl rfl rfl rfl (HK1.out.2 _ Tw.m0) size25 ?_))
         exact bodyPost_ret (res_cell_tmp rfl rfl (setRow_heap _ _ _ _ _ _ (HK1.out.2 _ Tw.m0)) Tryz.underlying23 rfl (by rw [size25, fa_size])) rfl ⟨by rw [HV.out]; rfl, below_setRow HK1.out.1 Tw.om _⟩
       · have HV := Lib.hid (show parseV s.toList = .tuple #[num 0, .bool false] from if_neg (fun h => hv8 h.2))
         have HV8 := Lib.hid (Nat.le_of_not_lt hv8)
         clear hv8
         generalize decV s.toList = v at *
         go_wp2_with (first
           | (refine wpList_lda rfl rfl rfl (HK.out.2 _ Tw.m1) Tryz.underlying76 rfl size65 ?_)
           | ((go_at_call 97); refine (narrow_no v HV18.out HV8.out _).mono ?_; rintro e w1 ⟨rfl, hb1⟩; have HK1 := Lib.hid (HK.out.below hb1); clear hb1; unfold num)
           | (refine wpList_sta (f := dg (0)) (f' := fun _ => 0) rfl rfl rfl rfl (HK1.out.2 _ Tw.m0) size25 ?_))
         exact bodyPost_ret (res_cell_tmp rfl rfl (setRow_heap _ _ _ _ _ _ (HK1.out.2 _ Tw.m0)) Tryz.underlying23 rfl (by rw [size25, fa_size])) rfl ⟨by rw [HV.out]; rfl, below_setRow HK1.out.1 Tw.om _⟩
end Go.Proofs.YtalmflgkbmnghaaGreatDoor
namespace Go.Proofs.YtalmflgkbmnghaaGreatDoor
open Go.RowKit Tf
variable [ShLZ]
variable [ShSt]
theorem ba_list (l : List UInt8) : (⟨l.toArray⟩ : ByteArray).toList = l := by rw [ByteArray.toList_eq]
theorem run_eqs {a b : List UInt8} {c : Bool} (h : (a == b) = c) {x y : Operand} (w : World) : (do eqGuard .eql 9 x y (.string ⟨a.toArray⟩) (.string ⟨b.toArray⟩); binOp .eql 9 (.string ⟨a.toArray⟩) (.string ⟨b.toArray⟩) : Sem Value).run Tryz.prog w = .ok (.bool c) w := by
 subst h
 go_simp
theorem run_neqs {a b : List UInt8} {c : Bool} (h : (a == b) = c) {x y : Operand} (w : World) : (do eqGuard .neq 9 x y (.string ⟨a.toArray⟩) (.string ⟨b.toArray⟩); binOp .neq 9 (.string ⟨a.toArray⟩) (.string ⟨b.toArray⟩) : Sem Value).run Tryz.prog w = .ok (.bool (!c)) w := by
 subst h
 go_simp
theorem text_any (s : Bool) (n d : Nat) (hn : n < R 8) (hd : d < R 8) (w : World) (hE : Env w) :
   Calls Tryz.prog 30 #[frc s n d] w fun e w' => e = .returned (if rightB s n d = true then .tuple #[txt (textL s n d), .int .i64 0] else .tuple #[txt [], .int .i64 2]) ∧ Below w.heap.size w w' :=
 Text_walk s (rightB s n d) n d ⟨hn, hd⟩ w hE (Lib.decDigits n) (Lib.decDigits d) (dec_len78 hn) (dec_len78 hd) (fun W => right_any s n d hn hd W)
   (fun W hW => decimal_any n hn W hW) (fun W hW => decimal_any d hd W hW) _ rfl
set_option maxRecDepth 100000 in
set_option maxHeartbeats 4000000 in
theorem Read_walk (l u a b0 b t : List UInt8) (neg ra da db zb pa pb eb : Bool) (x y : Nat) (te : Int) (w : World) (HE : Hid (Env w)) (hb : (ra = true ∧ b = b0) ∨ (ra = false ∧ b = [49]))
   (HC1 : Hid (∀ W, Calls Tryz.prog 70 #[.string ⟨(l).toArray⟩, .string ⟨#[45]⟩] W fun e w' => e = .returned (.tuple #[.string ⟨(u).toArray⟩, .bool neg]) ∧ Below W.heap.size W w'))
   (HC2 : Hid (∀ W, Env W → Calls Tryz.prog 71 #[.string ⟨(u).toArray⟩, .string ⟨#[47]⟩] W fun e w' => e = .returned (.tuple #[.string ⟨(a).toArray⟩, .string ⟨(b0).toArray⟩, .bool ra]) ∧ Below W.heap.size W w'))
   (HDa : Hid (∀ W, Calls Tryz.prog 72 #[.string ⟨(a).toArray⟩] W fun e w' => e = .returned (.bool da) ∧ Below W.heap.size W w'))
   (HDb : Hid (∀ W, Calls Tryz.prog 72 #[.string ⟨(b).toArray⟩] W fun e w' => e = .returned (.bool db) ∧ Below W.heap.size W w'))
   (HPa : Hid (da = true → ∀ W, Calls Tryz.prog 73 #[.string ⟨(a).toArray⟩] W fun e w' => e = .returned (.tuple #[.agg (fa 8 (dg x)), .bool pa]) ∧ Below W.heap.size W w'))
   (HPb : Hid (db = true → ∀ W, Calls Tryz.prog 73 #[.string ⟨(b).toArray⟩] W fun e w' => e = .returned (.tuple #[.agg (fa 8 (dg y)), .bool pb]) ∧ Below W.heap.size W w'))
   (HT : Hid (∀ W, Env W → Calls Tryz.prog 30 #[.agg (frcC neg x y)] W fun e w' => e = .returned (.tuple #[.string ⟨(t).toArray⟩, .int .i64 te]) ∧ Below W.heap.size W w'))
   (HZ : Hid ((b == [48]) = zb)) (HT0 : Hid (te = 0 ∨ te = 2)) (HQ : Hid ((t == l) = eb)) (V : Value)
   (HV : Hid (V = if da = true ∧ db = true ∧ zb = false then (if pa = true ∧ pb = true then (if te = 0 ∧ eb = true then .tuple #[frc neg x y, .int .i64 0] else .tuple #[frc false 0 0, .int .i64 11]) else .tuple #[frc false 0 0, .int .i64 3]) else .tuple #[frc false 0 0, .int .i64 10])) :
   Calls Tryz.prog 33 #[.string ⟨(l).toArray⟩] w fun e w' => e = .returned V ∧ Below w.heap.size w w' := by
 unfold frc at HV
 go_enter Tryz.func33, Tryz.ntmps33
 go_upto_region 1 with (fail)
 have hK := KS.one w (.cells (frcC false 0 0) 25)
 obtain ⟨W, hW⟩ : ∃ W, W = w.alloc (.cells (frcC false 0 0) 25) := ⟨_, rfl⟩
 rw [← hW] at hK
 rw [frc_zero] at hW
 rw [← hW]
 clear hW
 have HK := Lib.hid hK
 clear hK
 rcases hb with ⟨rfl, rfl⟩ | ⟨rfl, rfl⟩
 all_goals
   go_upto_region 5 with (first
     | ((go_at_call 70); (with_reducible refine (HC1.out _).mono ?_); rintro e w1 ⟨rfl, hb1⟩; have HK1 := Lib.hid (HK.out.below hb1); clear hb1; have E1 := Lib.hid (HE.out.keep HK1.out.1))
     | ((go_at_call 71); (with_reducible refine (HC2.out _ E1.out).mono ?_); rintro e w2 ⟨rfl, hb1⟩; have HK2 := Lib.hid (HK1.out.below hb1); clear hb1))
   clear HK HK1 HC1 HC2 E1
   cases da
   · go_wp2_with (first
       | ((go_at_call 72); (with_reducible refine (HDa.out _).mono ?_); rintro e w3 ⟨rfl, hb1⟩; have HK3 := Lib.hid (HK2.out.below hb1); clear hb1)
       | (refine wpList_stf (neg := false) (n := 0) (d := 0) (neg' := false) (n' := 0) (d' := 0) rfl rfl rfl (by rw [frc_zero]; rfl) (HK3.out.2 _ Tw.m0) size27 ?_))
     exact bodyPost_ret (res_cell_tmp rfl rfl (setRow_heap _ _ _ _ _ _ (HK3.out.2 _ Tw.m0)) Tryz.underlying25 rfl (by rw [size27, frcC_size])) rfl ⟨by rw [HV.out]; rfl, below_setRow HK3.out.1 Tw.om _⟩
   cases db
   · go_wp2_with (first
       | ((go_at_call 72); (with_reducible refine (HDa.out _).mono ?_); rintro e w3 ⟨rfl, hb1⟩; have HK3 := Lib.hid (HK2.out.below hb1); clear hb1)
       | ((go_at_call 72); (with_reducible refine (HDb.out _).mono ?_); rintro e w4 ⟨rfl, hb1⟩; have HK4 := Lib.hid (HK3.out.below hb1); clear hb1)
       | (refine wpList_stf (neg := false) (n := 0) (d := 0) (neg' := false) (n' := 0) (d' := 0) rfl rfl rfl (by rw [frc_zero]; rfl) (HK4.out.2 _ Tw.m0) size27 ?_))
     exact bodyPost_ret (res_cell_tmp rfl rfl (setRow_heap _ _ _ _ _ _ (HK4.out.2 _ Tw.m0)) Tryz.underlying25 rfl (by rw [size27, frcC_size])) rfl ⟨by rw [HV.out]; rfl, below_setRow HK4.out.1 Tw.om _⟩
   cases zb
   rotate_left
   · go_wp2_with (first
       | ((go_at_call 72); (with_reducible refine (HDa.out _).mono ?_); rintro e w3 ⟨rfl, hb1⟩; have HK3 := Lib.hid (HK2.out.below hb1); clear hb1)
       | ((go_at_call 72); (with_reducible refine (HDb.out _).mono ?_); rintro e w4 ⟨rfl, hb1⟩; have HK4 := Lib.hid (HK3.out.below hb1); clear hb1)
       | (refine wpList_guard rfl ?_; refine wpList_bin rfl rfl rfl rfl (fun w => run_eqs HZ.out w) ?_)
       | (refine wpList_stf (neg := false) (n := 0) (d := 0) (neg' := false) (n' := 0) (d' := 0) rfl rfl rfl (by rw [frc_zero]; rfl) (HK4.out.2 _ Tw.m0) size27 ?_))
     exact bodyPost_ret (res_cell_tmp rfl rfl (setRow_heap _ _ _ _ _ _ (HK4.out.2 _ Tw.m0)) Tryz.underlying25 rfl (by rw [size27, frcC_size])) rfl ⟨by rw [HV.out]; rfl, below_setRow HK4.out.1 Tw.om _⟩
   go_upto_region 7 with (first
       | ((go_at_call 72); (with_reducible refine (HDa.out _).mono ?_); rintro e w3 ⟨rfl, hb1⟩; have HK3 := Lib.hid (HK2.out.below hb1); clear hb1)
       | ((go_at_call 72); (with_reducible refine (HDb.out _).mono ?_); rintro e w4 ⟨rfl, hb1⟩; have HK4 := Lib.hid (HK3.out.below hb1); clear hb1)
       | (refine wpList_guard rfl ?_; refine wpList_bin rfl rfl rfl rfl (fun w => run_eqs HZ.out w) ?_))
   have HPA := Lib.hid (HPa.out trivial)
   have HPB := Lib.hid (HPb.out trivial)
   clear HDa HDb HPa HPb HK2 HK3
   go_upto_region 8 with (first
       | ((go_at_call 73); (with_reducible refine (HPA.out _).mono ?_); rintro e w5 ⟨rfl, hb1⟩; have HK5 := Lib.hid (HK4.out.below hb1); clear hb1)
       | (refine wpList_sta (f := dg x) (f' := fun _ => 0) rfl rfl rfl rfl (heap1 w5 _) size25 ?_))
   have HK6 := Lib.hid (HK5.out.newvar (cs := fa 8 (fun _ => 0)) (cs' := fa 8 (dg x)) (t := 23))
   have f_g6 := HK5.out.fresh.1
   have k_g6 := HK5.out.fresh.2
   rw [← fa_zero8]
   generalize (w5.alloc (.cells (fa 8 (fun _ => 0)) 23)).setRow w5.heap.size (fa 8 (dg x)) = W6 at *
   generalize w5.heap.size = g6 at *
   simp only [List.forall_mem_cons] at k_g6
   clear HK5
   go_upto_region 9 with (first
       | ((go_at_call 73); (with_reducible refine (HPB.out _).mono ?_); rintro e w7 ⟨rfl, hb1⟩; have HK7 := Lib.hid (HK6.out.below hb1); clear hb1)
       | (refine wpList_sta (f := dg y) (f' := fun _ => 0) rfl rfl rfl rfl (heap1 w7 _) size25 ?_))
   have HK8 := Lib.hid (HK7.out.newvar (cs := fa 8 (fun _ => 0)) (cs' := fa 8 (dg y)) (t := 23))
   have f_g8 := HK7.out.fresh.1
   have k_g8 := HK7.out.fresh.2
   rw [← fa_zero8]
   generalize (w7.alloc (.cells (fa 8 (fun _ => 0)) 23)).setRow w7.heap.size (fa 8 (dg y)) = W8 at *
   generalize w7.heap.size = g8 at *
   simp only [List.forall_mem_cons] at k_g8
   clear HK7
   cases pa
   · go_wp2_with (first
       | (refine wpList_stf (neg := false) (n := 0) (d := 0) (neg' := false) (n' := 0) (d' := 0) rfl rfl rfl (by rw [frc_zero]; rfl) (HK8.out.2 _ Tw.m2) size27 ?_))
     exact bodyPost_ret (res_cell_tmp rfl rfl (setRow_heap _ _ _ _ _ _ (HK8.out.2 _ Tw.m2)) Tryz.underlying25 rfl (by rw [size27, frcC_size])) rfl ⟨by rw [HV.out]; rfl, below_setRow HK8.out.1 Tw.om _⟩
   cases pb
   · go_wp2_with (first
       | (refine wpList_stf (neg := false) (n := 0) (d := 0) (neg' := false) (n' := 0) (d' := 0) rfl rfl rfl (by rw [frc_zero]; rfl) (HK8.out.2 _ Tw.m2) size27 ?_))
     exact bodyPost_ret (res_cell_tmp rfl rfl (setRow_heap _ _ _ _ _ _ (HK8.out.2 _ Tw.m2)) Tryz.underlying25 rfl (by rw [size27, frcC_size])) rfl ⟨by rw [HV.out]; rfl, below_setRow HK8.out.1 Tw.om _⟩
   go_upto_region 12 with (first
       | (refine wpList_lda rfl rfl rfl (HK8.out.2 _ Tw.m1) Tryz.underlying23 rfl size25 ?_)
       | (refine wpList_lda rfl rfl rfl (HK8.out.2 _ Tw.m0) Tryz.underlying23 rfl size25 ?_)
       | (refine wpList_bf (s := neg) (n := x) (d := y) rfl rfl rfl rfl rfl ?_)
       | (refine wpList_stf (neg := neg) (n := x) (d := y) (neg' := false) (n' := 0) (d' := 0) rfl rfl rfl rfl (by rw [frc_zero]; exact heap1 W8 _) size27 ?_))
   have HK9 := Lib.hid (HK8.out.newvar (cs := frcC false 0 0) (cs' := frcC neg x y) (t := 25))
   have k_g9 := HK8.out.fresh.2
   rw [← frc_zero]
   generalize (W8.alloc (.cells (frcC false 0 0) 25)).setRow W8.heap.size (frcC neg x y) = W9 at *
   generalize W8.heap.size = g9 at *
   clear k_g9 HK8
   have E9 := Lib.hid (HE.out.keep HK9.out.1)
   rcases HT0.out with rfl | rfl
   · cases eb
     · go_wp2_with (first
         | (refine wpList_ldf rfl rfl rfl (HK9.out.2 _ Tw.m0) Tryz.underlying25 rfl size27 ?_)
         | ((go_at_call 30); (with_reducible refine (HT.out _ E9.out).mono ?_); rintro e w10 ⟨rfl, hb1⟩; have HK10 := Lib.hid (HK9.out.below hb1); clear hb1)
         | (refine wpList_guard rfl ?_; refine wpList_bin rfl rfl rfl rfl (fun w => run_neqs HQ.out w) ?_)
         | (refine wpList_stf (neg := false) (n := 0) (d := 0) (neg' := false) (n' := 0) (d' := 0) rfl rfl rfl (by rw [frc_zero]; rfl) (HK10.out.2 _ Tw.m3) size27 ?_))
       exact bodyPost_ret (res_cell_tmp rfl rfl (setRow_heap _ _ _ _ _ _ (HK10.out.2 _ Tw.m3)) Tryz.underlying25 rfl (by rw [size27, frcC_size])) rfl ⟨by rw [HV.out]; rfl, below_setRow HK10.out.1 Tw.om _⟩
     · go_wp2_with (first
         | (refine wpList_ldf rfl rfl rfl (HK9.out.2 _ Tw.m0) Tryz.underlying25 rfl size27 ?_)
         | ((go_at_call 30); (with_reducible refine (HT.out _ E9.out).mono ?_); rintro e w10 ⟨rfl, hb1⟩; have HK10 := Lib.hid (HK9.out.below hb1); clear hb1)
         | (refine wpList_guard rfl ?_; refine wpList_bin rfl rfl rfl rfl (fun w => run_neqs HQ.out w) ?_)
         | (refine wpList_ldf rfl rfl rfl (HK10.out.2 _ Tw.m0) Tryz.underlying25 rfl size27 ?_)
         | (refine wpList_stf (neg := neg) (n := x) (d := y) (neg' := false) (n' := 0) (d' := 0) rfl rfl rfl rfl (HK10.out.2 _ Tw.m3) size27 ?_))
       exact bodyPost_ret (res_cell_tmp rfl rfl (setRow_heap _ _ _ _ _ _ (HK10.out.2 _ Tw.m3)) Tryz.underlying25 rfl (by rw [size27, frcC_size])) rfl ⟨by rw [HV.out]; rfl, below_setRow HK10.out.1 Tw.om _⟩
   · go_wp2_with (first
         | (refine wpList_ldf rfl rfl rfl (HK9.out.2 _ Tw.m0) Tryz.underlying25 rfl size27 ?_)
         | ((go_at_call 30); (with_reducible refine (HT.out _ E9.out).mono ?_); rintro e w10 ⟨rfl, hb1⟩; have HK10 := Lib.hid (HK9.out.below hb1); clear hb1)
         | (refine wpList_guard rfl ?_; refine wpList_bin rfl rfl rfl rfl (fun w => run_neqs HQ.out w) ?_)
         | (refine wpList_stf (neg := false) (n := 0) (d := 0) (neg' := false) (n' := 0) (d' := 0) rfl rfl rfl (by rw [frc_zero]; rfl) (HK10.out.2 _ Tw.m3) size27 ?_))
     exact bodyPost_ret (res_cell_tmp rfl rfl (setRow_heap _ _ _ _ _ _ (HK10.out.2 _ Tw.m3)) Tryz.underlying25 rfl (by rw [size27, frcC_size])) rfl ⟨by rw [HV.out]; rfl, below_setRow HK10.out.1 Tw.om _⟩
end Go.Proofs.YtalmflgkbmnghaaGreatDoor
namespace Go.Proofs.YtalmflgkbmnghaaGreatDoor
open Go.RowKit Tf
variable [ShLZ]
variable [ShSt]
def pOk (a : List UInt8) : Bool := decide (a.length ≤ 78 ∧ decV a < R 8)
def pVal (a : List UInt8) : Nat := if pOk a = true then decV a else 0
def rNeg (l : List UInt8) : Bool := Lib.hasPrefix l [45]
def rCut (l : List UInt8) : List UInt8 × List UInt8 × Bool := Lib.cut (Lib.trimPrefix l [45]) [47]
def rBelow (l : List UInt8) : List UInt8 := if (rCut l).2.2 = true then (rCut l).2.1 else [49]
def rText (neg : Bool) (x y : Nat) : List UInt8 := if rightB neg x y = true then textL neg x y else []
def rErr (neg : Bool) (x y : Nat) : Int := if rightB neg x y = true then 0 else 2
def readV (l : List UInt8) : Value :=
 if digL (rCut l).1 = true ∧ digL (rBelow l) = true ∧ (rBelow l == [48]) = false then
   (if pOk (rCut l).1 = true ∧ pOk (rBelow l) = true then
     (if rErr (rNeg l) (pVal (rCut l).1) (pVal (rBelow l)) = 0 ∧ (rText (rNeg l) (pVal (rCut l).1) (pVal (rBelow l)) == l) = true then .tuple #[frc (rNeg l) (pVal (rCut l).1) (pVal (rBelow l)), .int .i64 0] else .tuple #[frc false 0 0, .int .i64 11])
     else .tuple #[frc false 0 0, .int .i64 3])
   else .tuple #[frc false 0 0, .int .i64 10]
theorem pVal_lt (a : List UInt8) : pVal a < R 8 := by
 unfold pVal
 by_cases h : pOk a = true
 · rw [if_pos h]; unfold pOk at h; simp at h; exact h.2
 · rw [if_neg h]; exact R_pos 8
theorem parse_ok (a : List UInt8) (hd : digL a = true) (hs : a.length < 4611686018427387904) (W : World) :
   Calls Tryz.prog 73 #[.string ⟨a.toArray⟩] W fun e w' => e = .returned (.tuple #[.agg (fa 8 (dg (pVal a))), .bool (pOk a)]) ∧ Below W.heap.size W w' := by
 have h1 : a.all isDig = true := by unfold digL at hd; simp at hd; simpa using hd.1
 refine (parse_any ⟨a.toArray⟩ (by rw [ba_list]; exact h1) (by rw [ba_size]; exact hs) W).mono fun e w' ⟨he, hb⟩ => ⟨?_, hb⟩
 rw [he, ba_list]
 unfold parseV pVal pOk
 by_cases h : a.length ≤ 78 ∧ decV a < R 8
 · rw [if_pos h]; simp [h]; rfl
 · rw [if_neg h]; simp [h]; rfl
theorem cut_le (u s : List UInt8) : (Lib.cut u s).1.length ≤ u.length ∧ (Lib.cut u s).2.1.length ≤ u.length := by
 unfold Lib.cut
 split <;> simp <;> omega
theorem trim_le (u s : List UInt8) : (Lib.trimPrefix u s).length ≤ u.length := by
 unfold Lib.trimPrefix
 split <;> simp
theorem read_any (l : List UInt8) (hl : l.length < 4294967281) (w : World) (hE : Env w) :
   Calls Tryz.prog 33 #[.string ⟨l.toArray⟩] w fun e w' => e = .returned (readV l) ∧ Below w.heap.size w w' := by
 have h1 := trim_le l [45]
 have h2 := cut_le (Lib.trimPrefix l [45]) [47]
 have h3 : (rBelow l).length ≤ l.length + 1 := by unfold rBelow rCut; split; (omega); (simp)
 have h4 : (rCut l).1.length ≤ l.length := by unfold rCut; omega
 refine Read_walk l (Lib.trimPrefix l [45]) (rCut l).1 (rCut l).2.1 (rBelow l) (rText (rNeg l) (pVal (rCut l).1) (pVal (rBelow l))) (rNeg l) (rCut l).2.2 _ _ _ (pOk (rCut l).1) (pOk (rBelow l)) _
   (pVal (rCut l).1) (pVal (rBelow l)) (rErr (rNeg l) (pVal (rCut l).1) (pVal (rBelow l))) w hE ?_ (fun W => ?_) (fun W hW => ?_) (fun W => ?_) (fun W => ?_) (fun hd W => parse_ok _ hd Tw.om W) (fun hd W => parse_ok _ hd Tw.om W) (fun W hW => ?_) rfl ?_ rfl _ rfl
 · unfold rBelow
   cases (rCut l).2.2
   · exact .inr ⟨rfl, rfl⟩
   · exact .inl ⟨rfl, rfl⟩
 · exact ShSt.cutPrefix l W
 · exact ShSt.cut (Lib.trimPrefix l [45]) Tw.om W hW
 · refine (digits_any ⟨(rCut l).1.toArray⟩ (by rw [ba_size]; omega) W).mono fun e w' ⟨he, hb⟩ => ⟨?_, hb⟩
   rw [he, ba_list]
 · refine (digits_any ⟨(rBelow l).toArray⟩ (by rw [ba_size]; omega) W).mono fun e w' ⟨he, hb⟩ => ⟨?_, hb⟩
   rw [he, ba_list]
 · refine (text_any (rNeg l) (pVal (rCut l).1) (pVal (rBelow l)) (pVal_lt _) (pVal_lt _) W hW).mono fun e w' ⟨he, hb⟩ => ⟨?_, hb⟩
   rw [he]
   unfold rText rErr
   by_cases h : rightB (rNeg l) (pVal (rCut l).1) (pVal (rBelow l)) = true
   · rw [if_pos h, if_pos h, if_pos h]; rfl
   · rw [if_neg h, if_neg h, if_neg h]; rfl
 · unfold rErr Hid
   split <;> simp
end Go.Proofs.YtalmflgkbmnghaaGreatDoor
namespace Go.Proofs.YtalmflgkbmnghaaGreatDoor
open Go.RowKit Tf
variable [ShLZ]
def sg (s : Bool) (n : Nat) : Int := if s = true then -(n : Int) else n
theorem sg_abs (s : Bool) (n : Nat) : (sg s n).natAbs = n := by unfold sg; split <;> simp
theorem sg_of (x : Int) : sg (decide (x < 0)) x.natAbs = x := by
 unfold sg
 by_cases h : x < 0
 · rw [if_pos (by simpa using h)]; omega
 · rw [if_neg (by simpa using h)]; omega
theorem sg_neg (s : Bool) (n : Nat) : (s && decide (n ≠ 0)) = decide (sg s n < 0) := by
 rw [Bool.eq_iff_iff]
 simp only [Bool.and_eq_true, decide_eq_true_eq]
 cases s
 · simp [sg] <;> omega
 · simp [sg] <;> omega
theorem ps_int (x y : Bool) (a b : Nat) : sg (psS x y a b) (psN x y a b) = sg x a + sg y b := by
 unfold psS psN
 by_cases h : x = y
 · subst h
   simp only [if_true]
   cases x <;> simp [sg] <;> omega
 · simp only [if_neg h]
   by_cases hab : a < b
   · simp only [if_pos hab]
     cases x <;> cases y <;> simp_all [sg] <;> omega
   · simp only [if_neg hab]
     cases x <;> cases y <;> simp_all [sg] <;> omega
def ratV (x : Rat) : Value := frc (decide (x.num < 0)) x.num.natAbs x.den
def fits (x : Rat) : Prop := x.num.natAbs < R 8 ∧ x.den < R 8
instance (x : Rat) : Decidable (fits x) := by unfold fits; exact inferInstance
def fracV (x : Rat) : Value := if fits x then .tuple #[ratV x, .int .i64 0] else .tuple #[frc false 0 0, .int .i64 3]
theorem packV_rat {S : Bool} {N D : Nat} (z : Rat) (hn : z.num.natAbs = N) (hd : z.den = D) (hs : (S && decide (N ≠ 0)) = decide (z.num < 0)) : packV S N D = fracV z := by
 subst hn hd
 unfold packV fracV fits ratV
 rw [hs]
theorem right_rat {s : Bool} {n d : Nat} (h : rightB s n d = true) : ∃ x : Rat, x.num = sg s n ∧ x.den = d ∧ x.num.natAbs = n ∧ decide (x.num < 0) = s := by
 have hd := right_den h
 have hg : Nat.gcd n d = 1 := by
   unfold rightB at h
   split at h
   · rename_i h0; simp at h; simp [h0, h.2]
   · simp at h; exact h.2
 refine ⟨⟨sg s n, d, by omega, by unfold Nat.Coprime; rw [sg_abs]; exact hg⟩, rfl, rfl, sg_abs s n, ?_⟩
 show decide (sg s n < 0) = s
 unfold rightB at h
 cases s
 · simp [sg] <;> omega
 · split at h
   · simp at h
   · simp [sg] <;> omega
theorem rat_right (x : Rat) : rightB (decide (x.num < 0)) x.num.natAbs x.den = true := by
 unfold rightB
 have hr : Nat.gcd x.num.natAbs x.den = 1 := x.reduced
 split
 · rename_i h
   rw [h, Nat.gcd_zero_left] at hr
   have : x.num = 0 := by omega
   simp [hr, this]
 · simp [x.den_nz, hr]
theorem addV_rat (x y : Rat) : addV (decide (x.num < 0)) x.num.natAbs x.den (decide (y.num < 0)) y.num.natAbs y.den = fracV (x + y) := by
 have hs : sg (psS (decide (x.num < 0)) (decide (y.num < 0)) (x.num.natAbs * (y.den / Nat.gcd x.den y.den)) (y.num.natAbs * (x.den / Nat.gcd x.den y.den)))
     (psN (decide (x.num < 0)) (decide (y.num < 0)) (x.num.natAbs * (y.den / Nat.gcd x.den y.den)) (y.num.natAbs * (x.den / Nat.gcd x.den y.den)))
     = x.num * ((y.den / x.den.gcd y.den : Nat) : Int) + y.num * ((x.den / x.den.gcd y.den : Nat) : Int) := by
   have hm : ∀ (s : Bool) (a b : Nat), sg s (a * b) = sg s a * (b : Int) := fun s a b => by
     unfold sg; split <;> simp [Int.neg_mul]
   rw [ps_int, hm, hm, sg_of, sg_of]
 unfold addV
 generalize psS _ _ _ _ = S at *
 generalize hN : psN _ _ _ _ = N at *
 obtain ⟨h1, h2, h3, h4⟩ := add_rat x y (sg S N) hs (Nat.gcd N (Nat.gcd x.den y.den)) (by rw [sg_abs])
 rw [sg_abs] at h1
 refine packV_rat (x + y) h1 h2 ?_
 rw [← h1, Bool.eq_iff_iff]
 simp only [Bool.and_eq_true, decide_eq_true_eq]
 rw [h3]
 have h5 := sg_neg S N
 rw [Bool.eq_iff_iff] at h5
 simp only [Bool.and_eq_true, decide_eq_true_eq] at h5
 rw [← h5]
 have h6 : (x + y).num.natAbs = 0 ↔ N = 0 := by
   rw [Int.natAbs_eq_zero, h4]
   constructor
   · intro h; have := congrArg Int.natAbs h; rwa [sg_abs] at this
   · intro h; rw [h]; cases S <;> rfl
 simp [h6]
theorem mulV_rat (x y : Rat) : mulV (decide (x.num < 0)) x.num.natAbs x.den (decide (y.num < 0)) y.num.natAbs y.den = fracV (x * y) := by
 obtain ⟨h1, h2, h3, h4⟩ := mul_rat x y
 unfold mulV
 refine packV_rat (x * y) h1 h2 ?_
 rw [← h1, Bool.eq_iff_iff]
 simp only [Bool.and_eq_true, decide_eq_true_eq, bne_iff_ne, ne_eq, Int.natAbs_eq_zero]
 rw [h3, h4]
 rcases Int.lt_trichotomy x.num 0 with hx | hx | hx <;> rcases Int.lt_trichotomy y.num 0 with hy | hy | hy
 · have := Int.mul_pos_of_neg_of_neg hx hy; simp [hx, hy]; omega
 · simp [hy]
 · have := Int.mul_neg_of_neg_of_pos hx hy; have h7 : ¬ y.num < 0 := by omega
   exact ⟨fun _ => this, fun _ => ⟨by simp [hx, h7], by omega⟩⟩
 · simp [hx]
 · simp [hx]
 · simp [hx]
 · have := Int.mul_neg_of_pos_of_neg hx hy; have h7 : ¬ x.num < 0 := by omega
   exact ⟨fun _ => this, fun _ => ⟨by simp [hy, h7], by omega⟩⟩
 · simp [hy]
 · have := Int.mul_pos hx hy; have h7 : ¬ x.num < 0 := by omega
   have h8 : ¬ y.num < 0 := by omega
   simp [h7, h8]; omega
end Go.Proofs.YtalmflgkbmnghaaGreatDoor
namespace Go.Proofs.YtalmflgkbmnghaaGreatDoor
open Go.RowKit Tf
variable [ShLZ]
theorem ps_zero (x y : Bool) (u : Nat) : psS x y u 0 = x ∧ psN x y u 0 = u := by
 unfold psS psN; split <;> simp
theorem addV_zero (s1 : Bool) (n1 d1 : Nat) (s s' : Bool) (d2 : Nat) : addV s1 n1 d1 s 0 d2 = addV s1 n1 d1 s' 0 d2 := by
 unfold addV
 simp only [Nat.zero_mul, (ps_zero s1 s _).1, (ps_zero s1 s _).2, (ps_zero s1 s' _).1, (ps_zero s1 s' _).2]
theorem divV_rat (x y : Rat) (h0 : y.num ≠ 0) : mulV (decide (x.num < 0)) x.num.natAbs x.den (decide (y.num < 0)) y.den y.num.natAbs = fracV (x / y) := by
 have hn : (y⁻¹).num = y.num.sign * y.den := Rat.num_inv y
 have hd : (y⁻¹).den = y.num.natAbs := by rw [Rat.den_inv]; simp [h0]
 have h := mulV_rat x (y⁻¹)
 rw [hd, ← Rat.div_def] at h
 rw [← h, hn]
 have hp : 0 < (y.den : Int) := by have := y.den_pos; omega
 rcases Int.lt_trichotomy y.num 0 with hy | hy | hy
 · rw [Int.sign_eq_neg_one_of_neg hy]; congr 1
   · simp [hy]; omega
   · omega
 · exact absurd hy h0
 · rw [Int.sign_eq_one_of_pos hy]; congr 1
   · simp; omega
   · omega
end Go.Proofs.YtalmflgkbmnghaaGreatDoor
namespace Go.Proofs.YtalmflgkbmnghaaGreatDoor
open Go.RowKit Tf
variable [ShLZ]
variable [ShSt]
set_option maxRecDepth 100000 in
set_option maxHeartbeats 1000000 in
theorem ratioF_walk (x : Int) (y : Int) (s : Bool) (n d : Nat) (te : Int) (HR : Hid (∀ W, Calls Tryz.prog 37 #[.int .i64 x, .int .i64 y] W fun e w' => e = .returned (.tuple #[.agg (frcC s n d), .int .i64 te]) ∧ Below W.heap.size W w')) (w : World) :
   Calls Tryz.prog 11 #[.int .i64 x, .int .i64 y] w fun e w' => e = .returned (frc s n d) ∧ Below w.heap.size w w' := by
 unfold frc
 go_enter Tryz.func11, Tryz.ntmps11
 go_upto_region 1 with (fail)
 have hK := KS.one w (.cells (frcC false 0 0) 25)
 obtain ⟨W, hW⟩ : ∃ W, W = w.alloc (.cells (frcC false 0 0) 25) := ⟨_, rfl⟩
 rw [← hW] at hK
 rw [frc_zero] at hW
 rw [← hW]
 clear hW
 have HK := Lib.hid hK
 clear hK
 go_upto_region 2 with (first
   | ((go_at_call 37); (with_reducible refine (HR.out _).mono ?_); rintro e w1 ⟨rfl, hb1⟩; have HK1 := Lib.hid (HK.out.below hb1); clear hb1)
   | (refine wpList_stf (neg := s) (n := n) (d := d) (neg' := false) (n' := 0) (d' := 0) rfl rfl rfl rfl (by rw [frc_zero]; exact heap1 w1 _) size27 ?_))
 have HK2 := Lib.hid (HK1.out.newvar (cs := frcC false 0 0) (cs' := frcC s n d) (t := 25))
 have k_g := HK1.out.fresh.1
 rw [← frc_zero]
 generalize (w1.alloc (.cells (frcC false 0 0) 25)).setRow w1.heap.size (frcC s n d) = W2 at *
 generalize w1.heap.size = g at *
 clear HK1 HK
 go_wp2_with (first
   | (refine wpList_ldf rfl rfl rfl (HK2.out.2 _ Tw.m0) Tryz.underlying25 rfl size27 ?_)
   | (refine wpList_stf (neg := s) (n := n) (d := d) (neg' := false) (n' := 0) (d' := 0) rfl rfl rfl rfl (HK2.out.2 _ Tw.m1) size27 ?_))
 exact bodyPost_ret (res_cell rfl rfl (setRow_heap _ _ _ _ _ _ (HK2.out.2 _ Tw.m1)) Tryz.underlying25 rfl (by rw [size27, frcC_size])) rfl ⟨rfl, below_setRow HK2.out.1 Tw.om _⟩
def qS (a b : Int) : Bool := decide (a ≠ 0) && (decide (a < 0) != decide (b < 0))
def qN (a b : Int) : Nat := a.natAbs / Nat.gcd a.natAbs b.natAbs
def qD (a b : Int) : Nat := b.natAbs / Nat.gcd a.natAbs b.natAbs
theorem ratioF_any (a b : Int) (a1 : -9223372036854775808 ≤ a) (a2 : a ≤ 9223372036854775807) (b1 : -9223372036854775808 ≤ b) (b2 : b ≤ 9223372036854775807) (hb : b ≠ 0) (w : World) :
   Calls Tryz.prog 11 #[.int .i64 a, .int .i64 b] w fun e w' => e = .returned (frc (qS a b) (qN a b) (qD a b)) ∧ Below w.heap.size w w' :=
 ratioF_walk a b _ _ _ 0 (fun W => ratio_any a b a1 a2 b1 b2 hb W) w
end Go.Proofs.YtalmflgkbmnghaaGreatDoor
/- A region whose operations keep one fact about the world, whatever order is drawn (entries put into a map, calls that make memory), up to one last operation. Nothing of the program. -/
namespace Tf
open Go Go.RowKit
section
variable {P : Program} {ops : Array Oper} {Q : Exit → Act → World → Prop} {md : Region.Mode} {I : Nat → World → Prop} {m last : Nat}
def CB (P : Program) (ops : Array Oper) (I : Nat → World → Prop) (o : Oper) (v : Value) (a : Act) : Prop :=
 Region.wanted o (yielded ops a.tmps) = true ∧ ∀ k w, I (k + 1) w → Oto P o a.eval w (fun u w' => (o.dst = none ∨ u = v) ∧ I k w')
theorem CB.of_same {o : Oper} {v : Value} {a a' : Act} (hy : CB P ops I o v a) (he : execOp a'.eval o = execOp a.eval o)
   (hw : Region.wanted o (yielded ops a'.tmps) = Region.wanted o (yielded ops a.tmps)) : CB P ops I o v a' := by
 unfold CB Oto at *
 rw [he, hw]
 exact hy
def wpC (P : Program) (md : Region.Mode) (ops : Array Oper) (Q : Exit → Act → World → Prop) (I : Nat → World → Prop) (m last : Nat) : Nat → Array Bool → Act → Prop
 | 0, listed, a => Region.ready md ops listed = [last] ∧ ∀ w, I 0 w → wpAny P md ops Q m listed a w
 | k + 1, listed, a => Region.ready md ops listed ≠ [] ∧ ∀ i ∈ Region.ready md ops listed, ∃ o v, ops[i]? = some o ∧ CB P ops I o v a ∧ wpC P md ops Q I m last k (listed.setIfInBounds i true) (a.put o.dst v)
theorem put_none {a : Act} {u v : Value} {d : Option Nat} (h : d = none ∨ u = v) : a.put d u = a.put d v := by
 rcases h with rfl | rfl
 · rfl
 · rfl
theorem wpC_sound : ∀ (k : Nat) (listed : Array Bool) (a : Act), wpC P md ops Q I m last k listed a → ∀ w, I k w → wpAny P md ops Q (m + k) listed a w
 | 0, _, _, h, w, hw => h.2 w hw
 | k + 1, listed, a, h, w, hw => by
   refine ⟨fun hr => absurd hr h.1, fun i hi => ?_⟩
   obtain ⟨o, v, ho, hc, hu⟩ := h.2 i hi
   refine wpOp_step ho fun K' hK' => ?_
   rw [if_pos hc.1]
   exact (hc.2 k w hw).wp fun u w' ⟨huv, hi'⟩ => hK' _ _ (by rw [put_none huv]; exact wpC_sound k _ _ hu w' hi')
theorem wpC_first {i : Nat} {oi : Oper} {v : Value} (hi : ops[i]? = some oi) (hsel : ∀ (j : Nat) (o : Oper) cs b, ops[j]? = some o → o.op ≠ .select cs b) (hlast : ∃ q, waits md ops q last i = true) (hli : last ≠ i) :
   ∀ (k : Nat) (listed : Array Bool) (a : Act), closed md ops listed →
     (∀ j oj, ops[j]? = some oj → j ≠ i → listed.getD j true = false → (∀ e ∈ oj.after, Region.binds md e = true → e.on ≠ i) → oi.apart ops oj = true) →
     i ∈ Region.ready md ops listed → CB P ops I oi v a →
     wpC P md ops Q I m last k (listed.setIfInBounds i true) (a.put oi.dst v) → wpC P md ops Q I m last (k + 1) listed a := by
 intro k
 induction k with
 | zero =>
   intro listed a hcl _ hr hy H
   refine ⟨fun h => (by rw [h] at hr; cases hr), fun j hj => ?_⟩
   by_cases hji : j = i
   · subst hji
     exact ⟨oi, v, hi, hy, H⟩
   · have h1 := ready_mono hj hji
     rw [H.1] at h1
     cases List.mem_singleton.1 h1
     obtain ⟨q, hq⟩ := hlast
     obtain ⟨_, oj, hoj, hall⟩ := mem_ready.1 hj
     exact (not_waits hcl (unlisted_false (mem_ready.1 hr).1) q _ oj hoj hq hall).elim
 | succ k ih =>
   intro listed a hcl hfree hr hy H
   refine ⟨fun h => (by rw [h] at hr; cases hr), fun j hj => ?_⟩
   by_cases hji : j = i
   · subst hji
     exact ⟨oi, v, hi, hy, H⟩
   · obtain ⟨oj, u, hoj, hyj, hu⟩ := H.2 j (ready_mono hj hji)
     obtain ⟨hjun, oj', hoj', hall⟩ := mem_ready.1 hj
     rw [hoj] at hoj'
     cases hoj'
     have hiun := (mem_ready.1 hr).1
     have hnot : ∀ e ∈ oj.after, Region.binds md e = true → e.on ≠ i := fun e he hb heq => by
       have h1 := hall e he hb
       rw [heq, unlisted_false hiun] at h1
       cases h1
     have hap := hfree j oj hoj hji hjun hnot
     obtain ⟨h1, h2, h3⟩ := Oper.apart_spec hap
     have hfree' : ∀ k ok, ops[k]? = some ok → k ≠ i → (listed.setIfInBounds j true).getD k true = false →
         (∀ e ∈ ok.after, Region.binds md e = true → e.on ≠ i) → oi.apart ops ok = true := fun k ok hk hki hun hno => by
       refine hfree k ok hk hki ?_ hno
       by_cases hjk : j = k
       · subst hjk; exact hjun
       · rw [getD_set_ne true hjk] at hun; exact hun
     have hsi : ∀ cs b, oi.op ≠ .select cs b := fun cs b => hsel i oi cs b hi
     have hsj : ∀ cs b, oj.op ≠ .select cs b := fun cs b => hsel j oj cs b hoj
     have keep : CB P ops I oi v (a.put oj.dst u) := hy.of_same (execOp_put oi hsi a oj.dst u h3) (wanted_put oi a oj.dst u h3)
     have eqe : execOp (a.put oi.dst v).eval oj = execOp a.eval oj := execOp_put oj hsj a oi.dst v h1
     have eqw : Region.wanted oj (yielded ops (a.put oi.dst v).tmps) = Region.wanted oj (yielded ops a.tmps) := wanted_put oj a oi.dst v h1
     refine ⟨oj, u, hoj, hyj.of_same eqe.symm eqw.symm, ih _ _ (closed_set hcl hj) hfree' (ready_mono hr (Ne.symm hji)) keep ?_⟩
     rw [Array.setIfInBounds_comm _ _ hji, ← Act.put_comm a v u h2]
     exact hu
def freeC (md : Region.Mode) (ops : Array Oper) (listed : Array Bool) (last i : Nat) : Bool :=
 Region.noSelect ops && (Region.free md ops listed i && ((Region.ready md ops listed).contains i && (closedB md ops listed && (waits md ops 4 last i && last != i))))
theorem wpC_take {i k : Nat} {oi : Oper} {v : Value} {listed : Array Bool} {a : Act} (hi : ops[i]? = some oi) (hf : freeC md ops listed last i = true) (hy : CB P ops I oi v a)
   (h : wpC P md ops Q I m last k (listed.setIfInBounds i true) (a.put oi.dst v)) : wpC P md ops Q I m last (k + 1) listed a := by
 unfold freeC at hf
 simp only [Bool.and_eq_true, bne_iff_ne] at hf
 obtain ⟨h1, h2, h3, h4, h5, h6⟩ := hf
 exact wpC_first hi (Region.noSelect_spec h1) ⟨4, h5⟩ h6 k listed a (closed_of h4) (Region.free_spec hi h2) (by simpa using h3) hy h
theorem wpC_last {listed : Array Bool} {a : Act} (hr : Region.ready md ops listed = [last]) (h : ∀ w, I 0 w → wpAny P md ops Q m listed a w) : wpC P md ops Q I m last 0 listed a := ⟨hr, h⟩
end
end Tf
namespace Go.Proofs.YtalmflgkbmnghaaGreatDoor
open Go.RowKit Tf
variable [ShLZ]
variable [ShSt]
theorem ax_ratio (a b : Int) (s : Bool) (n d : Nat) (h : qS a b = s ∧ qN a b = n ∧ qD a b = d) (a1 : -9223372036854775808 ≤ a ∧ a ≤ 9223372036854775807 ∧ -9223372036854775808 ≤ b ∧ b ≤ 9223372036854775807 ∧ b ≠ 0) :
   Hid (∀ W, Calls Tryz.prog 11 #[.int .i64 a, .int .i64 b] W fun e w' => e = .returned (.agg (frcC s n d)) ∧ Below W.heap.size W w') := by
 intro W
 have := ratioF_any a b a1.1 a1.2.1 a1.2.2.1 a1.2.2.2.1 a1.2.2.2.2 W
 rw [h.1, h.2.1, h.2.2] at this
 exact this
theorem pack_c {neg : Bool} {n d : Nat} (hn : n < 4294967296) (hd : d < 4294967296) : packV neg n d = .tuple #[frc (neg && decide (n ≠ 0)) n d, .int .i64 0] := packV_yes (lt8 hn) (lt8 hd)
theorem ax_add : Hid (∀ W, Calls Tryz.prog 15 #[.agg (frcC false 1 6), .agg (frcC false 1 10)] W fun e w' => e = .returned (.tuple #[.agg (frcC false 4 15), .int .i64 0]) ∧ Below W.heap.size W w') := by
 intro W
 have := Add_any false false 1 6 1 10 (lt8 Tw.om) (lt8 Tw.om) (lt8 Tw.om) (lt8 Tw.om) W
 rw [show addV false 1 6 false 1 10 = packV false 4 15 from rfl, pack_c Tw.om Tw.om] at this
 exact this
theorem ax_sub : Hid (∀ W, Calls Tryz.prog 20 #[.agg (frcC false 1 6), .agg (frcC false 1 10)] W fun e w' => e = .returned (.tuple #[.agg (frcC false 1 15), .int .i64 0]) ∧ Below W.heap.size W w') := by
 intro W
 have := Sub_any false false 1 6 1 10 (lt8 Tw.om) (lt8 Tw.om) (lt8 Tw.om) (lt8 Tw.om) W
 rw [show addV false 1 6 (!false) 1 10 = packV false 1 15 from rfl, pack_c Tw.om Tw.om] at this
 exact this
theorem ax_mul : Hid (∀ W, Calls Tryz.prog 22 #[.agg (frcC false 1 6), .agg (frcC false 1 10)] W fun e w' => e = .returned (.tuple #[.agg (frcC false 1 60), .int .i64 0]) ∧ Below W.heap.size W w') := by
 intro W
 have := Mul_any false false 1 6 1 10 (lt8 Tw.om) (lt8 Tw.om) (lt8 Tw.om) (lt8 Tw.om) W
 rw [show mulV false 1 6 false 1 10 = packV false 1 60 from rfl, pack_c Tw.om Tw.om] at this
 exact this
theorem ax_div : Hid (∀ W, Calls Tryz.prog 24 #[.agg (frcC false 1 6), .agg (frcC false 1 10)] W fun e w' => e = .returned (.tuple #[.agg (frcC false 5 3), .int .i64 0]) ∧ Below W.heap.size W w') := by
 intro W
 have := Div_any false false 1 6 1 10 (lt8 Tw.om) (lt8 Tw.om) (lt8 Tw.om) (lt8 Tw.om) W
 rw [show mulV false 1 6 false 10 1 = packV false 5 3 from rfl, pack_c Tw.om Tw.om] at this
 exact this
theorem ax_floor1 : Hid (∀ W, Calls Tryz.prog 28 #[.agg (frcC true 3 2)] W fun e w' => e = .returned (.tuple #[.int .i64 (-2), .int .i64 0]) ∧ Below W.heap.size W w') := by
 intro W
 exact floor_any true 3 2 (lt8 Tw.om) (lt8 Tw.om) W
theorem ax_floor2 : Hid (∀ W, Calls Tryz.prog 28 #[.agg (frcC false 3 2)] W fun e w' => e = .returned (.tuple #[.int .i64 1, .int .i64 0]) ∧ Below W.heap.size W w') := by
 intro W
 exact floor_any false 3 2 (lt8 Tw.om) (lt8 Tw.om) W
theorem text32 : textL true 3 2 = [45, 51, 47, 50] := by
 unfold textL
 rw [dec_small Tw.om, dec_small Tw.om]
 rfl
theorem ax_text : Hid (∀ W, Env W → Calls Tryz.prog 30 #[.agg (frcC true 3 2)] W fun e w' => e = .returned (.tuple #[.string ⟨#[45, 51, 47, 50]⟩, .int .i64 0]) ∧ Below W.heap.size W w') := by
 intro W hW
 have := text_any true 3 2 (lt8 Tw.om) (lt8 Tw.om) W hW
 rw [if_pos (by rfl), text32] at this
 exact this


theorem readV_dig {l : List UInt8} (h : (digL (rCut l).1 && digL (rBelow l) && !(rBelow l == [48])) = false) : readV l = .tuple #[frc false 0 0, .int .i64 10] := by
 unfold readV
 rw [if_neg (fun hh => by rw [hh.1, hh.2.1, hh.2.2] at h; cases h)]
theorem readV_long {l : List UInt8} (h : (digL (rCut l).1 && digL (rBelow l) && !(rBelow l == [48])) = true) (h2 : (pOk (rCut l).1 && pOk (rBelow l)) = false) : readV l = .tuple #[frc false 0 0, .int .i64 3] := by
 simp only [Bool.and_eq_true, Bool.not_eq_true'] at h
 unfold readV
 rw [if_pos ⟨h.1.1, h.1.2, h.2⟩, if_neg (fun hh => by rw [hh.1, hh.2] at h2; cases h2)]
theorem readV_good {l : List UInt8} {neg : Bool} {x y : Nat} (h : (digL (rCut l).1 && digL (rBelow l) && !(rBelow l == [48])) = true) (h2 : (pOk (rCut l).1 && pOk (rBelow l)) = true) (h3 : rNeg l = neg ∧ pVal (rCut l).1 = x ∧ pVal (rBelow l) = y) :
   readV l = if rErr neg x y = 0 ∧ (rText neg x y == l) = true then .tuple #[frc neg x y, .int .i64 0] else .tuple #[frc false 0 0, .int .i64 11] := by
 simp only [Bool.and_eq_true, Bool.not_eq_true'] at h h2
 obtain ⟨rfl, rfl, rfl⟩ := h3
 unfold readV
 rw [if_pos ⟨h.1.1, h.1.2, h.2⟩, if_pos h2]
theorem read_err (l : List UInt8) (e : Int) (h : (l, e) ∈ L8) : readV l = .tuple #[frc false 0 0, .int .i64 e] := by
 unfold L8 at h
 simp only [List.mem_cons, Prod.mk.injEq, List.not_mem_nil, or_false] at h
 rcases h with ⟨rfl, rfl⟩ | ⟨rfl, rfl⟩ | ⟨rfl, rfl⟩ | ⟨rfl, rfl⟩ | ⟨rfl, rfl⟩ | ⟨rfl, rfl⟩ | ⟨rfl, rfl⟩ | ⟨rfl, rfl⟩
 · exact readV_dig (by decide +kernel)
 · exact readV_dig (by decide +kernel)
 · exact readV_dig (by decide +kernel)
 · exact readV_dig (by decide +kernel)
 · rw [readV_good (neg := false) (x := 2) (y := 4) (by decide +kernel) (by decide +kernel) (by decide +kernel), if_neg (fun h => absurd h.1 (by decide +kernel))]
 · rw [readV_good (neg := false) (x := 4) (y := 1) (by decide +kernel) (by decide +kernel) (by decide +kernel), if_neg]
   intro h
   have h2 := h.2
   unfold rText textL at h2
   rw [if_pos (by decide +kernel), dec_small Tw.om] at h2
   revert h2
   decide +kernel
 · rw [readV_good (neg := true) (x := 0) (y := 1) (by decide +kernel) (by decide +kernel) (by decide +kernel), if_neg (fun h => absurd h.1 (by decide +kernel))]
 · exact readV_long (by decide +kernel) (by decide +kernel)
theorem read_32 : readV [45, 51, 47, 50] = .tuple #[frc true 3 2, .int .i64 0] := by
 rw [readV_good (neg := true) (x := 3) (y := 2) (by decide +kernel) (by decide +kernel) (by decide +kernel), if_pos]
 refine ⟨by decide +kernel, ?_⟩
 unfold rText
 rw [if_pos (by decide +kernel), text32]
 rfl
end Go.Proofs.YtalmflgkbmnghaaGreatDoor
/- A map of texts and numbers that is filled in a region, in whatever order: what it holds comes of a list. Nothing of the program. -/
namespace Tf
open Go Go.RowKit Go.Maps
section
variable {P : Program} {ops : Array Oper} {Q : Exit → Act → World → Prop} {md : Region.Mode} {m last : Nat} {w0 : World}
def SubD (L : List (List UInt8 × Int)) (D : DataW Unit) : Prop := ∀ kl, Maps.has D kl = true → ∃ p ∈ L, kl = .string p.1 ∧ ∀ zd, D.atKey kl zd = .lit (.int .i64 p.2)
theorem SubD.put {L : List (List UInt8 × Int)} {D : DataW Unit} (h : SubD L D) (hD : IsMap D) {l : List UInt8} {e : Int} (hm : (l, e) ∈ L) : SubD L (D.put (.string l) (.lit (.int .i64 e))) := by
 intro kl hk
 by_cases he : kl = .string l
 · subst he
   exact ⟨(l, e), hm, rfl, fun zd => atKey_put_same hD (show WideAt.IsKeyLit (.string l) from trivial) _ zd⟩
 · rw [has_put_other he] at hk
   obtain ⟨p, hp, h1, h2⟩ := h kl hk
   exact ⟨p, hp, h1, fun zd => by rw [atKey_put_other he]; exact h2 zd⟩
def MapI (P : Program) (kt et : TypeId) (L : List (List UInt8 × Int)) (w0 : World) (b : Nat) (k : Nat) (W : World) : Prop :=
 KS w0 [] W ∧ w0.heap.size ≤ b ∧ ∃ n D, n + k ≤ 100 ∧ W.ownsMap P kt (plainElem (H := Unit) P et) b n D ∧ SubD L D
variable {kt et t : TypeId} {L : List (List UInt8 × Int)} {b : Nat}
theorem grown_of_below {w w' : World} (h : Below w.heap.size w w') (row : Option Nat) : w.grownBy w' row := ⟨h.os, h.tape, h.output, h.size, fun k hk _ => h.block k hk⟩
theorem MapI.below {k : Nat} {W W' : World} (h : MapI P kt et L w0 b (k + 1) W) (hb : Below W.heap.size W W') : MapI P kt et L w0 b k W' := by
 obtain ⟨h1, h2, n, D, h3, h4, h5⟩ := h
 exact ⟨h1.below hb, h2, n, D, by omega, h4.kept (grown_of_below hb none) (by simp), h5⟩
theorem MapI.start {k : Nat} {W : World} (h : KS w0 [] W) (hk : k ≤ 100) : MapI P kt et L w0 W.heap.size k (W.alloc (.map #[] 0)) :=
 ⟨(h.alloc (.map #[] 0)).tail, h.1.size, 0, .map [], by omega, World.ownsMap_made W P kt _, fun kl hk => by simp [Maps.has] at hk⟩
theorem MapI.insert {k : Nat} {W : World} (h : MapI P kt et L w0 b (k + 1) W) (hkt : P.underlying kt = some .string) (het : P.underlying et = some (.int .i64)) (ht : P.underlying t = some (.map kt et)) {l : List UInt8} {e : Int} (hm : (l, e) ∈ L)
   (hl : l.length ≤ 1000) (he : (Lit.int .i64 e).wf = true) :
   ∃ W', (Instr.mapUpdate t (.map (some b)) (.string ⟨l.toArray⟩) (.int .i64 e)).run P W = .ok () W' ∧ MapI P kt et L w0 b k W' := by
 obtain ⟨h1, h2, n, D, h3, h4, h5⟩ := h
 have K := string_keyed hkt
 have hkey : keyOf P kt (.string ⟨l.toArray⟩) = some (.string l) := by
   have := WideMaps.keyOf_string_mk (P := P) (k := kt) (s := ⟨l.toArray⟩) hkt (by show l.toArray.size ≤ maxLen; simp; unfold maxLen; omega)
   simpa using this
 obtain ⟨W', hrun, ho, hg⟩ := h4.update K ht (by unfold maxLen; omega) hkey (plainElem_int het he)
 obtain ⟨es, hD, _⟩ := h4.entries K
 refine ⟨W', hrun, ⟨⟨h1.1.grown hg h1.1.size (fun j hj => by cases hj; exact h2), fun _ h => by cases h⟩, h2, n + 1, _, by omega, ho, h5.put ⟨es, hD⟩ hm⟩⟩
theorem Oto.of_run {o : Oper} {ρ : Operand → Value} {w w' : World} {v : Value} {R : Value → World → Prop} (h : (execOp ρ o).run P w = .ok (.value v) w') (hR : R v w') : Oto P o ρ w R := by
 unfold Oto; rw [h]; exact hR
theorem Oto.of_skip {o : Oper} {ρ : Operand → Value} {w w' : World} {R : Value → World → Prop} (h : (execOp ρ o).run P w = .ok .skip w') (hR : R undef w') : Oto P o ρ w R := by
 unfold Oto; rw [h]; exact hR
theorem Oto.of_call {o : Oper} {ρ : Operand → Value} {w : World} {f : FuncId} {args : Array Value} {R : Value → World → Prop} (h : (execOp ρ o).run P w = .ok (.enter f args) w) {v : Value}
   (hc : Calls P f args w fun e w' => e = .returned v ∧ Below w.heap.size w w') (hR : ∀ w', Below w.heap.size w w' → R v w') : Oto P o ρ w R := by
 unfold Oto; rw [h]
 exact hc.mono fun e w' ⟨he, hb⟩ => ⟨v, he, hR w' hb⟩
theorem wpC_i {i k : Nat} {oi : Oper} {l : List UInt8} {e : Int} {mo ko xo : Operand} {listed : Array Bool} {tm : Array Value} {df : List Deferred}
   (hkt : P.underlying kt = some .string) (het : P.underlying et = some (.int .i64)) (ht : P.underlying t = some (.map kt et)) (hm : (l, e) ∈ L) (hl : l.length ≤ 1000) (he : (Lit.int .i64 e).wf = true)
   (hi : ops[i]? = some oi) (ho : oi.op = .insert t mo ko xo) (hd : oi.dst = none) (hf : freeC md ops listed last i = true) (hw : Region.wanted oi (yielded ops tm) = true)
   (hmo : Act.eval ⟨tm, df⟩ mo = .map (some b)) (hko : Act.eval ⟨tm, df⟩ ko = .string ⟨l.toArray⟩) (hxo : Act.eval ⟨tm, df⟩ xo = .int .i64 e)
   (h : wpC P md ops Q (MapI P kt et L w0 b) m last k (listed.setIfInBounds i true) ⟨tm, df⟩) : wpC P md ops Q (MapI P kt et L w0 b) m last (k + 1) listed ⟨tm, df⟩ := by
 refine wpC_take (v := undef) hi hf ⟨hw, fun j W hW => ?_⟩ ?_
 · obtain ⟨W', hrun, hI⟩ := hW.insert (t := t) hkt het ht hm hl he
   refine Oto.of_skip (w' := W') ?_ ⟨.inl hd, hI⟩
   unfold execOp
   rw [ho]
   simp only [hmo, hko, hxo]
   rw [Sem.run_bind, hrun]
   rfl
 · rw [hd]; exact h
theorem wpC_v {i k d : Nat} {oi : Oper} {v : Value} {listed : Array Bool} {tm T : Array Value} {df : List Deferred}
   (hi : ops[i]? = some oi) (hd : oi.dst = some d) (hf : freeC md ops listed last i = true) (hw : Region.wanted oi (yielded ops tm) = true)
   (hr : ∀ w, (execOp (Act.eval ⟨tm, df⟩) oi).run P w = .ok (.value v) w) (hT : tm.setIfInBounds d v = T)
   (h : wpC P md ops Q (MapI P kt et L w0 b) m last k (listed.setIfInBounds i true) ⟨T, df⟩) : wpC P md ops Q (MapI P kt et L w0 b) m last (k + 1) listed ⟨tm, df⟩ := by
 refine wpC_take (v := v) hi hf ⟨hw, fun j W hW => Oto.of_run (hr W) ⟨.inr rfl, hW.below (Below.refl _ _)⟩⟩ ?_
 rw [hd]; subst hT; exact h
theorem wpC_c {i k d : Nat} {oi : Oper} {v : Value} {f : FuncId} {args : Array Value} {listed : Array Bool} {tm T : Array Value} {df : List Deferred}
   (hi : ops[i]? = some oi) (hd : oi.dst = some d) (hf : freeC md ops listed last i = true) (hw : Region.wanted oi (yielded ops tm) = true)
   (hr : ∀ w, (execOp (Act.eval ⟨tm, df⟩) oi).run P w = .ok (.enter f args) w) (hc : ∀ w, Calls P f args w fun e w' => e = .returned v ∧ Below w.heap.size w w') (hT : tm.setIfInBounds d v = T)
   (h : wpC P md ops Q (MapI P kt et L w0 b) m last k (listed.setIfInBounds i true) ⟨T, df⟩) : wpC P md ops Q (MapI P kt et L w0 b) m last (k + 1) listed ⟨tm, df⟩ := by
 refine wpC_take (v := v) hi hf ⟨hw, fun j W hW => Oto.of_call (hr W) (hc W) fun w' hb => ⟨.inr rfl, hW.below hb⟩⟩ ?_
 rw [hd]; subst hT; exact h
theorem wpAny_all {rs : List Nat} {n : Nat} {listed : Array Bool} {a : Act} {w : World} (hr : Region.ready md ops listed = rs) (hne : rs ≠ [])
   (h : ∀ i ∈ rs, ∃ o, ops[i]? = some o ∧ Region.wanted o (yielded ops a.tmps) = true ∧ Oto P o a.eval w (fun u w' => wpAny P md ops Q n (listed.setIfInBounds i true) (a.put o.dst u) w')) : wpAny P md ops Q (n + 1) listed a w := by
 subst hr
 refine ⟨fun h0 => absurd h0 hne, fun i hi => ?_⟩
 obtain ⟨o, ho, hw, hc⟩ := h i hi
 refine wpOp_step ho fun K' hK' => ?_
 rw [if_pos hw]
 exact hc.wp fun u w' hu => hK' _ _ hu
theorem wpC_r {d : Nat} {oi : Oper} {mo : Operand} {listed : Array Bool} {tm : Array Value} {df : List Deferred} (hkt : P.underlying kt = some .string) (ht : P.underlying t = some (.map kt et))
   (hi : ops[last]? = some oi) (ho : oi.op = .range t mo) (hd : oi.dst = some d) (hr : Region.ready md ops listed = [last]) (hr2 : Region.ready md ops (listed.setIfInBounds last true) = []) (hw : Region.wanted oi (yielded ops tm) = true)
   (hmo : Act.eval ⟨tm, df⟩ mo = .map (some b))
   (h : ∀ r n D cnt W, w0.heap.size ≤ r → KS w0 [] W → SubD L D → W.ranges P kt (plainElem (H := Unit) P et) b r n D (Maps.has D) cnt → Q .normal ⟨tm.setIfInBounds d (.pointer (some ⟨r, 0, none⟩)), df⟩ W) :
   wpC P md ops Q (MapI P kt et L w0 b) 1 last 0 listed ⟨tm, df⟩ := by
 refine wpC_last hr fun W hW => wpAny_all hr (by simp) fun i hi' => ?_
 cases List.mem_singleton.1 hi'
 refine ⟨oi, hi, hw, ?_⟩
 obtain ⟨h1, h2, n, D, h3, h4, h5⟩ := hW
 obtain ⟨W', hrun, hrg, hg, hs⟩ := h4.range (string_keyed hkt) ht
 refine Oto.of_run (w' := W') (v := .pointer (some ⟨W.heap.size, 0, none⟩)) ?_ ⟨hr2, ?_⟩
 · unfold execOp
   rw [ho]
   simp only [hmo]
   rw [Sem.run_bind, hrun]
   rfl
 · rw [hd]
   exact h W.heap.size n D _ W' h1.1.size ⟨h1.1.grown hg h1.1.size (fun j hj => by cases hj), fun _ h => by cases h⟩ h5 hrg
theorem wp_region_fin {id : Nat} {a : Act} {w : World} {F : Nat → Nat → World → Prop} (vs : Nat → Nat → List (Nat × Value)) (hm : P.follows .mixedOrders = true)
   (h1 : ∀ Q' : Exit → Act → World → Prop, (∀ b r W, F b r W → Q' .normal ((vs b r).foldl (fun a p => a.put (some p.1) p.2) a) W) → wpAny P .any ops Q' ops.size (Array.replicate ops.size false) a w.drew)
   (h2 : ∀ b r W, F b r W → Q .normal ((vs b r).foldl (fun a p => a.put (some p.1) p.2) a) W) : (Code.region id ops true).wp P Q a w :=
 wp_region_any hm (h1 Q h2)
end
end Tf
/- A range over a map of texts and numbers: what comes stands on the list. Nothing of the program. -/
namespace Tf
open Go Go.RowKit Go.Maps
theorem keyOf_string_inv {P : Program} {k : TypeId} (hk : P.underlying k = some .string) {key : Value} {kl : Lit} (h : keyOf P k key = some kl) : ∃ l : List UInt8, key = .string ⟨l.toArray⟩ ∧ kl = .string l := by
 cases key <;> simp [keyOf, hk, mapKey] at h
 rename_i s
 obtain ⟨_, rfl⟩ := h
 refine ⟨s.data.toList, ?_, ?_⟩
 · cases s; simp
 · simp
def strV (l : List UInt8) : Value := .string ⟨l.toArray⟩
theorem strV_inj {l l' : List UInt8} (h : strV l = strV l') : l = l' := by
 unfold strV at h
 simpa using h
theorem next_item {P : Program} {kt et : TypeId} {L : List (List UInt8 × Int)} {D : DataW Unit} (hS : SubD L D) (hkt : P.underlying kt = some .string) (het : P.underlying et = some (.int .i64)) {l : List UInt8} {c : Int} {kl : Lit} {y : DataW Unit × List MemPlace}
   (hkey : keyOf P kt (strV l) = some kl) (hhas : Maps.has D kl = true) (hy : plainElem P et (.int .i64 c) = some y) (hat : ∀ zd, D.atKey kl zd = y.1) : (l, c) ∈ L := by
 obtain ⟨p, hp, h1, h2⟩ := hS kl hhas
 obtain ⟨l', e1, e2⟩ := keyOf_string_inv hkt hkey
 have e3 : l = l' := strV_inj e1
 subst e3
 rw [e2] at h1
 have e4 : l = p.1 := by simpa using h1
 obtain ⟨a, ha, hz, _⟩ := plainElem_int_inv het hy
 have e5 : c = a := by simpa using ha
 have h3 := hat (.lit (.int .i64 0))
 rw [h2, hz] at h3
 have e6 : p.2 = a := by simpa using h3
 have : p = (l, c) := Prod.ext e4.symm (e6.trans e5.symm)
 rw [← this]; exact hp
theorem wpList_next_L {P : Program} {ops : Array Oper} {rest : List Oper} {o : Oper} {a : Act} {Q : Exit → Act → World → Prop} (w : World) (hg : o.guard = none) (it : Operand) (hop : o.op = Op.next it false) {kt et : TypeId} (hkt : P.underlying kt = some .string) (het : P.underlying et = some (.int .i64))
   {L : List (List UInt8 × Int)} {b r n : Nat} {D : DataW Unit} {left : Lit → Bool} {cnt : Nat} (hS : SubD L D) (hit : a.eval it = .pointer (some ⟨r, 0, none⟩)) (h : w.ranges P kt (plainElem (H := Unit) P et) b r n D left cnt)
   (hl : ∀ kl, left kl = true → Maps.has D kl = true)
   (hDone : wpList P ops Q rest (a.put o.dst (.tuple #[.bool false])) w)
   (hMore : ∀ (l : List UInt8) (c : Int) (w' : World) (left' : Lit → Bool) (cnt' : Nat), (l, c) ∈ L → w'.ranges P kt (plainElem (H := Unit) P et) b r n D left' cnt' → (∀ kl, left' kl = true → Maps.has D kl = true) → cnt' < cnt →
     w.grownBy w' (some r) → w'.heap.size = w.heap.size → (Instr.entry (.pointer (some ⟨r, 0, none⟩))).run P w' = .ok (.tuple #[strV l, .int .i64 c]) w' → wpList P ops Q rest (a.put o.dst (.tuple #[.bool true, strV l, .int .i64 c])) w') :
   wpList P ops Q (o :: rest) a w := by
 refine wpList_next_ranges w hg it hop kt (string_keyed hkt) (plainElem P et) strV (Value.int .i64) (fun key kl hk => ?_) (fun v y hv => ?_) b r n D left cnt hit h (fun _ _ => hDone) ?_
 · obtain ⟨l, e, _⟩ := keyOf_string_inv hkt hk; exact ⟨l, e⟩
 · obtain ⟨c, e, _⟩ := plainElem_int_inv het hv; exact ⟨c, e⟩
 · intro l c kl y w' cnt' hkey hlk hy hat hrg hlt hgr hsz hen
   exact hMore l c w' _ cnt' (next_item hS hkt het hkey (hl kl hlk) hy hat) hrg (fun z hz => hl z (by simp only [Bool.and_eq_true] at hz; exact hz.1)) hlt hgr hsz hen
theorem wpAny_step2 {P : Program} {md : Region.Mode} {ops : Array Oper} {Q : Exit → Act → World → Prop} {rs : List Nat} {n : Nat} {listed : Array Bool} {tm : Array Value} {df : List Deferred} {w : World} (hr : Region.ready md ops listed = rs) (hne : rs ≠ [])
   (h : ∀ i ∈ rs, ∃ (o : Oper) (d : Nat), ops[i]? = some o ∧ o.dst = some d ∧ Region.wanted o (yielded ops tm) = true ∧ Oto P o (Act.eval ⟨tm, df⟩) w (fun u w' => wpAny P md ops Q n (listed.setIfInBounds i true) ⟨tm.setIfInBounds d u, df⟩ w')) :
   wpAny P md ops Q (n + 1) listed ⟨tm, df⟩ w := by
 refine Tf.wpAny_all hr hne fun i hi => ?_
 obtain ⟨o, d, h1, h2, h3, h4⟩ := h i hi
 refine ⟨o, h1, h3, ?_⟩
 rw [h2]
 exact h4
def RgL (P : Program) (kt et : TypeId) (D : DataW Unit) (b r n : Nat) (w0 wr : World) : Prop :=
 ∃ left cnt, wr.ranges P kt (plainElem (H := Unit) P et) b r n D left cnt ∧ (∀ kl, left kl = true → Maps.has D kl = true) ∧ KS w0 [] wr
end Tf
namespace Go.Proofs.YtalmflgkbmnghaaGreatDoor
open Go.RowKit Tf
theorem ba_app' (a b : List UInt8) : (⟨a.toArray⟩ : ByteArray) ++ ⟨b.toArray⟩ = ⟨(a ++ b).toArray⟩ := by
 apply ByteArray.ext
 rw [ByteArray.data_append]
 simp
theorem run_cat {x y : Operand} (w : World) : (do eqGuard .add 9 x y (.string ⟨#[49]⟩) R78; binOp .add 9 (.string ⟨#[49]⟩) R78 : Sem Value).run Tryz.prog w = .ok S79 w := by
 unfold R78 S79
 have h : ¬ 9223372036854775807 < 1 + (Lib.repeatL [48] 78).length := by rw [Lib.repeatL_length]; simp
 go_simp
 exact ba_app' [49] _
set_option maxRecDepth 100000 in
set_option maxHeartbeats 8000000 in
theorem awake_walk (w : World)
   (HR0 : Hid (∀ W, Calls Tryz.prog 11 #[.int .i64 1, .int .i64 6] W fun e w' => e = .returned (.agg (frcC false 1 6)) ∧ Below W.heap.size W w'))
   (HR1 : Hid (∀ W, Calls Tryz.prog 11 #[.int .i64 1, .int .i64 10] W fun e w' => e = .returned (.agg (frcC false 1 10)) ∧ Below W.heap.size W w'))
   (HR2 : Hid (∀ W, Calls Tryz.prog 11 #[.int .i64 6, .int .i64 (-4)] W fun e w' => e = .returned (.agg (frcC true 3 2)) ∧ Below W.heap.size W w'))
   (HR3 : Hid (∀ W, Calls Tryz.prog 11 #[.int .i64 (-3), .int .i64 2] W fun e w' => e = .returned (.agg (frcC true 3 2)) ∧ Below W.heap.size W w'))
   (HR4 : Hid (∀ W, Calls Tryz.prog 11 #[.int .i64 3, .int .i64 2] W fun e w' => e = .returned (.agg (frcC false 3 2)) ∧ Below W.heap.size W w'))
   (HR5 : Hid (∀ W, Calls Tryz.prog 11 #[.int .i64 4, .int .i64 15] W fun e w' => e = .returned (.agg (frcC false 4 15)) ∧ Below W.heap.size W w'))
   (HR6 : Hid (∀ W, Calls Tryz.prog 11 #[.int .i64 1, .int .i64 15] W fun e w' => e = .returned (.agg (frcC false 1 15)) ∧ Below W.heap.size W w'))
   (HR7 : Hid (∀ W, Calls Tryz.prog 11 #[.int .i64 1, .int .i64 60] W fun e w' => e = .returned (.agg (frcC false 1 60)) ∧ Below W.heap.size W w'))
   (HR8 : Hid (∀ W, Calls Tryz.prog 11 #[.int .i64 5, .int .i64 3] W fun e w' => e = .returned (.agg (frcC false 5 3)) ∧ Below W.heap.size W w'))
   (HAd : Hid (∀ W, Calls Tryz.prog 15 #[.agg (frcC false 1 6), .agg (frcC false 1 10)] W fun e w' => e = .returned (.tuple #[.agg (frcC false 4 15), .int .i64 0]) ∧ Below W.heap.size W w'))
   (HSu : Hid (∀ W, Calls Tryz.prog 20 #[.agg (frcC false 1 6), .agg (frcC false 1 10)] W fun e w' => e = .returned (.tuple #[.agg (frcC false 1 15), .int .i64 0]) ∧ Below W.heap.size W w'))
   (HMu : Hid (∀ W, Calls Tryz.prog 22 #[.agg (frcC false 1 6), .agg (frcC false 1 10)] W fun e w' => e = .returned (.tuple #[.agg (frcC false 1 60), .int .i64 0]) ∧ Below W.heap.size W w'))
   (HDi : Hid (∀ W, Calls Tryz.prog 24 #[.agg (frcC false 1 6), .agg (frcC false 1 10)] W fun e w' => e = .returned (.tuple #[.agg (frcC false 5 3), .int .i64 0]) ∧ Below W.heap.size W w'))
   (HF1 : Hid (∀ W, Calls Tryz.prog 28 #[.agg (frcC true 3 2)] W fun e w' => e = .returned (.tuple #[.int .i64 (-2), .int .i64 0]) ∧ Below W.heap.size W w'))
   (HF2 : Hid (∀ W, Calls Tryz.prog 28 #[.agg (frcC false 3 2)] W fun e w' => e = .returned (.tuple #[.int .i64 1, .int .i64 0]) ∧ Below W.heap.size W w'))
   (HTx : Hid (∀ W, Below w.heap.size w W → Calls Tryz.prog 30 #[.agg (frcC true 3 2)] W fun e w' => e = .returned (.tuple #[.string ⟨#[45, 51, 47, 50]⟩, .int .i64 0]) ∧ Below W.heap.size W w'))
   (HRd : Hid (∀ W, Below w.heap.size w W → Calls Tryz.prog 33 #[.string ⟨#[45, 51, 47, 50]⟩] W fun e w' => e = .returned (.tuple #[.agg (frcC true 3 2), .int .i64 0]) ∧ Below W.heap.size W w'))
   (HRp : ∀ W, Calls Tryz.prog 32 #[.string ⟨#[48]⟩, .int .i64 78] W fun e w' => e = .returned R78 ∧ Below W.heap.size W w')
   (HRc : Hid (∀ l e, (l, e) ∈ L8 → ∀ W, Below w.heap.size w W → Calls Tryz.prog 33 #[strV l] W fun x w' => x = .returned (.tuple #[.agg (frcC false 0 0), .int .i64 e]) ∧ Below W.heap.size W w')) :
   Calls Tryz.prog 8 #[] w fun e w' => e = .returned (.bool true) ∧ Below w.heap.size w w' := by
 go_enter Tryz.func8, Tryz.ntmps8
 refine wp_seq ?_
 refine wp_region_L [] (KS.start w) ?_
 refine wpL_p (v := .bool false) rfl Tw.kr rfl Tw.kf Tw.pu ?_
 refine wpL_done (fun W1 hW1 => ?_)
 change Code.wp ..
 refine wp_seq ?_
 refine wp_region_L _ hW1 ?_
 refine wpL_v (v := .agg (frcC false 1 6)) rfl Tw.kr rfl (yb_call (f := 11) (args := #[.int .i64 1, .int .i64 6]) Tw.kf fun W hW => HR0.out W) Tw.pu ?_
 refine wpL_v (v := .agg (frcC false 1 10)) rfl Tw.kr rfl (yb_call (f := 11) (args := #[.int .i64 1, .int .i64 10]) Tw.kf fun W hW => HR1.out W) Tw.pu ?_
 refine wpL_new (fun g => .pointer (some ⟨g, 0, none⟩)) (obi := .cells (frcC false 0 0) 25 (0, 0)) rfl rfl (fun _ => by rw [frc_zero]; rfl) Tw.pf fun g1 Bg1 Fg1 => ?_
 try simp only [List.forall_mem_cons] at Fg1
 refine wpL_new (fun g => .pointer (some ⟨g, 0, none⟩)) (obi := .cells (frcC false 0 0) 25 (0, 0)) rfl rfl (fun _ => by rw [frc_zero]; rfl) Tw.pf fun g2 Bg2 Fg2 => ?_
 try simp only [List.forall_mem_cons] at Fg2
 refine wpL_s [(g2, .cells (frcC false 0 0) 25 (0, 0)), (g1, .cells (frcC false 1 6) 25 (0, 0))] rfl rfl (st_f (neg := false) (n := 1) (d := 6) rfl Tw.kr Tw.kr Tw.m1 Tw.om size27 (by intro p hp; simp only [List.mem_cons, List.not_mem_nil, or_false] at hp; rcases hp with rfl | rfl; exact .inr ⟨by simp, by simp only; omega⟩; exact .inl rfl)) ?_
 refine wpL_s [(g2, .cells (frcC false 1 10) 25 (0, 0)), (g1, .cells (frcC false 1 6) 25 (0, 0))] rfl rfl (st_f (neg := false) (n := 1) (d := 10) rfl Tw.kr Tw.kr Tw.m0 Tw.om size27 (by intro p hp; simp only [List.mem_cons, List.not_mem_nil, or_false] at hp; rcases hp with rfl | rfl; exact .inl rfl; exact .inr ⟨by simp, by simp only; omega⟩)) ?_
 refine wpL_done (fun W2 hW2 => ?_)
 clear hW1
 change Code.wp ..
 refine wp_seq ?_
 refine wp_region_L _ hW2 ?_
 refine wpL_v (v := .agg (frcC false 1 6)) rfl Tw.kr rfl (yb_load rfl Tw.kr Tw.m1 Tryz.underlying25 rfl size27 (by simp) (frc_whole false 1 6)) Tw.pu ?_
 refine wpL_v (v := .agg (frcC false 1 10)) rfl Tw.kr rfl (yb_load rfl Tw.kr Tw.m0 Tryz.underlying25 rfl size27 (by simp) (frc_whole false 1 10)) Tw.pu ?_
 refine wpL_v (v := .tuple #[.agg (frcC false 4 15), .int .i64 0]) rfl Tw.kr rfl (yb_call (f := 15) (args := #[.agg (frcC false 1 6), .agg (frcC false 1 10)]) Tw.kf fun W hW => HAd.out W) Tw.pu ?_
 refine wpL_p (v := .tuple #[.agg (frcC false 4 15), .int .i64 0]) rfl Tw.kr rfl Tw.kf Tw.pu ?_
 refine wpL_p (v := .agg (frcC false 4 15)) rfl Tw.kr rfl Tw.kf Tw.pu ?_
 refine wpL_p (v := .int .i64 0) rfl Tw.kr rfl Tw.kf Tw.pu ?_
 refine wpL_new (fun g => .pointer (some ⟨g, 0, none⟩)) (obi := .cells (frcC false 0 0) 25 (0, 0)) rfl rfl (fun _ => by rw [frc_zero]; rfl) Tw.pf fun g3 Bg3 Fg3 => ?_
 try simp only [List.forall_mem_cons] at Fg3
 refine wpL_s [(g3, .cells (frcC false 4 15) 25 (0, 0)), (g2, .cells (frcC false 1 10) 25 (0, 0)), (g1, .cells (frcC false 1 6) 25 (0, 0))] rfl rfl (st_f (neg := false) (n := 4) (d := 15) rfl Tw.kr Tw.kr Tw.m0 Tw.om size27 (by intro p hp; simp only [List.mem_cons, List.not_mem_nil, or_false] at hp; rcases hp with rfl | rfl | rfl; exact .inl rfl; exact .inr ⟨by simp, by simp only; omega⟩; exact .inr ⟨by simp, by simp only; omega⟩)) ?_
 refine wpL_p (v := .int .i64 0) rfl Tw.kr rfl Tw.kf Tw.pu ?_
 refine wpL_done (fun W3 hW3 => ?_)
 clear hW2
 change Code.wp ..
 refine wp_seq ?_
 refine wp_region_L _ hW3 ?_
 refine wpL_v (v := .agg (frcC false 1 6)) rfl Tw.kr rfl (yb_load rfl Tw.kr Tw.m2 Tryz.underlying25 rfl size27 (by simp) (frc_whole false 1 6)) Tw.pu ?_
 refine wpL_v (v := .agg (frcC false 1 10)) rfl Tw.kr rfl (yb_load rfl Tw.kr Tw.m1 Tryz.underlying25 rfl size27 (by simp) (frc_whole false 1 10)) Tw.pu ?_
 refine wpL_v (v := .tuple #[.agg (frcC false 1 15), .int .i64 0]) rfl Tw.kr rfl (yb_call (f := 20) (args := #[.agg (frcC false 1 6), .agg (frcC false 1 10)]) Tw.kf fun W hW => HSu.out W) Tw.pu ?_
 refine wpL_p (v := .tuple #[.agg (frcC false 1 15), .int .i64 0]) rfl Tw.kr rfl Tw.kf Tw.pu ?_
 refine wpL_p (v := .agg (frcC false 1 15)) rfl Tw.kr rfl Tw.kf Tw.pu ?_
 refine wpL_p (v := .int .i64 0) rfl Tw.kr rfl Tw.kf Tw.pu ?_
 refine wpL_new (fun g => .pointer (some ⟨g, 0, none⟩)) (obi := .cells (frcC false 0 0) 25 (0, 0)) rfl rfl (fun _ => by rw [frc_zero]; rfl) Tw.pf fun g4 Bg4 Fg4 => ?_
 try simp only [List.forall_mem_cons] at Fg4
 refine wpL_s [(g4, .cells (frcC false 1 15) 25 (0, 0)), (g3, .cells (frcC false 4 15) 25 (0, 0)), (g2, .cells (frcC false 1 10) 25 (0, 0)), (g1, .cells (frcC false 1 6) 25 (0, 0))] rfl rfl (st_f (neg := false) (n := 1) (d := 15) rfl Tw.kr Tw.kr Tw.m0 Tw.om size27 (by intro p hp; simp only [List.mem_cons, List.not_mem_nil, or_false] at hp; rcases hp with rfl | rfl | rfl | rfl; exact .inl rfl; exact .inr ⟨by simp, by simp only; omega⟩; exact .inr ⟨by simp, by simp only; omega⟩; exact .inr ⟨by simp, by simp only; omega⟩)) ?_
 refine wpL_p (v := .int .i64 0) rfl Tw.kr rfl Tw.kf Tw.pu ?_
 refine wpL_done (fun W4 hW4 => ?_)
 clear hW3
 change Code.wp ..
 refine wp_seq ?_
 refine wp_region_L _ hW4 ?_
 refine wpL_v (v := .agg (frcC false 1 6)) rfl Tw.kr rfl (yb_load rfl Tw.kr Tw.m3 Tryz.underlying25 rfl size27 (by simp) (frc_whole false 1 6)) Tw.pu ?_
 refine wpL_v (v := .agg (frcC false 1 10)) rfl Tw.kr rfl (yb_load rfl Tw.kr Tw.m2 Tryz.underlying25 rfl size27 (by simp) (frc_whole false 1 10)) Tw.pu ?_
 refine wpL_v (v := .tuple #[.agg (frcC false 1 60), .int .i64 0]) rfl Tw.kr rfl (yb_call (f := 22) (args := #[.agg (frcC false 1 6), .agg (frcC false 1 10)]) Tw.kf fun W hW => HMu.out W) Tw.pu ?_
 refine wpL_p (v := .tuple #[.agg (frcC false 1 60), .int .i64 0]) rfl Tw.kr rfl Tw.kf Tw.pu ?_
 refine wpL_p (v := .agg (frcC false 1 60)) rfl Tw.kr rfl Tw.kf Tw.pu ?_
 refine wpL_p (v := .int .i64 0) rfl Tw.kr rfl Tw.kf Tw.pu ?_
 refine wpL_new (fun g => .pointer (some ⟨g, 0, none⟩)) (obi := .cells (frcC false 0 0) 25 (0, 0)) rfl rfl (fun _ => by rw [frc_zero]; rfl) Tw.pf fun g5 Bg5 Fg5 => ?_
 try simp only [List.forall_mem_cons] at Fg5
 refine wpL_s [(g5, .cells (frcC false 1 60) 25 (0, 0)), (g4, .cells (frcC false 1 15) 25 (0, 0)), (g3, .cells (frcC false 4 15) 25 (0, 0)), (g2, .cells (frcC false 1 10) 25 (0, 0)), (g1, .cells (frcC false 1 6) 25 (0, 0))] rfl rfl (st_f (neg := false) (n := 1) (d := 60) rfl Tw.kr Tw.kr Tw.m0 Tw.om size27 (by intro p hp; simp only [List.mem_cons, List.not_mem_nil, or_false] at hp; rcases hp with rfl | rfl | rfl | rfl | rfl; exact .inl rfl; exact .inr ⟨by simp, by simp only; omega⟩; exact .inr ⟨by simp, by simp only; omega⟩; exact .inr ⟨by simp, by simp only; omega⟩; exact .inr ⟨by simp, by simp only; omega⟩)) ?_
 refine wpL_p (v := .int .i64 0) rfl Tw.kr rfl Tw.kf Tw.pu ?_
 refine wpL_done (fun W5 hW5 => ?_)
 clear hW4
 change Code.wp ..
 refine wp_seq ?_
 refine wp_region_L _ hW5 ?_
 refine wpL_v (v := .agg (frcC false 1 6)) rfl Tw.kr rfl (yb_load rfl Tw.kr Tw.m4 Tryz.underlying25 rfl size27 (by simp) (frc_whole false 1 6)) Tw.pu ?_
 refine wpL_v (v := .agg (frcC false 1 10)) rfl Tw.kr rfl (yb_load rfl Tw.kr Tw.m3 Tryz.underlying25 rfl size27 (by simp) (frc_whole false 1 10)) Tw.pu ?_
 refine wpL_v (v := .tuple #[.agg (frcC false 5 3), .int .i64 0]) rfl Tw.kr rfl (yb_call (f := 24) (args := #[.agg (frcC false 1 6), .agg (frcC false 1 10)]) Tw.kf fun W hW => HDi.out W) Tw.pu ?_
 refine wpL_p (v := .tuple #[.agg (frcC false 5 3), .int .i64 0]) rfl Tw.kr rfl Tw.kf Tw.pu ?_
 refine wpL_p (v := .agg (frcC false 5 3)) rfl Tw.kr rfl Tw.kf Tw.pu ?_
 refine wpL_p (v := .int .i64 0) rfl Tw.kr rfl Tw.kf Tw.pu ?_
 refine wpL_new (fun g => .pointer (some ⟨g, 0, none⟩)) (obi := .cells (frcC false 0 0) 25 (0, 0)) rfl rfl (fun _ => by rw [frc_zero]; rfl) Tw.pf fun g6 Bg6 Fg6 => ?_
 try simp only [List.forall_mem_cons] at Fg6
 refine wpL_s [(g6, .cells (frcC false 5 3) 25 (0, 0)), (g5, .cells (frcC false 1 60) 25 (0, 0)), (g4, .cells (frcC false 1 15) 25 (0, 0)), (g3, .cells (frcC false 4 15) 25 (0, 0)), (g2, .cells (frcC false 1 10) 25 (0, 0)), (g1, .cells (frcC false 1 6) 25 (0, 0))] rfl rfl (st_f (neg := false) (n := 5) (d := 3) rfl Tw.kr Tw.kr Tw.m0 Tw.om size27 (by intro p hp; simp only [List.mem_cons, List.not_mem_nil, or_false] at hp; rcases hp with rfl | rfl | rfl | rfl | rfl | rfl; exact .inl rfl; exact .inr ⟨by simp, by simp only; omega⟩; exact .inr ⟨by simp, by simp only; omega⟩; exact .inr ⟨by simp, by simp only; omega⟩; exact .inr ⟨by simp, by simp only; omega⟩; exact .inr ⟨by simp, by simp only; omega⟩)) ?_
 refine wpL_p (v := .int .i64 0) rfl Tw.kr rfl Tw.kf Tw.pu ?_
 refine wpL_done (fun W6 hW6 => ?_)
 clear hW5
 change Code.wp ..
 refine wp_seq ?_
 refine wp_region_L _ hW6 ?_
 refine wpL_v (v := .agg (frcC true 3 2)) rfl Tw.kr rfl (yb_call (f := 11) (args := #[.int .i64 6, .int .i64 (-4)]) Tw.kf fun W hW => HR2.out W) Tw.pu ?_
 refine wpL_v (v := .tuple #[.string ⟨#[45, 51, 47, 50]⟩, .int .i64 0]) rfl Tw.kr rfl (yb_call (f := 30) (args := #[.agg (frcC true 3 2)]) Tw.kf fun W hW => HTx.out W hW.1) Tw.pu ?_
 refine wpL_p (v := .tuple #[.string ⟨#[45, 51, 47, 50]⟩, .int .i64 0]) rfl Tw.kr rfl Tw.kf Tw.pu ?_
 refine wpL_p (v := .string ⟨#[45, 51, 47, 50]⟩) rfl Tw.kr rfl Tw.kf Tw.pu ?_
 refine wpL_p (v := .int .i64 0) rfl Tw.kr rfl Tw.kf Tw.pu ?_
 refine wpL_p (v := .string ⟨#[45, 51, 47, 50]⟩) rfl Tw.kr rfl Tw.kf Tw.pu ?_
 refine wpL_p (v := .int .i64 0) rfl Tw.kr rfl Tw.kf Tw.pu ?_
 refine wpL_done (fun W7 hW7 => ?_)
 clear hW6
 change Code.wp ..
 refine wp_seq ?_
 refine wp_region_L _ hW7 ?_
 refine wpL_v (v := .agg (frcC true 3 2)) rfl Tw.kr rfl (yb_call (f := 11) (args := #[.int .i64 (-3), .int .i64 2]) Tw.kf fun W hW => HR3.out W) Tw.pu ?_
 refine wpL_v (v := .tuple #[.int .i64 (-2), .int .i64 0]) rfl Tw.kr rfl (yb_call (f := 28) (args := #[.agg (frcC true 3 2)]) Tw.kf fun W hW => HF1.out W) Tw.pu ?_
 refine wpL_p (v := .tuple #[.int .i64 (-2), .int .i64 0]) rfl Tw.kr rfl Tw.kf Tw.pu ?_
 refine wpL_p (v := .int .i64 (-2)) rfl Tw.kr rfl Tw.kf Tw.pu ?_
 refine wpL_p (v := .int .i64 0) rfl Tw.kr rfl Tw.kf Tw.pu ?_
 refine wpL_p (v := .int .i64 (-2)) rfl Tw.kr rfl Tw.kf Tw.pu ?_
 refine wpL_p (v := .int .i64 0) rfl Tw.kr rfl Tw.kf Tw.pu ?_
 refine wpL_done (fun W8 hW8 => ?_)
 clear hW7
 change Code.wp ..
 refine wp_seq ?_
 refine wp_region_L _ hW8 ?_
 refine wpL_v (v := .agg (frcC false 3 2)) rfl Tw.kr rfl (yb_call (f := 11) (args := #[.int .i64 3, .int .i64 2]) Tw.kf fun W hW => HR4.out W) Tw.pu ?_
 refine wpL_v (v := .tuple #[.int .i64 1, .int .i64 0]) rfl Tw.kr rfl (yb_call (f := 28) (args := #[.agg (frcC false 3 2)]) Tw.kf fun W hW => HF2.out W) Tw.pu ?_
 refine wpL_p (v := .tuple #[.int .i64 1, .int .i64 0]) rfl Tw.kr rfl Tw.kf Tw.pu ?_
 refine wpL_p (v := .int .i64 1) rfl Tw.kr rfl Tw.kf Tw.pu ?_
 refine wpL_p (v := .int .i64 0) rfl Tw.kr rfl Tw.kf Tw.pu ?_
 refine wpL_p (v := .int .i64 1) rfl Tw.kr rfl Tw.kf Tw.pu ?_
 refine wpL_p (v := .int .i64 0) rfl Tw.kr rfl Tw.kf Tw.pu ?_
 refine wpL_done (fun W9 hW9 => ?_)
 clear hW8
 change Code.wp ..
 refine wp_seq ?_
 refine wp_seq ?_
 refine wp_region_V _ Tw.kr hW9 ?_
 refine wpV_p (i := 0) (v := .int .i64 0) rfl rfl Tw.kr Tw.kr rfl Tw.kf Tw.pu ?_
 refine wpV_p (i := 1) (v := .int .i64 0) rfl rfl Tw.kr Tw.kr rfl Tw.kf Tw.pu ?_
 refine wpV_p (i := 2) (v := .int .i64 0) rfl rfl Tw.kr Tw.kr rfl Tw.kf Tw.pu ?_
 refine wpV_p (i := 3) (v := .int .i64 0) rfl rfl Tw.kr Tw.kr rfl Tw.kf Tw.pu ?_
 refine wpV_p (i := 4) (v := .int .i64 0) rfl rfl Tw.kr Tw.kr rfl Tw.kf Tw.pu ?_
 refine wpV_p (i := 5) (v := .int .i64 0) rfl rfl Tw.kr Tw.kr rfl Tw.kf Tw.pu ?_
 refine wpV_p (i := 6) (v := .int .i64 0) rfl rfl Tw.kr Tw.kr rfl Tw.kf Tw.pu ?_
 refine wpV_p (i := 7) (v := .int .i64 0) rfl rfl Tw.kr Tw.kr rfl Tw.kf Tw.pu ?_
 refine wpV_p (i := 8) (v := .int .i64 0) rfl rfl Tw.kr Tw.kr rfl Tw.kf Tw.pu ?_
 refine wpV_p (i := 9) (v := .int .i64 0) rfl rfl Tw.kr Tw.kr rfl Tw.kf Tw.pu ?_
 refine wpV_p (i := 10) (v := .int .i64 0) rfl rfl Tw.kr Tw.kr rfl Tw.kf Tw.pu ?_
 refine wpV_p (i := 11) (v := .int .i64 0) rfl rfl Tw.kr Tw.kr rfl Tw.kf Tw.pu ?_
 refine wpV_p (i := 12) (v := .int .i64 0) rfl rfl Tw.kr Tw.kr rfl Tw.kf Tw.pu ?_
 refine wpV_p (i := 13) (v := .bool false) rfl rfl Tw.kr Tw.kr rfl Tw.kf Tw.pu ?_
 refine wpV_p (i := 14) (v := .bool false) rfl rfl Tw.kr Tw.kr rfl Tw.kf Tw.pu ?_
 refine wpV_v (i := 15) (v := .agg (frcC false 4 15)) rfl rfl Tw.kr Tw.kr rfl (yb_load rfl Tw.kr Tw.m3 Tryz.underlying25 rfl size27 (by simp) (frc_whole false 4 15)) Tw.pu ?_
 refine wpV_v (i := 16) (v := .agg (frcC false 4 15)) rfl rfl Tw.kr Tw.kr rfl (yb_call (f := 11) (args := #[.int .i64 4, .int .i64 15]) Tw.kf fun W hW => HR5.out W) Tw.pu ?_
 refine wpV_p (i := 17) (v := .bool false) rfl rfl Tw.kr Tw.kr rfl (run_binY rfl (vx := .agg (frcC false 4 15)) (vy := .agg (frcC false 4 15)) Tw.kr Tw.kr fun w => run_neq27s (lt8 Tw.om) (lt8 Tw.om) w) Tw.pu ?_
 refine wpV_p (i := 18) (v := .bool false) rfl rfl Tw.kr Tw.kr rfl Tw.kf Tw.pu ?_
 refine wpV_p (i := 19) (v := .bool false) rfl rfl Tw.kr Tw.kr rfl Tw.kf Tw.pu ?_
 refine wpV_v (i := 20) (v := .agg (frcC false 1 15)) rfl rfl Tw.kr Tw.kr rfl (yb_load rfl Tw.kr Tw.m2 Tryz.underlying25 rfl size27 (by simp) (frc_whole false 1 15)) Tw.pu ?_
 refine wpV_v (i := 21) (v := .agg (frcC false 1 15)) rfl rfl Tw.kr Tw.kr rfl (yb_call (f := 11) (args := #[.int .i64 1, .int .i64 15]) Tw.kf fun W hW => HR6.out W) Tw.pu ?_
 refine wpV_p (i := 22) (v := .bool false) rfl rfl Tw.kr Tw.kr rfl (run_binY rfl (vx := .agg (frcC false 1 15)) (vy := .agg (frcC false 1 15)) Tw.kr Tw.kr fun w => run_neq27s (lt8 Tw.om) (lt8 Tw.om) w) Tw.pu ?_
 refine wpV_p (i := 23) (v := .bool false) rfl rfl Tw.kr Tw.kr rfl Tw.kf Tw.pu ?_
 refine wpV_p (i := 24) (v := .bool false) rfl rfl Tw.kr Tw.kr rfl Tw.kf Tw.pu ?_
 refine wpV_v (i := 25) (v := .agg (frcC false 1 60)) rfl rfl Tw.kr Tw.kr rfl (yb_load rfl Tw.kr Tw.m1 Tryz.underlying25 rfl size27 (by simp) (frc_whole false 1 60)) Tw.pu ?_
 refine wpV_v (i := 26) (v := .agg (frcC false 1 60)) rfl rfl Tw.kr Tw.kr rfl (yb_call (f := 11) (args := #[.int .i64 1, .int .i64 60]) Tw.kf fun W hW => HR7.out W) Tw.pu ?_
 refine wpV_p (i := 27) (v := .bool false) rfl rfl Tw.kr Tw.kr rfl (run_binY rfl (vx := .agg (frcC false 1 60)) (vy := .agg (frcC false 1 60)) Tw.kr Tw.kr fun w => run_neq27s (lt8 Tw.om) (lt8 Tw.om) w) Tw.pu ?_
 refine wpV_p (i := 28) (v := .bool false) rfl rfl Tw.kr Tw.kr rfl Tw.kf Tw.pu ?_
 refine wpV_p (i := 29) (v := .bool false) rfl rfl Tw.kr Tw.kr rfl Tw.kf Tw.pu ?_
 refine wpV_v (i := 30) (v := .agg (frcC false 5 3)) rfl rfl Tw.kr Tw.kr rfl (yb_load rfl Tw.kr Tw.m0 Tryz.underlying25 rfl size27 (by simp) (frc_whole false 5 3)) Tw.pu ?_
 refine wpV_v (i := 31) (v := .agg (frcC false 5 3)) rfl rfl Tw.kr Tw.kr rfl (yb_call (f := 11) (args := #[.int .i64 5, .int .i64 3]) Tw.kf fun W hW => HR8.out W) Tw.pu ?_
 refine wpV_p (i := 32) (v := .bool false) rfl rfl Tw.kr Tw.kr rfl (run_binY rfl (vx := .agg (frcC false 5 3)) (vy := .agg (frcC false 5 3)) Tw.kr Tw.kr fun w => run_neq27s (lt8 Tw.om) (lt8 Tw.om) w) Tw.pu ?_
 refine wpV_p (i := 33) (v := .bool false) rfl rfl Tw.kr Tw.kr rfl Tw.kf Tw.pu ?_
 refine wpV_p (i := 34) (v := .bool false) rfl rfl Tw.kr Tw.kr rfl Tw.kf Tw.pu ?_
 refine wpV_p (i := 35) (v := .string ⟨#[45, 51, 47, 50]⟩) rfl rfl Tw.kr Tw.kr rfl Tw.kf Tw.pu ?_
 refine wpV_p (i := 36) (v := .bool false) rfl rfl Tw.kr Tw.kr rfl Tw.kf Tw.pu ?_
 refine wpV_p (i := 37) (v := .bool false) rfl rfl Tw.kr Tw.kr rfl Tw.kf Tw.pu ?_
 refine wpV_p (i := 38) (v := .bool false) rfl rfl Tw.kr Tw.kr rfl Tw.kf Tw.pu ?_
 refine wpV_p (i := 39) (v := .int .i64 (-2)) rfl rfl Tw.kr Tw.kr rfl Tw.kf Tw.pu ?_
 refine wpV_p (i := 40) (v := .bool false) rfl rfl Tw.kr Tw.kr rfl Tw.kf Tw.pu ?_
 refine wpV_p (i := 41) (v := .bool false) rfl rfl Tw.kr Tw.kr rfl Tw.kf Tw.pu ?_
 refine wpV_p (i := 42) (v := .bool false) rfl rfl Tw.kr Tw.kr rfl Tw.kf Tw.pu ?_
 refine wpV_p (i := 43) (v := .int .i64 1) rfl rfl Tw.kr Tw.kr rfl Tw.kf Tw.pu ?_
 refine wpV_p (i := 44) (v := .bool false) rfl rfl Tw.kr Tw.kr rfl Tw.kf Tw.pu ?_
 refine wpV_p (i := 45) (v := .bool false) rfl rfl Tw.kr Tw.kr rfl Tw.kf Tw.pu ?_
 refine wpV_done Tw.kr (fun W10 hW10 => ?_) _
 clear hW9
 change Code.wp ..
 refine wp_cond_false rfl ?_
 refine wp_skip ?_
 change Code.wp ..
 refine wp_seq ?_
 refine wp_seq ?_
 refine wp_region_L _ hW10 ?_
 refine wpL_v (v := .agg (frcC true 3 2)) rfl Tw.kr rfl (yb_call (f := 11) (args := #[.int .i64 6, .int .i64 (-4)]) Tw.kf fun W hW => HR2.out W) Tw.pu ?_
 refine wpL_p (v := .agg #[.int .u32 3, .int .u32 0, .int .u32 0, .int .u32 0, .int .u32 0, .int .u32 0, .int .u32 0, .int .u32 0]) rfl Tw.kr rfl Tw.kf Tw.pu ?_
 refine wpL_p (v := .agg #[.int .u32 2, .int .u32 0, .int .u32 0, .int .u32 0, .int .u32 0, .int .u32 0, .int .u32 0, .int .u32 0]) rfl Tw.kr rfl Tw.kf Tw.pu ?_
 refine wpL_p (v := .agg (frcC true 3 2)) rfl Tw.kr rfl Tw.kf Tw.pu ?_
 refine wpL_p (v := .bool false) rfl Tw.kr rfl (run_binY rfl (vx := .agg (frcC true 3 2)) (vy := .agg (frcC true 3 2)) Tw.kr Tw.kr fun w => run_neq27s (lt8 Tw.om) (lt8 Tw.om) w) Tw.pu ?_
 refine wpL_done (fun W11 hW11 => ?_)
 clear hW10
 change Code.wp ..
 refine wp_cond_false rfl ?_
 refine wp_skip ?_
 change Code.wp ..
 refine wp_seq ?_
 refine wp_seq ?_
 have HK13 := Lib.hid (hW11.sub (K' := []) (fun _ h => by cases h))
 clear hW11
 try go_frame
 have HK14 := Lib.hid HK13.out.drew
 refine wp_region_fin (F := fun b r W => w.heap.size ≤ r ∧ w.heap.size ≤ b ∧ KS w [] W ∧ ∃ n D cnt, SubD L8 D ∧ W.ranges Tryz.prog 9 (plainElem (H := Unit) Tryz.prog 35) b r n D (Maps.has D) cnt)
   (fun b r => [(114, .map (some b)), (115, R78), (116, S79), (117, .map (some b)), (118, .pointer (some ⟨r, 0, none⟩))]) Tw.kr ?_ ?_
 · intro Q' hQ
   generalize W11.drew = W14 at *
   refine Tf.wpAny_step2 (n := 12) (rs := [0, 8]) Tw.kr (by simp) fun i hi => ?_
   simp only [List.mem_cons, List.not_mem_nil, or_false] at hi
   rcases hi with rfl | rfl
   · refine ⟨_, 114, rfl, rfl, rfl, Oto.of_run (v := .map (some W14.heap.size)) (w' := W14.alloc (.map #[] 0)) rfl ?_⟩
     refine wpC_sound (I := MapI Tryz.prog 9 35 L8 w W14.heap.size) (m := 1) (last := 12) 11 _ _ ?_ _ (MapI.start HK14.out Tw.om)
     try go_frame
     refine wpC_c (i := 8) (v := R78) rfl rfl Tw.kr rfl Tw.kf HRp Tw.pu ?_
     refine wpC_v (i := 9) (v := S79) rfl rfl Tw.kr rfl (run_binY rfl (vx := .string ⟨#[49]⟩) (vy := R78) Tw.kr Tw.kr fun w => run_cat w) Tw.pu ?_
     refine wpC_i (i := 1) (l := [51, 47, 45, 50]) (e := 10) Tryz.underlying9 Tryz.underlying35 Tryz.underlying54 (by simp [L8]) (by decide) (by decide) rfl rfl rfl Tw.kr rfl rfl rfl rfl ?_
     refine wpC_i (i := 2) (l := [48, 51]) (e := 10) Tryz.underlying9 Tryz.underlying35 Tryz.underlying54 (by simp [L8]) (by decide) (by decide) rfl rfl rfl Tw.kr rfl rfl rfl rfl ?_
     refine wpC_i (i := 3) (l := [49, 47, 48]) (e := 10) Tryz.underlying9 Tryz.underlying35 Tryz.underlying54 (by simp [L8]) (by decide) (by decide) rfl rfl rfl Tw.kr rfl rfl rfl rfl ?_
     refine wpC_i (i := 4) (l := []) (e := 10) Tryz.underlying9 Tryz.underlying35 Tryz.underlying54 (by simp [L8]) (by decide) (by decide) rfl rfl rfl Tw.kr rfl rfl rfl rfl ?_
     refine wpC_i (i := 5) (l := [50, 47, 52]) (e := 11) Tryz.underlying9 Tryz.underlying35 Tryz.underlying54 (by simp [L8]) (by decide) (by decide) rfl rfl rfl Tw.kr rfl rfl rfl rfl ?_
     refine wpC_i (i := 6) (l := [52, 47, 49]) (e := 11) Tryz.underlying9 Tryz.underlying35 Tryz.underlying54 (by simp [L8]) (by decide) (by decide) rfl rfl rfl Tw.kr rfl rfl rfl rfl ?_
     refine wpC_i (i := 7) (l := [45, 48]) (e := 11) Tryz.underlying9 Tryz.underlying35 Tryz.underlying54 (by simp [L8]) (by decide) (by decide) rfl rfl rfl Tw.kr rfl rfl rfl rfl ?_
     refine wpC_i (i := 10) (l := (49 :: Lib.repeatL [48] 78)) (e := 3) Tryz.underlying9 Tryz.underlying35 Tryz.underlying54 (by simp [L8]) (by decide) (by decide) rfl rfl rfl Tw.kr rfl rfl rfl rfl ?_
     refine wpC_v (i := 11) (v := .map (some W14.heap.size)) rfl rfl Tw.kr rfl Tw.kf Tw.pu ?_
     refine wpC_r Tryz.underlying9 Tryz.underlying54 rfl rfl rfl Tw.kr Tw.kr rfl rfl ?_
     intro r n D cnt W hr hK hS hrg
     have h := hQ _ r W ⟨hr, HK14.out.1.size, hK, n, D, cnt, hS, hrg⟩
     simp only [List.foldl_cons, List.foldl_nil] at h
     try go_frame
     simp only [Act.put, List.setIfInBounds_toArray, List.set_cons_succ, List.set_cons_zero] at h
     exact h
   · refine ⟨_, 115, rfl, rfl, rfl, Oto.of_call (v := R78) Tw.kr (HRp W14) fun W15 hb => ?_⟩
     have HK15 := Lib.hid (HK14.out.below hb)
     clear hb
     refine Tf.wpAny_step2 (n := 11) (rs := [0, 9]) Tw.kr (by simp) fun i hi => ?_
     simp only [List.mem_cons, List.not_mem_nil, or_false] at hi
     try go_frame
     rcases hi with rfl | rfl
     · refine ⟨_, 114, rfl, rfl, rfl, Oto.of_run (v := .map (some W15.heap.size)) (w' := W15.alloc (.map #[] 0)) rfl ?_⟩
       refine wpC_sound (I := MapI Tryz.prog 9 35 L8 w W15.heap.size) (m := 1) (last := 12) 10 _ _ ?_ _ (MapI.start HK15.out Tw.om)
       try go_frame
       refine wpC_v (i := 9) (v := S79) rfl rfl Tw.kr rfl (run_binY rfl (vx := .string ⟨#[49]⟩) (vy := R78) Tw.kr Tw.kr fun w => run_cat w) Tw.pu ?_
       refine wpC_i (i := 1) (l := [51, 47, 45, 50]) (e := 10) Tryz.underlying9 Tryz.underlying35 Tryz.underlying54 (by simp [L8]) (by decide) (by decide) rfl rfl rfl Tw.kr rfl rfl rfl rfl ?_
       refine wpC_i (i := 2) (l := [48, 51]) (e := 10) Tryz.underlying9 Tryz.underlying35 Tryz.underlying54 (by simp [L8]) (by decide) (by decide) rfl rfl rfl Tw.kr rfl rfl rfl rfl ?_
       refine wpC_i (i := 3) (l := [49, 47, 48]) (e := 10) Tryz.underlying9 Tryz.underlying35 Tryz.underlying54 (by simp [L8]) (by decide) (by decide) rfl rfl rfl Tw.kr rfl rfl rfl rfl ?_
       refine wpC_i (i := 4) (l := []) (e := 10) Tryz.underlying9 Tryz.underlying35 Tryz.underlying54 (by simp [L8]) (by decide) (by decide) rfl rfl rfl Tw.kr rfl rfl rfl rfl ?_
       refine wpC_i (i := 5) (l := [50, 47, 52]) (e := 11) Tryz.underlying9 Tryz.underlying35 Tryz.underlying54 (by simp [L8]) (by decide) (by decide) rfl rfl rfl Tw.kr rfl rfl rfl rfl ?_
       refine wpC_i (i := 6) (l := [52, 47, 49]) (e := 11) Tryz.underlying9 Tryz.underlying35 Tryz.underlying54 (by simp [L8]) (by decide) (by decide) rfl rfl rfl Tw.kr rfl rfl rfl rfl ?_
       refine wpC_i (i := 7) (l := [45, 48]) (e := 11) Tryz.underlying9 Tryz.underlying35 Tryz.underlying54 (by simp [L8]) (by decide) (by decide) rfl rfl rfl Tw.kr rfl rfl rfl rfl ?_
       refine wpC_i (i := 10) (l := (49 :: Lib.repeatL [48] 78)) (e := 3) Tryz.underlying9 Tryz.underlying35 Tryz.underlying54 (by simp [L8]) (by decide) (by decide) rfl rfl rfl Tw.kr rfl rfl rfl rfl ?_
       refine wpC_v (i := 11) (v := .map (some W15.heap.size)) rfl rfl Tw.kr rfl Tw.kf Tw.pu ?_
       refine wpC_r Tryz.underlying9 Tryz.underlying54 rfl rfl rfl Tw.kr Tw.kr rfl rfl ?_
       intro r n D cnt W hr hK hS hrg
       have h := hQ _ r W ⟨hr, HK15.out.1.size, hK, n, D, cnt, hS, hrg⟩
       simp only [List.foldl_cons, List.foldl_nil] at h
       try go_frame
       simp only [Act.put, List.setIfInBounds_toArray, List.set_cons_succ, List.set_cons_zero] at h
       exact h
     · refine ⟨_, 116, rfl, rfl, rfl, Oto.of_run (v := S79) (w' := W15) (run_binY rfl (vx := .string ⟨#[49]⟩) (vy := R78) Tw.kr Tw.kr (fun w => run_cat w) W15) ?_⟩
       refine Tf.wpAny_step2 (n := 10) (rs := [0]) Tw.kr (by simp) fun i hi => ?_
       cases List.mem_singleton.1 hi
       try go_frame
       refine ⟨_, 114, rfl, rfl, rfl, Oto.of_run (v := .map (some W15.heap.size)) (w' := W15.alloc (.map #[] 0)) rfl ?_⟩
       refine wpC_sound (I := MapI Tryz.prog 9 35 L8 w W15.heap.size) (m := 1) (last := 12) 9 _ _ ?_ _ (MapI.start HK15.out Tw.om)
       try go_frame
       refine wpC_i (i := 1) (l := [51, 47, 45, 50]) (e := 10) Tryz.underlying9 Tryz.underlying35 Tryz.underlying54 (by simp [L8]) (by decide) (by decide) rfl rfl rfl Tw.kr rfl rfl rfl rfl ?_
       refine wpC_i (i := 2) (l := [48, 51]) (e := 10) Tryz.underlying9 Tryz.underlying35 Tryz.underlying54 (by simp [L8]) (by decide) (by decide) rfl rfl rfl Tw.kr rfl rfl rfl rfl ?_
       refine wpC_i (i := 3) (l := [49, 47, 48]) (e := 10) Tryz.underlying9 Tryz.underlying35 Tryz.underlying54 (by simp [L8]) (by decide) (by decide) rfl rfl rfl Tw.kr rfl rfl rfl rfl ?_
       refine wpC_i (i := 4) (l := []) (e := 10) Tryz.underlying9 Tryz.underlying35 Tryz.underlying54 (by simp [L8]) (by decide) (by decide) rfl rfl rfl Tw.kr rfl rfl rfl rfl ?_
       refine wpC_i (i := 5) (l := [50, 47, 52]) (e := 11) Tryz.underlying9 Tryz.underlying35 Tryz.underlying54 (by simp [L8]) (by decide) (by decide) rfl rfl rfl Tw.kr rfl rfl rfl rfl ?_
       refine wpC_i (i := 6) (l := [52, 47, 49]) (e := 11) Tryz.underlying9 Tryz.underlying35 Tryz.underlying54 (by simp [L8]) (by decide) (by decide) rfl rfl rfl Tw.kr rfl rfl rfl rfl ?_
       refine wpC_i (i := 7) (l := [45, 48]) (e := 11) Tryz.underlying9 Tryz.underlying35 Tryz.underlying54 (by simp [L8]) (by decide) (by decide) rfl rfl rfl Tw.kr rfl rfl rfl rfl ?_
       refine wpC_i (i := 10) (l := (49 :: Lib.repeatL [48] 78)) (e := 3) Tryz.underlying9 Tryz.underlying35 Tryz.underlying54 (by simp [L8]) (by decide) (by decide) rfl rfl rfl Tw.kr rfl rfl rfl rfl ?_
       refine wpC_v (i := 11) (v := .map (some W15.heap.size)) rfl rfl Tw.kr rfl Tw.kf Tw.pu ?_
       refine wpC_r Tryz.underlying9 Tryz.underlying54 rfl rfl rfl Tw.kr Tw.kr rfl rfl ?_
       intro r n D cnt W hr hK hS hrg
       have h := hQ _ r W ⟨hr, HK15.out.1.size, hK, n, D, cnt, hS, hrg⟩
       simp only [List.foldl_cons, List.foldl_nil] at h
       try go_frame
       simp only [Act.put, List.setIfInBounds_toArray, List.set_cons_succ, List.set_cons_zero] at h
       exact h
 intro b r W16 hF
 simp only [List.foldl_cons, List.foldl_nil]
 try go_frame
 obtain ⟨hr, hb, hK, n, D, cnt, hS, hrg⟩ := hF
 have HS := Lib.hid hS
 have HRL := Lib.hid (show RgL Tryz.prog 9 35 D b r n w W16 from ⟨_, _, hrg, fun _ h => h, hK⟩)
 clear hS hK hrg HK13 HK14
 have tok : True := trivial
 go_wp2_with fail
 go_loopw [17] (fun _ wr => Hid (RgL Tryz.prog 9 35 D b r n w wr)) (fun _ wr => wr.rangeLeft b r)
 case atStart => exact HRL
 case round =>
   clear HRL
   obtain ⟨left, cnt, hrg, hlf, hks⟩ := hrel.out
   have HRg := Lib.hid hrg
   have HLf := Lib.hid hlf
   have HKr := Lib.hid hks
   clear hrg hlf hks hrel
   go_wp2_with (first
     | (at_next; refine wpList_next_L _ rfl _ rfl Tryz.underlying9 Tryz.underlying35 HS.out rfl HRg.out HLf.out ?_ ?_)
     | fail)
   · have HBr := Lib.hid HKr.out.1
     (with_reducible refine (HRd.out _ HBr.out).mono ?_)
     rintro e w2 ⟨rfl, hb1⟩
     have HKq := Lib.hid (HKr.out.below hb1)
     clear hb1
     go_upto_region 20 with (first
       | (refine wpList_stf (neg := true) (n := 3) (d := 2) (neg' := false) (n' := 0) (d' := 0) rfl rfl rfl rfl (by rw [frc_zero]; exact heap1 w2 _) size27 ?_))
     have HKv := Lib.hid (HKq.out.newvar (cs := frcC false 0 0) (cs' := frcC true 3 2) (t := 25))
     have f_g := HKq.out.fresh.1
     rw [← frc_zero]
     generalize (w2.alloc (.cells (frcC false 0 0) 25)).setRow w2.heap.size (frcC true 3 2) = W30 at *
     generalize w2.heap.size = g at *
     refine wp_region_V [(g, .cells (frcC true 3 2) 25 (0, 0))] Tw.kr (HKv.out) ?_
     refine wpV_p (i := 0) (v := .int .i64 0) rfl rfl Tw.kr Tw.kr rfl Tw.kf Tw.pu ?_
     refine wpV_p (i := 1) (v := .bool true) rfl rfl Tw.kr Tw.kr rfl Tw.kf Tw.pu ?_
     refine wpV_p (i := 2) (v := .bool true) rfl rfl Tw.kr Tw.kr rfl Tw.kf Tw.pu ?_
     refine wpV_v (i := 3) (v := .agg (frcC true 3 2)) rfl rfl Tw.kr Tw.kr rfl (yb_load rfl Tw.kr Tw.m0 Tryz.underlying25 rfl size27 (by simp) (frc_whole true 3 2)) Tw.pu ?_
     refine wpV_v (i := 4) (v := .agg (frcC true 3 2)) rfl rfl Tw.kr Tw.kr rfl (yb_call (f := 11) (args := #[.int .i64 6, .int .i64 (-4)]) Tw.kf fun W hW => HR2.out W) Tw.pu ?_
     refine wpV_p (i := 5) (v := .bool true) rfl rfl Tw.kr Tw.kr rfl (run_binY rfl (vx := .agg (frcC true 3 2)) (vy := .agg (frcC true 3 2)) Tw.kr Tw.kr fun w => run_eql27s (lt8 Tw.om) (lt8 Tw.om) w) Tw.pu ?_
     refine wpV_p (i := 6) (v := .bool true) rfl rfl Tw.kr Tw.kr rfl Tw.kf Tw.pu ?_
     refine wpV_p (i := 7) (v := .bool true) rfl rfl Tw.kr Tw.kr rfl Tw.kf Tw.pu ?_
     refine wpV_done Tw.kr (fun W51 hW51 => ?_) _
     go_wp2
     go_ret
     exact ⟨rfl, hW51.1⟩
   · intro l c w1 left1 cnt1 hm hrg1 hlf1 hlt hg1 hs1 hen
     have HB1 := Lib.hid (HKr.out.1.grown hg1 HKr.out.1.size (fun j hj => by cases hj; exact hr))
     have HR1 := Lib.hid hrg1
     have HL1 := Lib.hid hlf1
     have HLt := Lib.hid hlt
     have HM := Lib.hid hm
     clear hrg1 hlf1 hlt hm hg1 hs1
     go_wp2_with (first
       | ((go_at_call 33); (with_reducible refine (HRc.out l c HM.out _ HB1.out).mono ?_); rintro e w2 ⟨rfl, hb2⟩; have HK2 := Lib.hid ((KS.start w1).below hb2); clear hb2)
       | (refine wpList_stf (neg := false) (n := 0) (d := 0) (neg' := false) (n' := 0) (d' := 0) rfl rfl rfl rfl (by rw [frc_zero]; exact heap1 w2 _) size27 ?_))
     have HK3 := Lib.hid (HK2.out.newvar (cs := frcC false 0 0) (cs' := frcC false 0 0) (t := 25))
     rw [← frc_zero]
     generalize (w2.alloc (.cells (frcC false 0 0) 25)).setRow w2.heap.size (frcC false 0 0) = W3 at *
     have HR3 := Lib.hid (HR1.out.kept (grown_of_below HK3.out.1 none) (by simp) (by simp))
     have HW3 := Lib.hid (KS.below (show KS w [] w1 from ⟨HB1.out, fun _ h => by cases h⟩) HK3.out.1)
     go_roundw
     case rel => exact Lib.hid ⟨left1, cnt1, HR3.out, HL1.out, HW3.out⟩
     case measure => rw [HR3.out.left_eq, HRg.out.left_eq]; exact HLt.out
end Go.Proofs.YtalmflgkbmnghaaGreatDoor
/- awake's answer is true wherever the library's tables are what they are. -/
namespace Go.Proofs.YtalmflgkbmnghaaGreatDoor
open Go.RowKit Tf
variable [ShLZ]
variable [ShSt]
theorem len8 (l : List UInt8) (e : Int) (h : (l, e) ∈ L8) : l.length < 4294967281 := by
 unfold L8 at h
 simp only [List.mem_cons, Prod.mk.injEq, List.not_mem_nil, or_false] at h
 rcases h with ⟨rfl, rfl⟩ | ⟨rfl, rfl⟩ | ⟨rfl, rfl⟩ | ⟨rfl, rfl⟩ | ⟨rfl, rfl⟩ | ⟨rfl, rfl⟩ | ⟨rfl, rfl⟩ | ⟨rfl, rfl⟩ <;> decide +kernel
theorem awake_any (hRp : ∀ W, Calls Tryz.prog 32 #[.string ⟨#[48]⟩, .int .i64 78] W fun e w' => e = .returned R78 ∧ Below W.heap.size W w') (w : World) (hE : Env w) :
   Calls Tryz.prog 8 #[] w fun e w' => e = .returned (.bool true) ∧ Below w.heap.size w w' := by
 refine awake_walk w (ax_ratio 1 6 false 1 6 (by decide +kernel) Tw.om) (ax_ratio 1 10 false 1 10 (by decide +kernel) Tw.om) (ax_ratio 6 (-4) true 3 2 (by decide +kernel) Tw.om)
   (ax_ratio (-3) 2 true 3 2 (by decide +kernel) Tw.om) (ax_ratio 3 2 false 3 2 (by decide +kernel) Tw.om) (ax_ratio 4 15 false 4 15 (by decide +kernel) Tw.om) (ax_ratio 1 15 false 1 15 (by decide +kernel) Tw.om)
   (ax_ratio 1 60 false 1 60 (by decide +kernel) Tw.om) (ax_ratio 5 3 false 5 3 (by decide +kernel) Tw.om) ax_add ax_sub ax_mul ax_div ax_floor1 ax_floor2 ?_ ?_ hRp ?_
 · intro W hW
   exact ax_text W (hE.keep hW)
 · intro W hW
   have h := read_any [45, 51, 47, 50] (by decide) W (hE.keep hW)
   rw [read_32] at h
   exact h
 · intro l e hl W hW
   have h := read_any l (len8 l e hl) W (hE.keep hW)
   rw [read_err l e hl] at h
   exact h
end Go.Proofs.YtalmflgkbmnghaaGreatDoor
/- From the row's condition (the tables laid, the world's shape) to what the proofs ask of the library's variables. -/
namespace Go.Proofs.YtalmflgkbmnghaaGreatDoor
open Go.ChangeShapes Go.WideShapes Go.ChangeAt Go.RowKit
theorem own : ownKnob Tryz.prog.godebug = none := by kernel_rfl
def laid3 : List (String × DataW Unit) := [("math/bits.deBruijn32tab", Rows.laid_math_bits_deBruijn32tab), ("math/bits.deBruijn64tab", Rows.laid_math_bits_deBruijn64tab), ("internal/strconv.uint64pow10", Rows.laid_internal_strconv_uint64pow10)]
set_option maxRecDepth 100000 in
theorem door_met (os : Os) (args : Array Value) : laidMetH Tryz.prog laid3 ((World.doorLaid Tryz.prog 1000 os).forCall (fun _ _ => 0) ⟨#[], args, []⟩).memory :=
 laidMetH_of_parts3 (fuel := 8) (laidMet_of_run' 8 Tw.kr Tw.kr) Tw.kr Tw.kr
theorem gPow : Tryz.prog.globalNamed "internal/strconv.uint64pow10" = some 1 := by kernel_rfl
theorem tPow : (Tryz.prog.globals[1]?).map (·.type) = some 152 := by kernel_rfl
theorem pow_of_laid {W : World} (h : laidMetH Tryz.prog laid3 W) : Lib.TabIs Tryz.prog W "internal/strconv.uint64pow10" .u64 Lib.pow10Tab := by
 rw [MakeChecks.laidMetH_plain _ _ _ Tw.kr] at h
 obtain ⟨ps, ⟨g0, t0, cs0, f0, p0, q0, hg0, ht0, hv0, hd0, ⟨g1, t1, cs1, f1, p1, q1, hg1, ht1, hv1, hd1, ⟨g2, t2, cs2, f2, p2, q2, hg2, ht2, hv2, hd2, _, _⟩, _⟩, _⟩, _, _⟩ := h
 obtain rfl := Option.some.inj (gPow.symm.trans hg2)
 obtain rfl := Option.some.inj (tPow.symm.trans ht2)
 unfold Lib.TabIs
 rw [hv2, ← Lib.cells_of_tab (k := .u64) (zs := Lib.pow10Tab) Tryz.underlying152 Tryz.underlying84 Tw.kr Tw.kr (show DataW.trod (fun _ => ()) Tryz.prog W 0 (fun _ => true) false f2 152 cs2.toList = some (Lib.tabData .u64 Lib.pow10Tab, p2) from hd2)]
theorem max_of_shape {W : World} (h : W.ShapedOpen Tryz.prog) : ∃ m, W.cell? ⟨0, 0, none⟩ = some (.int .i64 m) :=
 cell_of_shapedOpen_int (t := 3) (zero := #[.int .i64 0]) h (of_decide_eq_true Tw.kr) Tw.kr rfl Tw.kr Tw.kr Tryz.underlying3
theorem env_of {W : World} (h : laidMetH Tryz.prog laid3 W) (hs : W.ShapedOpen Tryz.prog) : Env W := ⟨pow_of_laid h, max_of_shape hs⟩
end Go.Proofs.YtalmflgkbmnghaaGreatDoor

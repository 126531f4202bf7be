import Derived.Test.YtalmflgkbmnghaaGreatDoorRS04
import Derived.Test.YtalmflgkbmnghaaGreatDoorRS00
import Derived.ChangeMaps5
import Derived.Deep.Strs
/- Part of the proof: Rz. -/
set_option linter.unusedVariables false
set_option linter.unusedSimpArgs false
set_option linter.unusedSectionVars false
/- Rows of frac's laws that take fractions or texts. -/
namespace Go.Proofs.YtalmflgkbmnghaaGreatDoor
open Go.ChangeShapes Go.WideShapes Go.ChangeAt Go.RowKit Tf
open Go
theorem laidOut : laidOutB Tryz.prog = true := by kernel_rfl
theorem handed_and_sized {H : Type} {enc : TypeId × Value → H} {a : Assume} {C : Checked} {os : Os} {f : FuncId} {fn : Func} {s : ChangeSpec} {conds : List PathCond} {apart fresh handsOn again : Bool} {X : World → Prop}
    (hX : ∀ (w w' : World), w.heap = w'.heap → X w → X w')
    (own : ownKnob C.prog.godebug = none) (started : os.Started) (noInit : C.prog.inits.idxOf? f = none) (hfn : C.prog.funcs[f]? = some fn)
    (witness : ∃ (w : World) (tape : Tape) (i : Input), w.os = os ∧ (w.forCall tape i).Shaped C.prog ∧ i.vars = [] ∧ Input.okWide C.prog (w.forCall tape i) .any w.heap.size f i ∧
      ((s.pre enc C.prog fn conds apart (w.forCall tape i).memory i.args ∧ X (w.forCall tape i).memory) ∧ sizedMet enc C.prog fn (OpenSpec.ofChange s) apart (w.forCall tape i).memory i.args) ∧ a.holds C.prog (lone (Frame.enter C.prog f i.args .normal) [] (w.forCall tape i)))
    (contract : ∀ (W : World) (base : Nat) (args : Array Value) (ds gs : List (DataW H)) (before : List MemPlace),
      (∀ (j : Nat) t v, fn.params[j]? = some t → args[j]? = some v → Value.okWide C.prog W .any base t v) →
      DataW.Whole enc C.prog fn.params.toList s.vars apart W args.toList ds gs before → X W → W.ShapedOpen C.prog →
      (DataW.weightsEach C.prog (fn.params.toList ++ s.plain.varTypes C.prog) (ds ++ gs)).all (· ≤ reachBytes) = true →
      Calls C.prog f args W fun e W' => ∃ v, e = .returned v ∧ s.post enc C.prog fn apart fresh handsOn again W args v W') :
    ReturnsInHanded a C os f .any (fun w args => (s.pre enc C.prog fn conds apart w args ∧ X w) ∧ sizedMet enc C.prog fn (OpenSpec.ofChange s) apart w args) (s.post enc C.prog fn apart fresh handsOn again) := by
  refine returnsInHanded_of_calls own started noInit witness fun w tape i _ hsh _ hok hpre _ => ?_
  obtain ⟨_, _, _, fn', hfn', _, _, _, _, hval⟩ := hok
  obtain rfl : fn' = fn := Option.some.inj (hfn'.symm.trans hfn)
  obtain ⟨⟨_, hx⟩, _, ds, gs, before, hw, hz⟩ := hpre
  refine (contract (w.forCall tape i) w.heap.size i.args ds gs before hval (DataW.Whole.of_heap (w' := w.forCall tape i) (by rfl) hw) (hX _ _ (by rfl) hx) hsh hz).mono fun e W' ⟨v, he, hp⟩ => ?_
  subst he
  exact ChangeSpec.post_blind hp
def numV : Value → Nat
  | .int _ z => z.toNat
  | _ => 0
theorem one_of {cs : List Value} {i : Nat} {v : Value} (h : (cs.drop i).take 1 = [v]) : cs[i]? = some v := by
  have h1 := congrArg (fun l => l[0]?) h
  simpa using h1
theorem trod_arr {H : Type} {enc : TypeId × Value → H} {W : World} {sp : Nat → Bool} {fuel : Nat} {cs : List Value} {x : DataW H × List MemPlace} (h : DataW.trod enc Tryz.prog W 0 sp true fuel 23 cs = some x) : ∃ n, n < R 8 ∧ cs = (fa 8 (dg n)).toList := by
  obtain ⟨xs, m, _, _, hl, hlen, hi⟩ := DataW.trod_array Tryz.underlying23 h
  have hl8 : cs.length = 8 := by rw [hl]; kernel_rfl
  have hc : Tryz.prog.cellsOf 22 = 1 := by kernel_rfl
  have key : ∀ i, i < 8 → ∃ z : Nat, z < 4294967296 ∧ cs[i]? = some (.int .u32 (z : Int)) := by
    intro i h8
    have h1 := hi i h8
    rw [hc, Nat.mul_one] at h1
    obtain ⟨y, hy⟩ : ∃ y, xs[i]? = some y := ⟨_, List.getElem?_eq_getElem (by omega)⟩
    rw [hy] at h1
    obtain ⟨n, h2, _, h3⟩ := DataW.trod_int Tryz.underlying22 h1
    have h4 : 0 ≤ n ∧ n ≤ 4294967295 := of_wf h3
    exact ⟨n.toNat, by omega, by rw [one_of h2, Int.toNat_of_nonneg h4.1]⟩
  have hf : ∀ i, numV (cs.getD i .nilFunc) < 4294967296 := by
    intro i
    rcases Nat.lt_or_ge i 8 with h8 | h8
    · obtain ⟨z, h1, h2⟩ := key i h8
      rw [List.getD_eq_getElem?_getD, h2]
      show ((z : Int)).toNat < _
      omega
    · rw [List.getD_eq_getElem?_getD, List.getElem?_eq_none (by omega)]
      show 0 < _
      omega
  refine ⟨va (fun i => numV (cs.getD i .nilFunc)) 8, va_lt _ hf 8, List.ext_getElem? fun i => ?_⟩
  show cs[i]? = ((List.range 8).map fun i => Value.int .u32 ((dg (va (fun i => numV (cs.getD i .nilFunc)) 8) i : Nat) : Int))[i]?
  rw [List.getElem?_map]
  rcases Nat.lt_or_ge i 8 with h8 | h8
  · obtain ⟨z, h1, h2⟩ := key i h8
    rw [List.getElem?_range h8]
    show cs[i]? = some (Value.int .u32 ((dg (va (fun i => numV (cs.getD i .nilFunc)) 8) i : Nat) : Int))
    rw [dg_va _ hf 8 i h8, h2, List.getD_eq_getElem?_getD, h2]
    show some (Value.int .u32 (z : Int)) = some (.int .u32 (((z : Int).toNat : Nat) : Int))
    rw [Int.toNat_natCast]
  · rw [List.getElem?_eq_none (by omega), List.getElem?_eq_none (by simpa using h8)]
    rfl
set_option maxRecDepth 100000 in
theorem trod_frac {H : Type} {enc : TypeId × Value → H} {W : World} {sp : Nat → Bool} {fuel : Nat} {cs : List Value} {x : DataW H × List MemPlace} (h : DataW.trod enc Tryz.prog W 0 sp true fuel 25 cs = some x) : ∃ s n d, cs = (frcC s n d).toList ∧ n < R 8 ∧ d < R 8 := by
  obtain ⟨y0, y1, y2, m, _, hl, h0, h1, h2⟩ := Go.Deep.trod_struct3 Tryz.underlying25 h
  have hl17 : cs.length = 17 := by rw [hl]; kernel_rfl
  have c0 : Tryz.prog.cellsOf 4 = 1 := by kernel_rfl
  have c1 : Tryz.prog.cellsOf 23 = 8 := by kernel_rfl
  obtain ⟨s, hs, _⟩ := DataW.trod_bool Tryz.underlying4 h0
  obtain ⟨n, hn, e1⟩ := trod_arr h1
  obtain ⟨d, hd, e2⟩ := trod_arr h2
  rw [c0] at hs
  rw [c1] at e1 e2
  refine ⟨s, n, d, ?_, hn, hd⟩
  have e0 : cs.take 1 = [.bool s] := hs
  have e3 : cs = cs.take 1 ++ ((cs.drop 1).take 8 ++ (cs.drop 9).take 8) := by
    have a1 : (cs.drop 9).take 8 = cs.drop 9 := List.take_of_length_le (by rw [List.length_drop]; omega)
    have a2 : (cs.drop 1).drop 8 = cs.drop 9 := by rw [List.drop_drop]
    rw [a1, ← a2, List.take_append_drop, List.take_append_drop]
  rw [e3, e0, e1, e2]
  unfold frcC
  simp
end Go.Proofs.YtalmflgkbmnghaaGreatDoor

import Derived.Test.YthpooalhibedpaaG07
/- ShipLies: the law holds for every input; no condition but the row's own. -/
set_option linter.unusedVariables false
set_option linter.unusedSimpArgs false
set_option linter.unusedSectionVars false
/- What came in: a ship, with its sizes. -/
namespace Go.Proofs.Ythpooalhibedpaa
open Go Go.RowKit Tw Go.ChangeShapes Go.WideShapes
def colS (w : World) (c : Col) : Prop := intOk w c.bay ∧ intOk w c.row ∧ intOk w c.tiers ∧ intOk w c.height ∧ intOk w c.k20 ∧ intOk w c.k40 ∧ intOk w c.lash ∧ ListS inC intOk 8 w c.pp c.pc c.plugs ∧ intOk w c.x ∧ intOk w c.y ∧ intOk w c.z
def covS (w : World) (o : Cov) : Prop := intOk w o.bay ∧ ListS inC intOk 8 w o.rp o.rc o.rows
def tkS (w : World) (t : Tk) : Prop := intOk w t.kilos ∧ intOk w t.x ∧ intOk w t.y ∧ intOk w t.z ∧ intOk w t.surface ∧ ListS inC intOk 8 w t.sp t.sc t.steps
set_option maxHeartbeats 1000000 in
theorem opensS_col : OpensS Try.prog 49 colC colS := by
  intro H enc w base sp held fuel cs x h hwt
  obtain ⟨hl, hf⟩ := trod_fldS Try.underlying49 h hwt
  have ci : Try.prog.cellsOf 3 = 1 := by kernel_rfl
  have cn : Try.prog.cellsOf 49 = 12 := by kernel_rfl
  rw [cn] at hl
  obtain ⟨v0, v1, v2, v3, v4, v5, v6, v7, v8, v9, v10, v11, rfl⟩ : ∃ v0 v1 v2 v3 v4 v5 v6 v7 v8 v9 v10 v11, cs = [v0, v1, v2, v3, v4, v5, v6, v7, v8, v9, v10, v11] := by
    rcases cs with _ | ⟨v0, _ | ⟨v1, _ | ⟨v2, _ | ⟨v3, _ | ⟨v4, _ | ⟨v5, _ | ⟨v6, _ | ⟨v7, _ | ⟨v8, _ | ⟨v9, _ | ⟨v10, _ | ⟨v11, _ | ⟨vx, cs⟩⟩⟩⟩⟩⟩⟩⟩⟩⟩⟩⟩⟩ <;> simp at hl
    exact ⟨v0, v1, v2, v3, v4, v5, v6, v7, v8, v9, v10, v11, rfl⟩
  have key : ∀ (i : Nat) (f : Field) (v : Value), (#[v0, v1, v2, v3, v4, v5, v6, v7, v8, v9, v10, v11] : Array Value)[i]? = some v → f.type = 3 → f.offset = i → (∃ n y, DataW.trod enc Try.prog w base sp held n f.type ((([v0, v1, v2, v3, v4, v5, v6, v7, v8, v9, v10, v11] : List Value).drop f.offset).take (Try.prog.cellsOf f.type)) = some y) → ∃ n : Int, v = .int .i64 n ∧ -9223372036854775808 ≤ n ∧ n ≤ 9223372036854775807 := by
    intro i f v hv ht ho ⟨n, y, hy⟩
    rw [ht, ci, ho] at hy
    obtain ⟨z, hz, hz1, hz2⟩ := fld_int (P := Try.prog) Try.underlying3 hy
    have hv2 : ([v0, v1, v2, v3, v4, v5, v6, v7, v8, v9, v10, v11] : List Value)[i]? = some v := by simpa using hv
    obtain ⟨hi, hvi⟩ := List.getElem?_eq_some_iff.1 hv2
    rw [List.drop_eq_getElem_cons hi, hvi] at hz
    have hz0 : v = .int .i64 z := by simpa using hz
    have m1 : IntKind.i64.min = -9223372036854775808 := by decide
    have m2 : IntKind.i64.max = 9223372036854775807 := by decide
    rw [m1] at hz1; rw [m2] at hz2
    exact ⟨z, hz0, hz1, hz2⟩
  obtain ⟨n0, e0, a0, b0⟩ := key 0 _ v0 rfl rfl rfl (by obtain ⟨n9, y9, h9, _⟩ := hf 0 _ rfl; exact ⟨n9, y9, h9⟩)
  subst e0
  obtain ⟨n1, e1, a1, b1⟩ := key 1 _ v1 rfl rfl rfl (by obtain ⟨n9, y9, h9, _⟩ := hf 1 _ rfl; exact ⟨n9, y9, h9⟩)
  subst e1
  obtain ⟨m2, y2, h2, w2⟩ := hf 2 _ rfl
  obtain ⟨n2, hd2⟩ := fld_bool (P := Try.prog) Try.underlying4 h2
  have c2 : Try.prog.cellsOf 4 = 1 := by kernel_rfl
  have e2 : v2 = .bool n2 := by
    have hd : (([.int .i64 n0, .int .i64 n1, v2, v3, v4, v5, v6, v7, v8, v9, v10, v11] : List Value).drop 2).take (Try.prog.cellsOf 4) = [.bool n2] := hd2
    rw [c2] at hd
    simpa using hd
  subst e2
  obtain ⟨n3, e3, a3, b3⟩ := key 3 _ v3 rfl rfl rfl (by obtain ⟨n9, y9, h9, _⟩ := hf 3 _ rfl; exact ⟨n9, y9, h9⟩)
  subst e3
  obtain ⟨n4, e4, a4, b4⟩ := key 4 _ v4 rfl rfl rfl (by obtain ⟨n9, y9, h9, _⟩ := hf 4 _ rfl; exact ⟨n9, y9, h9⟩)
  subst e4
  obtain ⟨n5, e5, a5, b5⟩ := key 5 _ v5 rfl rfl rfl (by obtain ⟨n9, y9, h9, _⟩ := hf 5 _ rfl; exact ⟨n9, y9, h9⟩)
  subst e5
  obtain ⟨n6, e6, a6, b6⟩ := key 6 _ v6 rfl rfl rfl (by obtain ⟨n9, y9, h9, _⟩ := hf 6 _ rfl; exact ⟨n9, y9, h9⟩)
  subst e6
  obtain ⟨n7, e7, a7, b7⟩ := key 7 _ v7 rfl rfl rfl (by obtain ⟨n9, y9, h9, _⟩ := hf 7 _ rfl; exact ⟨n9, y9, h9⟩)
  subst e7
  obtain ⟨m8, y8, h8, w8⟩ := hf 8 _ rfl
  obtain ⟨p8, q8, n8, hd8, ok8⟩ := trod_recsS (sz := 1) (by_ := 8) Try.underlying39 (OpensS.of opens_in) (by kernel_rfl) (by omega) (fun _ => rfl) (by kernel_rfl) h8 w8
  have c8 : Try.prog.cellsOf 39 = 1 := by kernel_rfl
  have e8 : v8 = .slice p8 n8.length q8 := by
    have hd : (([.int .i64 n0, .int .i64 n1, .bool n2, .int .i64 n3, .int .i64 n4, .int .i64 n5, .int .i64 n6, .int .i64 n7, v8, v9, v10, v11] : List Value).drop 8).take (Try.prog.cellsOf 39) = [.slice p8 n8.length q8] := hd8
    rw [c8] at hd
    simpa using hd
  subst e8
  obtain ⟨n9, e9, a9, b9⟩ := key 9 _ v9 rfl rfl rfl (by obtain ⟨n9, y9, h9, _⟩ := hf 9 _ rfl; exact ⟨n9, y9, h9⟩)
  subst e9
  obtain ⟨n10, e10, a10, b10⟩ := key 10 _ v10 rfl rfl rfl (by obtain ⟨n9, y9, h9, _⟩ := hf 10 _ rfl; exact ⟨n9, y9, h9⟩)
  subst e10
  obtain ⟨n11, e11, a11, b11⟩ := key 11 _ v11 rfl rfl rfl (by obtain ⟨n9, y9, h9, _⟩ := hf 11 _ rfl; exact ⟨n9, y9, h9⟩)
  subst e11
  exact ⟨⟨n0, n1, n2, n3, n4, n5, n6, n7, n8, p8, q8, n9, n10, n11⟩, rfl, ⟨a0, b0⟩, ⟨a1, b1⟩, ⟨a3, b3⟩, ⟨a4, b4⟩, ⟨a5, b5⟩, ⟨a6, b6⟩, ⟨a7, b7⟩, ok8, ⟨a9, b9⟩, ⟨a10, b10⟩, ⟨a11, b11⟩⟩
set_option maxHeartbeats 1000000 in
theorem opensS_cov : OpensS Try.prog 51 covC covS := by
  intro H enc w base sp held fuel cs x h hwt
  obtain ⟨hl, hf⟩ := trod_fldS Try.underlying51 h hwt
  have ci : Try.prog.cellsOf 3 = 1 := by kernel_rfl
  have cn : Try.prog.cellsOf 51 = 2 := by kernel_rfl
  rw [cn] at hl
  obtain ⟨v0, v1, rfl⟩ : ∃ v0 v1, cs = [v0, v1] := by
    rcases cs with _ | ⟨v0, _ | ⟨v1, _ | ⟨vx, cs⟩⟩⟩ <;> simp at hl
    exact ⟨v0, v1, rfl⟩
  have key : ∀ (i : Nat) (f : Field) (v : Value), (#[v0, v1] : Array Value)[i]? = some v → f.type = 3 → f.offset = i → (∃ n y, DataW.trod enc Try.prog w base sp held n f.type ((([v0, v1] : List Value).drop f.offset).take (Try.prog.cellsOf f.type)) = some y) → ∃ n : Int, v = .int .i64 n ∧ -9223372036854775808 ≤ n ∧ n ≤ 9223372036854775807 := by
    intro i f v hv ht ho ⟨n, y, hy⟩
    rw [ht, ci, ho] at hy
    obtain ⟨z, hz, hz1, hz2⟩ := fld_int (P := Try.prog) Try.underlying3 hy
    have hv2 : ([v0, v1] : List Value)[i]? = some v := by simpa using hv
    obtain ⟨hi, hvi⟩ := List.getElem?_eq_some_iff.1 hv2
    rw [List.drop_eq_getElem_cons hi, hvi] at hz
    have hz0 : v = .int .i64 z := by simpa using hz
    have m1 : IntKind.i64.min = -9223372036854775808 := by decide
    have m2 : IntKind.i64.max = 9223372036854775807 := by decide
    rw [m1] at hz1; rw [m2] at hz2
    exact ⟨z, hz0, hz1, hz2⟩
  obtain ⟨n0, e0, a0, b0⟩ := key 0 _ v0 rfl rfl rfl (by obtain ⟨n9, y9, h9, _⟩ := hf 0 _ rfl; exact ⟨n9, y9, h9⟩)
  subst e0
  obtain ⟨m1, y1, h1, w1⟩ := hf 1 _ rfl
  obtain ⟨p1, q1, n1, hd1, ok1⟩ := trod_recsS (sz := 1) (by_ := 8) Try.underlying39 (OpensS.of opens_in) (by kernel_rfl) (by omega) (fun _ => rfl) (by kernel_rfl) h1 w1
  have c1 : Try.prog.cellsOf 39 = 1 := by kernel_rfl
  have e1 : v1 = .slice p1 n1.length q1 := by
    have hd : (([.int .i64 n0, v1] : List Value).drop 1).take (Try.prog.cellsOf 39) = [.slice p1 n1.length q1] := hd1
    rw [c1] at hd
    simpa using hd
  subst e1
  exact ⟨⟨n0, n1, p1, q1⟩, rfl, ⟨a0, b0⟩, ok1⟩
set_option maxHeartbeats 1000000 in
theorem opensS_tk : OpensS Try.prog 88 tkC tkS := by
  intro H enc w base sp held fuel cs x h hwt
  obtain ⟨hl, hf⟩ := trod_fldS Try.underlying88 h hwt
  have ci : Try.prog.cellsOf 3 = 1 := by kernel_rfl
  have cn : Try.prog.cellsOf 88 = 6 := by kernel_rfl
  rw [cn] at hl
  obtain ⟨v0, v1, v2, v3, v4, v5, rfl⟩ : ∃ v0 v1 v2 v3 v4 v5, cs = [v0, v1, v2, v3, v4, v5] := by
    rcases cs with _ | ⟨v0, _ | ⟨v1, _ | ⟨v2, _ | ⟨v3, _ | ⟨v4, _ | ⟨v5, _ | ⟨vx, cs⟩⟩⟩⟩⟩⟩⟩ <;> simp at hl
    exact ⟨v0, v1, v2, v3, v4, v5, rfl⟩
  have key : ∀ (i : Nat) (f : Field) (v : Value), (#[v0, v1, v2, v3, v4, v5] : Array Value)[i]? = some v → f.type = 3 → f.offset = i → (∃ n y, DataW.trod enc Try.prog w base sp held n f.type ((([v0, v1, v2, v3, v4, v5] : List Value).drop f.offset).take (Try.prog.cellsOf f.type)) = some y) → ∃ n : Int, v = .int .i64 n ∧ -9223372036854775808 ≤ n ∧ n ≤ 9223372036854775807 := by
    intro i f v hv ht ho ⟨n, y, hy⟩
    rw [ht, ci, ho] at hy
    obtain ⟨z, hz, hz1, hz2⟩ := fld_int (P := Try.prog) Try.underlying3 hy
    have hv2 : ([v0, v1, v2, v3, v4, v5] : List Value)[i]? = some v := by simpa using hv
    obtain ⟨hi, hvi⟩ := List.getElem?_eq_some_iff.1 hv2
    rw [List.drop_eq_getElem_cons hi, hvi] at hz
    have hz0 : v = .int .i64 z := by simpa using hz
    have m1 : IntKind.i64.min = -9223372036854775808 := by decide
    have m2 : IntKind.i64.max = 9223372036854775807 := by decide
    rw [m1] at hz1; rw [m2] at hz2
    exact ⟨z, hz0, hz1, hz2⟩
  obtain ⟨n0, e0, a0, b0⟩ := key 0 _ v0 rfl rfl rfl (by obtain ⟨n9, y9, h9, _⟩ := hf 0 _ rfl; exact ⟨n9, y9, h9⟩)
  subst e0
  obtain ⟨n1, e1, a1, b1⟩ := key 1 _ v1 rfl rfl rfl (by obtain ⟨n9, y9, h9, _⟩ := hf 1 _ rfl; exact ⟨n9, y9, h9⟩)
  subst e1
  obtain ⟨n2, e2, a2, b2⟩ := key 2 _ v2 rfl rfl rfl (by obtain ⟨n9, y9, h9, _⟩ := hf 2 _ rfl; exact ⟨n9, y9, h9⟩)
  subst e2
  obtain ⟨n3, e3, a3, b3⟩ := key 3 _ v3 rfl rfl rfl (by obtain ⟨n9, y9, h9, _⟩ := hf 3 _ rfl; exact ⟨n9, y9, h9⟩)
  subst e3
  obtain ⟨n4, e4, a4, b4⟩ := key 4 _ v4 rfl rfl rfl (by obtain ⟨n9, y9, h9, _⟩ := hf 4 _ rfl; exact ⟨n9, y9, h9⟩)
  subst e4
  obtain ⟨m5, y5, h5, w5⟩ := hf 5 _ rfl
  obtain ⟨p5, q5, n5, hd5, ok5⟩ := trod_recsS (sz := 1) (by_ := 8) Try.underlying39 (OpensS.of opens_in) (by kernel_rfl) (by omega) (fun _ => rfl) (by kernel_rfl) h5 w5
  have c5 : Try.prog.cellsOf 39 = 1 := by kernel_rfl
  have e5 : v5 = .slice p5 n5.length q5 := by
    have hd : (([.int .i64 n0, .int .i64 n1, .int .i64 n2, .int .i64 n3, .int .i64 n4, v5] : List Value).drop 5).take (Try.prog.cellsOf 39) = [.slice p5 n5.length q5] := hd5
    rw [c5] at hd
    simpa using hd
  subst e5
  exact ⟨⟨n0, n1, n2, n3, n4, n5, p5, q5⟩, rfl, ⟨a0, b0⟩, ⟨a1, b1⟩, ⟨a2, b2⟩, ⟨a3, b3⟩, ⟨a4, b4⟩, ok5⟩
def spS (w : World) (s : Sp) : Prop := ListS colC colS 112 w s.pc s.cc s.cs ∧ ListS covC covS 32 w s.po s.co s.os ∧ n4Ok w s.li ∧ ListS n5C n5Ok 40 w s.pr s.cr s.rs ∧ ListS n5C n5Ok 40 w s.pf s.cf s.fs ∧ ListS tkC tkS 64 w s.pt s.ct s.ts ∧ n4Ok w s.lm
set_option maxHeartbeats 2000000 in
theorem opensS_ship : OpensS Try.prog 32 spC spS := by
  intro H enc w base sp held fuel cs x h hwt
  obtain ⟨hl, hf⟩ := trod_fldS Try.underlying32 h hwt
  have cn : Try.prog.cellsOf 32 = 13 := by kernel_rfl
  rw [cn] at hl
  obtain ⟨v0, v1, v2, v3, v4, v5, v6, v7, v8, v9, v10, v11, v12, rfl⟩ : ∃ v0 v1 v2 v3 v4 v5 v6 v7 v8 v9 v10 v11 v12, cs = [v0, v1, v2, v3, v4, v5, v6, v7, v8, v9, v10, v11, v12] := by
    rcases cs with _ | ⟨v0, _ | ⟨v1, _ | ⟨v2, _ | ⟨v3, _ | ⟨v4, _ | ⟨v5, _ | ⟨v6, _ | ⟨v7, _ | ⟨v8, _ | ⟨v9, _ | ⟨v10, _ | ⟨v11, _ | ⟨v12, _ | ⟨vx, cs⟩⟩⟩⟩⟩⟩⟩⟩⟩⟩⟩⟩⟩⟩ <;> simp at hl
    exact ⟨v0, v1, v2, v3, v4, v5, v6, v7, v8, v9, v10, v11, v12, rfl⟩
  obtain ⟨m0, y0, h0, w0⟩ := hf 0 _ rfl
  obtain ⟨p0, q0, n0, hd0, ok0⟩ := trod_recsS (sz := 12) (by_ := 112) Try.underlying22 opensS_col (by kernel_rfl) (by omega) (fun _ => rfl) (by kernel_rfl) h0 w0
  have e0 : v0 = .slice p0 n0.length q0 := by
    have c : Try.prog.cellsOf 22 = 1 := by kernel_rfl
    have hd : (([v0, v1, v2, v3, v4, v5, v6, v7, v8, v9, v10, v11, v12] : List Value).drop 0).take (Try.prog.cellsOf 22) = [.slice p0 n0.length q0] := hd0
    rw [c] at hd
    simpa using hd
  obtain ⟨m1, y1, h1, w1⟩ := hf 1 _ rfl
  obtain ⟨p1, q1, n1, hd1, ok1⟩ := trod_recsS (sz := 2) (by_ := 32) Try.underlying23 opensS_cov (by kernel_rfl) (by omega) (fun _ => rfl) (by kernel_rfl) h1 w1
  have e1 : v1 = .slice p1 n1.length q1 := by
    have c : Try.prog.cellsOf 23 = 1 := by kernel_rfl
    have hd : (([v0, v1, v2, v3, v4, v5, v6, v7, v8, v9, v10, v11, v12] : List Value).drop 1).take (Try.prog.cellsOf 23) = [.slice p1 n1.length q1] := hd1
    rw [c] at hd
    simpa using hd
  obtain ⟨m6, y6, h6, w6⟩ := hf 3 _ rfl
  obtain ⟨p6, q6, n6, hd6, ok6⟩ := trod_recsS (sz := 5) (by_ := 40) Try.underlying26 (OpensS.of opens_row) (by kernel_rfl) (by omega) (fun _ => rfl) (by kernel_rfl) h6 w6
  have e6 : v6 = .slice p6 n6.length q6 := by
    have c : Try.prog.cellsOf 26 = 1 := by kernel_rfl
    have hd : (([v0, v1, v2, v3, v4, v5, v6, v7, v8, v9, v10, v11, v12] : List Value).drop 6).take (Try.prog.cellsOf 26) = [.slice p6 n6.length q6] := hd6
    rw [c] at hd
    simpa using hd
  obtain ⟨m7, y7, h7, w7⟩ := hf 4 _ rfl
  obtain ⟨p7, q7, n7, hd7, ok7⟩ := trod_recsS (sz := 5) (by_ := 40) Try.underlying27 (OpensS.of opens_frame) (by kernel_rfl) (by omega) (fun _ => rfl) (by kernel_rfl) h7 w7
  have e7 : v7 = .slice p7 n7.length q7 := by
    have c : Try.prog.cellsOf 27 = 1 := by kernel_rfl
    have hd : (([v0, v1, v2, v3, v4, v5, v6, v7, v8, v9, v10, v11, v12] : List Value).drop 7).take (Try.prog.cellsOf 27) = [.slice p7 n7.length q7] := hd7
    rw [c] at hd
    simpa using hd
  obtain ⟨m8, y8, h8, w8⟩ := hf 5 _ rfl
  obtain ⟨p8, q8, n8, hd8, ok8⟩ := trod_recsS (sz := 6) (by_ := 64) Try.underlying28 opensS_tk (by kernel_rfl) (by omega) (fun _ => rfl) (by kernel_rfl) h8 w8
  have e8 : v8 = .slice p8 n8.length q8 := by
    have c : Try.prog.cellsOf 28 = 1 := by kernel_rfl
    have hd : (([v0, v1, v2, v3, v4, v5, v6, v7, v8, v9, v10, v11, v12] : List Value).drop 8).take (Try.prog.cellsOf 28) = [.slice p8 n8.length q8] := hd8
    rw [c] at hd
    simpa using hd
  obtain ⟨m2, y2, h2, w2⟩ := hf 2 _ rfl
  obtain ⟨r2, hd2, ok2⟩ := opens_light _ _ _ _ _ _ _ _ _ h2
  have e2 : v2 = .int .i64 r2.a ∧ v3 = .int .i64 r2.b ∧ v4 = .int .i64 r2.c ∧ v5 = .int .i64 r2.d := by
    have c : Try.prog.cellsOf 25 = 4 := by kernel_rfl
    have hd : (([v0, v1, v2, v3, v4, v5, v6, v7, v8, v9, v10, v11, v12] : List Value).drop 2).take (Try.prog.cellsOf 25) = n4C r2 := hd2
    rw [c] at hd
    unfold n4C at hd
    simpa using hd
  obtain ⟨m9, y9, h9, w9⟩ := hf 6 _ rfl
  obtain ⟨r9, hd9, ok9⟩ := opens_limits _ _ _ _ _ _ _ _ _ h9
  have e9 : v9 = .int .i64 r9.a ∧ v10 = .int .i64 r9.b ∧ v11 = .int .i64 r9.c ∧ v12 = .int .i64 r9.d := by
    have c : Try.prog.cellsOf 30 = 4 := by kernel_rfl
    have hd : (([v0, v1, v2, v3, v4, v5, v6, v7, v8, v9, v10, v11, v12] : List Value).drop 9).take (Try.prog.cellsOf 30) = n4C r9 := hd9
    rw [c] at hd
    unfold n4C at hd
    simpa using hd
  obtain ⟨f2, f3, f4, f5⟩ := e2
  obtain ⟨f9, f10, f11, f12⟩ := e9
  refine ⟨⟨n0, p0, q0, n1, p1, q1, r2, n6, p6, q6, n7, p7, q7, n8, p8, q8, r9⟩, ?_, ok0, ok1, ok2, ok6, ok7, ok8, ok9⟩
  rw [e0, e1, f2, f3, f4, f5, e6, e7, e8, f9, f10, f11, f12]
  rfl
theorem spS_in {w : World} {s : Sp} (h : spS w s) (hf : fewX s.cs s.os = true) : SpIn w s := by
  obtain ⟨f1, f2, f3, f4⟩ := few_is hf
  obtain ⟨⟨⟨c1, c2, _, _⟩, _⟩, ⟨⟨o1, o2, _, _⟩, _⟩, _, ⟨⟨r1, _, _, _⟩, r5⟩, ⟨⟨g1, _, _, _⟩, g5⟩, ⟨⟨t1, t2, _, _⟩, t5⟩, _⟩ := h
  unfold reachBytes at r5 g5 t5
  exact ⟨by omega, by omega, fun o ho => by have := f3 o ho; omega, fun o ho => by have := f4 o ho; omega, by omega, by omega, by omega,
    fun o ho => by have h8 := (t2 o ho).2.2.2.2.2.2; unfold reachBytes at h8; omega,
    c1, o1, fun o ho => (c2 o ho).2.2.2.2.2.2.2.1.1.1, fun o ho => (o2 o ho).2.1.1, r1, g1, t1, fun o ho => (t2 o ho).2.2.2.2.2.1.1⟩
theorem spS_law {w : World} {s : Sp} (h : spS w s) : s.cs.length ≤ 17592186044403 ∧ s.os.length ≤ 17592186044403 ∧ (∀ o ∈ s.os, o.rows.length ≤ 17592186044403) ∧ (∀ c ∈ s.cs, c.plugs.length ≤ 17592186044403) ∧ (∀ c ∈ s.cs, rowOk c) ∧ SLV w s.pc (s.cs.flatMap colC) ∧ SLV w s.po (s.os.flatMap covC) := by
  obtain ⟨⟨⟨c1, c2, _, _⟩, c5⟩, ⟨⟨o1, o2, _, _⟩, o5⟩, _⟩ := h
  unfold reachBytes at c5 o5
  exact ⟨by omega, by omega, fun o ho => by have h8 := (o2 o ho).2.2; unfold reachBytes at h8; omega, fun o ho => by have h8 := (c2 o ho).2.2.2.2.2.2.2.1.2; unfold reachBytes at h8; omega,
    fun c hc => (c2 c hc).2.1, c1, o1⟩
end Go.Proofs.Ythpooalhibedpaa
/- ShipLies holds for every input: the program's own answer is true; each argument reads afterwards as it read before. -/
namespace Go.Proofs.Ythpooalhibedpaa
open Go.ChangeShapes Go.WideShapes Go.ChangeAt Go.RowKit Tw
set_option maxRecDepth 100000 in
theorem shipLies_lifted (os : Os) (started : os.Started) (H : Type) (enc : TypeId × Value → H) :
    ReturnsInHanded {} Try.checked os 4 .any (Rows.shipLiesSpec.pre6 enc Try.prog Try.f4 Rows.shipLiesRow.domain false) (Rows.shipLiesSpec.post enc Try.prog Try.f4 false true false false) := by
  refine returnsInHanded_of_change_sized (C := Try.checked) own started (by kernel_rfl) Try.func4
    (ChangeSpec.witness6 (enc := enc) (C := Try.checked) false ⟨#[], #[.agg #[.slice none 0 0, .slice none 0 0, .int .i64 0, .int .i64 0, .int .i64 0, .int .i64 0, .slice none 0 0, .slice none 0 0, .slice none 0 0, .int .i64 0, .int .i64 0, .int .i64 0, .int .i64 0], .int .i64 0, .int .i64 0], []⟩ 8 (by kernel_rfl) (by kernel_rfl) (by kernel_rfl) (by kernel_rfl)) ?_
  intro W base args ds gs before hval0 hW _ hsz _
  have hval : ∀ (j : Nat) t v, Try.f4.params[j]? = some t → args[j]? = some v → Value.okWide Try.prog W .any base t v := hval0
  have hW2 := hW
  obtain ⟨p, q, hA0, hV, rfl, hfz, hnd⟩ := hW2
  have hA : DataW.TrodAll enc Try.prog W 0 (fun _ => true) true Try.f4.params.toList args.toList ds p := hA0
  rw [Try.params4] at hA hval
  obtain ⟨v0, vs0, d0, ds0, p0, q0, hargs, rfl, rfl, h0, r0⟩ := trodAll_cons hA
  obtain ⟨v1, vs1, d1, ds1, p1, q1, rfl, rfl, rfl, h1, r1⟩ := trodAll_cons r0
  obtain ⟨v2, vs2, d2, ds2, p2, q2, rfl, rfl, rfl, h2, r2⟩ := trodAll_cons r1
  obtain ⟨rfl, rfl, rfl⟩ := trodAll_nil r2
  obtain rfl : args = #[v0, v1, v2] := by cases args; simp_all
  obtain ⟨rfl, rfl⟩ := trodVars_none hV
  have k0 := h0
  have lt0 : ∀ x ∈ p0, x.block < W.heap.size := by obtain ⟨m, hm⟩ := k0; exact DataW.trod_lt m _ _ _ hm
  obtain ⟨y0, rfl, ok0⟩ := open_recS Try.underlying32 opensS_ship (hval 0 32 v0 rfl rfl) h0 (sized_par (j := 0) (t := 32) hsz rfl rfl)
  obtain ⟨a1, rfl, rfl, rfl, w1⟩ := open_int Try.underlying3 (hval 1 3 v1 rfl rfl) h1
  have rr1 : -9223372036854775808 ≤ a1 ∧ a1 ≤ 9223372036854775807 := of_wf w1
  obtain ⟨a2, rfl, rfl, rfl, w2⟩ := open_int Try.underlying3 (hval 2 3 v2 rfl rfl) h2
  have rr2 : -9223372036854775808 ≤ a2 ∧ a2 ≤ 9223372036854775807 := of_wf w2
  clear hA0 hval0
  refine (ShipLies_law y0 (spS_law ok0).1 (spS_law ok0).2.1 (spS_law ok0).2.2.1 (spS_law ok0).2.2.2.1 (spS_law ok0).2.2.2.2.1 a1 a2 W (spS_law ok0).2.2.2.2.2.1 (spS_law ok0).2.2.2.2.2.2 (spS_in ok0)).mono fun e W' ⟨he, bel⟩ => ?_
  subst he
  exact ⟨_, rfl, _, _, _, [], _, [], hW, (trodAll_cons_mk (shut_bool Try.underlying4 _) trodAll_mk0), (trodAll_cons_mk (Below.trod laidOut (by kernel_rfl) (of_decide_eq_true (by kernel_rfl)) k0 bel lt0) (trodAll_cons_mk (shut_int Try.underlying3 w1) (trodAll_cons_mk (shut_int Try.underlying3 w2) trodAll_mk0))), rfl, bel.frame _, fun h => by cases h⟩
theorem shipLies_proved : Rows.ShipLiesSaid :=
  OpenClaim.holds_of_wide 4 Try.f4 rfl rfl rfl rfl rfl rfl rfl ⟨rfl, rfl, rfl, rfl, rfl⟩ rfl rfl rfl rfl rfl (by kernel_rfl) Try.func4 (by kernel_rfl)
    (of_decide_eq_true (by kernel_rfl)) (by unfold Func.isWrapper; first | (rw [if_pos (by decide +kernel)]; kernel_rfl) | (rw [if_neg (by decide +kernel)]; exact ⟨rfl, rfl⟩))
    (fun os started H enc _ => shipLies_lifted os started H enc)
#print axioms shipLies_proved
end Go.Proofs.Ythpooalhibedpaa

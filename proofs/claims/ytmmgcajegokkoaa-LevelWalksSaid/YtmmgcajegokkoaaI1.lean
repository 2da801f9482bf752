/- What each statement asks of the program at one survey, and long lists. -/
import Derived.Test.YtmmgcajegokkoaaH1
set_option linter.unusedVariables false
set_option linter.unusedSimpArgs false
namespace Go.Proofs.Ytmmgcajegokkoaa
open Go.Sx Go.RowKit

theorem RdsAt.blk {w0 w : World} {G : Heap} {b : Nat} {rs : List Rd} {e : TypeId} (hn : New w0 w G) (hm : (b, Obj.cells (recA (rs.map Rd.cells)) e (0, 0)) ∈ G) : RdsAt w (some ⟨b, 0, none⟩) rs := fun j hj =>
  ⟨_, rfl, fun i v hv => by
    rw [add_off, add_off]
    refine hn.cell hm ?_
    have hi : i < 4 := (List.getElem?_eq_some_iff.1 hv).1
    have hf := flatten_get (l := rs.map Rd.cells) (k := 4) (j := j) (i := i) (fun x hx => by obtain ⟨r, _, rfl⟩ := List.mem_map.1 hx; rfl) (by simpa using hj) hi
    simp only [recA, List.getElem?_toArray, Nat.zero_add]
    rw [hf]
    have : (rs.map Rd.cells).getD j [] = (rs.getD j default).cells := by simp [List.getD, hj]
    rw [this]
    exact hv⟩

def rsK : List Rd := [⟨0, 1, 10, 1⟩, ⟨0, 1, 13, 2⟩]
theorem rsK_valid : Valid 2 rsK := by unfold Valid; decide +kernel
def eSafeB (N c : Nat) (f : Nat → Nat → Int) : Bool := (List.range N).all fun k => decide ((eS f k).1 ≠ 0) && (List.range N).all fun i => decide (i = k) || (List.range c).all fun j =>
  decide (-4000000000000000000 ≤ (eS f k).2 k k * (eS f k).2 i j) && decide ((eS f k).2 k k * (eS f k).2 i j ≤ 4000000000000000000) &&
  (decide (-4000000000000000000 ≤ (eS f k).2 i k * (eS f k).2 k j) && decide ((eS f k).2 i k * (eS f k).2 k j ≤ 4000000000000000000))
theorem eSafe_of {N c : Nat} {f : Nat → Nat → Int} (h : eSafeB N c f = true) : eSafe N c f := fun k hk => by
  have h1 := List.all_eq_true.1 h k (List.mem_range.2 hk)
  rw [Bool.and_eq_true] at h1
  refine ⟨of_decide_eq_true h1.1, fun i hi hik j hj => ?_⟩
  have h2 := List.all_eq_true.1 h1.2 i (List.mem_range.2 hi)
  rw [Bool.or_eq_true, decide_eq_true_eq] at h2
  have h3 := List.all_eq_true.1 (h2.resolve_left hik) j (List.mem_range.2 hj)
  simp only [Bool.and_eq_true, decide_eq_true_eq] at h3
  exact h3
theorem sound_of {N : Nat} {rs : List Rd} {loads : List Int} (h1 : eSafeB N (N + 1) (eqG N rs loads) = true) (h2 : 0 < solD N rs loads ∧ solD N rs loads ≤ 1000000000000000000)
    (h3 : (solN N rs loads).all (fun x => decide (-1000000000000000000 ≤ x ∧ x ≤ 1000000000000000000)) = true) : Sound N rs loads := by
  refine ⟨eSafe_of h1, h2, fun j => ?_⟩
  by_cases hj : j < (solN N rs loads).length
  · have := List.all_eq_true.1 h3 ((solN N rs loads).getD j 0) (by simp [List.getD, hj])
    simpa using this
  · simp [List.getD, hj]
theorem sound_best : Sound 2 rsK (bestL 2 rsK) := sound_of (by decide +kernel) (by decide +kernel) (by decide +kernel)
theorem sound_res : Sound 2 rsK (resL 2 0 1) := sound_of (by decide +kernel) (by decide +kernel) (by decide +kernel)
theorem best_known : lowsL (solN 2 rsK (bestL 2 rsK)) (solD 2 rsK (bestL 2 rsK)) = [[.int .i64 0, .int .i64 1], [.int .i64 12, .int .i64 1]] := by
  have h : (solN 2 rsK (bestL 2 rsK)) = [0, 36] ∧ solD 2 rsK (bestL 2 rsK) = 3 := by decide +kernel
  rw [h.1, h.2]
  rfl
theorem error_known : errorV 2 rsK 0 1 = .tuple #[.agg #[.int .i64 1, .int .i64 3], .int .i64 0] := by
  have h1 : validateI 2 rsK = 0 := rsK_valid
  have h2 : (firstsL 2 rsK).getD (0 : Int).toNat 0 = (firstsL 2 rsK).getD (1 : Int).toNat 0 := by decide +kernel
  have h3 : (solN 2 rsK (resL 2 0 1)).getD (1 : Int).toNat 0 - (solN 2 rsK (resL 2 0 1)).getD (0 : Int).toNat 0 = 1 ∧ solD 2 rsK (resL 2 0 1) = 3 := by decide +kernel
  rw [errorV, if_neg (not_not_intro h1), if_neg (by decide), if_neg (not_not_intro h2)]
  show Value.tuple #[resV 2 rsK 0 1, _] = _
  rw [resV, h3.1, h3.2]
  rfl

theorem fill_a (r : Rd) : Instr.fill ([(0, 1), (1, 1), (2, 1), (3, 1)][·]?) #[(Value.int .i64 0), (.int .i64 0), (.int .i64 0), (.int .i64 0)] [(0, Value.int .i64 r.fr), (1, .int .i64 r.to), (2, .int .i64 r.rise), (3, .int .i64 r.wt)] = some (recA [r.cells]) := by kernel_rfl
theorem fill_s : Instr.fill (fun i => some (i * 4, 4)) ((Array.range (2 * 4)).map ((Value.agg #[(.int .i64 0), (.int .i64 0), (.int .i64 0), (.int .i64 0)]).cells[· % (Value.agg #[(.int .i64 0), (.int .i64 0), (.int .i64 0), (.int .i64 0)]).cells.size]!)) [(0, .agg (recA [Rd.cells ⟨0, 1, 10, 1⟩])), (1, .agg (recA [Rd.cells ⟨0, 1, 13, 2⟩]))] = some (recA (rsK.map Rd.cells)) := by kernel_rfl
theorem eq46_guard (x y : Operand) (a b c d : Int) (w : World) : (eqGuard .eql 46 x y (.agg #[.int .i64 a, .int .i64 b]) (.agg #[.int .i64 c, .int .i64 d])).run Try.prog w = .ok () w :=
  run_eqGuard_agg (w := w) .eql 46 x y _ _ (by kernel_rfl)
theorem eq46_fs : ((Try.prog.fieldsOf 46).toList.map fun f => (f.name != "_", f.type, f.offset)) = [(true, 3, 0), (true, 3, 1)] := by kernel_rfl
theorem eqF2 {P : Program} (w : World) (d : Nat) (a b c e : Int) (t : TypeId) {k : IntKind} (ht : P.underlying t = some (.int k)) (ha : (isAgg t).run P w = .ok false w) {fs : List Field} (h : (fs.map fun f => (f.name != "_", f.type, f.offset)) = [(true, t, 0), (true, t, 1)]) :
   (Op.eqFields (d + 1) #[.int .i64 a, .int .i64 b] #[.int .i64 c, .int .i64 e] fs).run P w = .ok (decide (a = c ∧ b = e)) w := by
  rcases fs with _ | ⟨f, _ | ⟨g, _ | ⟨f3, fs⟩⟩⟩ <;> simp at h
  obtain ⟨⟨h1, h2, h3⟩, h4, h5, h6⟩ := h
  have h7 : (a == c) = decide (a = c) := rfl
  have h8 : (b == e) = decide (b = e) := rfl
  by_cases h1' : a = c <;> by_cases h2' : b = e <;>
    simp [Op.eqFields, h1, h2, h3, h4, h5, h6, part, ha, run_equalIn_int w _ _ _ _ _ _ ht, h1', h2']
theorem eq46 (a b c d : Int) (w : World) : (binOp .eql 46 (.agg #[.int .i64 a, .int .i64 b]) (.agg #[.int .i64 c, .int .i64 d])).run Try.prog w = .ok (.bool (decide (a = c ∧ b = d))) w := by
  rw [run_eql_struct, show (10000 : Nat) = 9998 + 1 + 1 from rfl, run_equalIn_agg w _ _ _ _ (by kernel_rfl) (by kernel_rfl), eqF2 w _ _ _ _ _ 3 (k := .i64) (by kernel_rfl) (by simp [isAgg, run_underlying (show Try.prog.underlying 3 = some (.int .i64) by kernel_rfl)]) eq46_fs]
  rfl

theorem errK (w : World) (p : Option Addr) (hr : RdsAt w p rsK) : Calls Try.prog 44 #[.agg #[.int .i64 2, .slice p 2 2], .int .i64 0, .int .i64 1] w (Post (X := Unit) (fun _ => .tuple #[.agg #[.int .i64 1, .int .i64 3], .int .i64 0]) (fun _ => True) (fun _ => []) w) := by
  have h := error_ok w 2 p 2 rsK hr 0 1 (fun _ _ _ _ => sound_res)
  rw [error_known] at h
  exact h


set_option maxRecDepth 100000 in
theorem long_ok (w0 : World) (n : Int) (p : Option Addr) (len cap : Nat) :
    Calls Try.prog 17 #[sv n p len cap] w0 (Post (X := Unit) (fun _ => .bool (decide (100 < (len : Int)))) (fun _ => True) (fun _ => []) w0) := by
  refine calls Try.func17 rfl (n := 7) rfl (by simp) ?_
  refine TC.seq ?_
  refine TC.region ?_
  refine TL.box rfl rfl (by decide) (fun b0 hb0 => ?_)
  refine TL.pure (PV.assign rfl) rfl (by decide) ?_
  refine TL.nil ?_
  refine TQ.thenC ?_
  refine TC.seq ?_
  refine TC.region ?_
  refine TL.pure (PV.fieldAddr rfl Tb.fo_24_1) rfl (by decide) ?_
  refine TL.pure (PV.load rfl Tb.one_22 (by repeat (first | exact List.Mem.head _ | refine List.Mem.tail _ ?_ | refine List.mem_append_right _ ?_)) rfl) rfl (by decide) ?_
  refine TL.pure (PV.len rfl Tb.sl_22) rfl (by decide) ?_
  refine TL.pure (PV.gtr rfl rfl) rfl (by decide) ?_
  refine TL.pure (PV.assign rfl) rfl (by decide) ?_
  refine TL.nil ?_
  refine TQ.thenC ?_
  refine TC.ret ?_
  refine TQ.retE1 rfl rfl ?_
  exact ⟨(), rfl, trivial, List.nil_sublist _⟩

set_option maxRecDepth 100000 in
theorem known_ok (w0 : World) :
    Calls Try.prog 18 #[] w0 (Post (X := Unit) (fun _ => .bool true) (fun _ => True) (fun _ => []) w0) := by
  refine calls Try.func18 rfl (n := 43) rfl (by simp) ?_
  refine TC.seq ?_
  refine TC.region ?_
  refine TL.pure (PV.assign rfl) rfl (by decide) ?_
  refine TL.nil ?_
  refine TQ.thenC ?_
  refine TC.seq ?_
  refine TC.region ?_
  refine TL.pure (PV.build rfl Tb.zero_61 Tb.pl_61 (fill_a ⟨0, 1, 10, 1⟩)) rfl (by decide) ?_
  refine TL.pure (PV.build rfl Tb.zero_61 Tb.pl_61 (fill_a ⟨0, 1, 13, 2⟩)) rfl (by decide) ?_
  refine TL.buildSlice (cs := recA (rsK.map Rd.cells)) rfl Tb.sl_22 Tb.zi_61 (by decide) fill_s (by decide) rfl (by decide) (fun bS hbS => ?_)
  refine TL.pure (PV.build (cs := #[.int .i64 2, .slice (some ⟨bS, 0, none⟩) 2 2]) rfl Tb.zero_24 Tb.pl_24 (by kernel_rfl)) rfl (by decide) ?_
  refine TL.alloc Tb.zero_24 rfl (by decide) (fun b0 hb0 => ?_)
  refine TL.storeAgg rfl rfl Tb.cells_24 (by repeat (first | exact Upd.head _ | apply Upd.tail | apply Upd.appR)) rfl rfl rfl rfl rfl ?_
  refine TL.nil ?_
  refine TQ.thenC ?_
  refine TC.seq ?_
  refine TC.region ?_
  refine TL.pure (PV.loadBox rfl Tb.agg_24 (by repeat (first | exact List.Mem.head _ | refine List.Mem.tail _ ?_ | refine List.mem_append_right _ ?_)) rfl) rfl (by decide) ?_
  refine TL.call rfl Tb.gofn_35 (fun a w hs => best_ok w 2 (some ⟨bS, 0, none⟩) 2 rsK (RdsAt.blk hs.new (by repeat (first | exact List.Mem.head _ | refine List.Mem.tail _ ?_ | refine List.mem_append_right _ ?_))) rsK_valid sound_best) rfl (by decide) (fun bL _ => ?_)
  refine TL.pure (PV.move rfl) rfl (by decide) ?_
  refine TL.pure (PV.extract rfl rfl) rfl (by decide) ?_
  refine TL.pure (PV.extract rfl rfl) rfl (by decide) ?_
  refine TL.pure (PV.assign rfl) rfl (by decide) ?_
  refine TL.pure (PV.assign rfl) rfl (by decide) ?_
  refine TL.nil ?_
  refine TQ.thenC ?_
  refine TC.seq ?_
  rw [show (2 : Int).toNat = 2 from rfl, best_known]
  refine TC.region ?_
  refine TL.pure (PV.loadBox rfl Tb.agg_24 (by repeat (first | exact List.Mem.head _ | refine List.Mem.tail _ ?_ | refine List.mem_append_right _ ?_)) rfl) rfl (by decide) ?_
  refine TL.call rfl Tb.gofn_44 (fun a w hs => errK w (some ⟨bS, 0, none⟩) (RdsAt.blk hs.new (by repeat (first | exact List.Mem.head _ | refine List.Mem.tail _ ?_ | refine List.mem_append_right _ ?_)))) rfl (by decide) (fun _ _ => ?_)
  refine TL.pure (PV.move rfl) rfl (by decide) ?_
  refine TL.pure (PV.extract rfl rfl) rfl (by decide) ?_
  refine TL.pure (PV.extract rfl rfl) rfl (by decide) ?_
  refine TL.alloc Tb.zero_46 rfl (by decide) (fun b1 hb1 => ?_)
  refine TL.storeAgg rfl rfl Tb.cells_46 (by repeat (first | exact Upd.head _ | apply Upd.tail | apply Upd.appR)) rfl rfl rfl rfl rfl ?_
  refine TL.pure (PV.assign rfl) rfl (by decide) ?_
  refine TL.nil ?_
  refine TQ.thenC ?_
  refine TC.seq ?_
  refine TC.region ?_
  refine TL.pure (PV.move rfl) rfl (by decide) ?_
  refine TL.pure (PV.eql rfl rfl) rfl (by decide) ?_
  refine TL.pure (PV.move rfl) rfl (by decide) ?_
  first | refine TL.splitD 22 rfl (fun h0 => ?_) (fun h0 => ?_) | refine TL.split 22 rfl (fun h0 => ?_) (fun h0 => ?_)
  · skip
    refine TL.pure (PV.move rfl) rfl (by decide) ?_
    refine TL.pure (PV.len rfl Tb.sl_42) rfl (by decide) ?_
    refine TL.pure (PV.eql rfl rfl) rfl (by decide) ?_
    refine TL.pure (PV.pickT rfl rfl) rfl (by decide) ?_
    refine TL.pure (PV.move rfl) rfl (by decide) ?_
    first | refine TL.splitD 27 rfl (fun h1 => ?_) (fun h1 => ?_) | refine TL.split 27 rfl (fun h1 => ?_) (fun h1 => ?_)
    · skip
      refine TL.pure (PV.move rfl) rfl (by decide) ?_
      refine TL.pure (PV.index (j := 1) rfl rfl Tb.elm_42 rfl (by decide)) rfl (by decide) ?_
      refine TL.pure (PV.loadR (rl := [[.int .i64 0, .int .i64 1], [.int .i64 12, .int .i64 1]]) rfl Tb.agg_46 (by repeat (first | exact List.Mem.head _ | refine List.Mem.tail _ ?_ | refine List.mem_append_right _ ?_)) (by decide) (by decide) rfl) rfl (by decide) ?_
      refine TL.pure (PV.build (cs := #[.int .i64 12, .int .i64 1]) rfl Tb.zero_46 Tb.pl_46 (by kernel_rfl)) rfl (by decide) ?_
      refine TL.pure (PV.cmp rfl rfl (eq46_guard _ _ _ _ _ _) (eq46 _ _ _ _)) rfl (by decide) ?_
      refine TL.pure (PV.pickT rfl rfl) rfl (by decide) ?_
      refine TL.pure (PV.move rfl) rfl (by decide) ?_
      first | refine TL.splitD 34 rfl (fun h2 => ?_) (fun h2 => ?_) | refine TL.split 34 rfl (fun h2 => ?_) (fun h2 => ?_)
      · skip
        refine TL.pure (PV.move rfl) rfl (by decide) ?_
        refine TL.pure (PV.eql rfl rfl) rfl (by decide) ?_
        refine TL.pure (PV.pickT rfl rfl) rfl (by decide) ?_
        refine TL.pure (PV.move rfl) rfl (by decide) ?_
        first | refine TL.splitD 38 rfl (fun h3 => ?_) (fun h3 => ?_) | refine TL.split 38 rfl (fun h3 => ?_) (fun h3 => ?_)
        · skip
          refine TL.pure (PV.loadBox rfl Tb.agg_46 (by repeat (first | exact List.Mem.head _ | refine List.Mem.tail _ ?_ | refine List.mem_append_right _ ?_)) rfl) rfl (by decide) ?_
          refine TL.pure (PV.build (cs := #[.int .i64 1, .int .i64 3]) rfl Tb.zero_46 Tb.pl_46 (by kernel_rfl)) rfl (by decide) ?_
          refine TL.pure (PV.cmp rfl rfl (eq46_guard _ _ _ _ _ _) (eq46 _ _ _ _)) rfl (by decide) ?_
          refine TL.pure (PV.pickT rfl rfl) rfl (by decide) ?_
          refine TL.pure (PV.assign rfl) rfl (by decide) ?_
          refine TL.nil ?_
          refine TQ.thenC ?_
          refine TC.ret ?_
          refine TQ.retE1 rfl rfl ?_
          first | exact ⟨(), rfl, trivial, List.nil_sublist _⟩ | (exfalso; simp_all)
        · skip
          refine TL.skip rfl (fun k hk => by cases hk; decide) ?_
          refine TL.skip rfl (fun k hk => by cases hk; decide) ?_
          refine TL.skip rfl (fun k hk => by cases hk; decide) ?_
          refine TL.pure (PV.pickF rfl rfl) rfl (by decide) ?_
          refine TL.pure (PV.assign rfl) rfl (by decide) ?_
          refine TL.nil ?_
          refine TQ.thenC ?_
          refine TC.ret ?_
          refine TQ.retE1 rfl rfl ?_
          first | exact ⟨(), rfl, trivial, List.nil_sublist _⟩ | (exfalso; simp_all)
      · skip
        refine TL.skip rfl (fun k hk => by cases hk; decide) ?_
        refine TL.skip rfl (fun k hk => by cases hk; decide) ?_
        refine TL.pure (PV.pickF rfl rfl) rfl (by decide) ?_
        refine TL.pure (PV.move rfl) rfl (by decide) ?_
        refine TL.skip rfl (fun k hk => by cases hk; decide) ?_
        refine TL.skip rfl (fun k hk => by cases hk; decide) ?_
        refine TL.skip rfl (fun k hk => by cases hk; decide) ?_
        refine TL.pure (PV.pickF rfl rfl) rfl (by decide) ?_
        refine TL.pure (PV.assign rfl) rfl (by decide) ?_
        refine TL.nil ?_
        refine TQ.thenC ?_
        refine TC.ret ?_
        refine TQ.retE1 rfl rfl ?_
        first | exact ⟨(), rfl, trivial, List.nil_sublist _⟩ | (exfalso; simp_all)
    · skip
      refine TL.skip rfl (fun k hk => by cases hk; decide) ?_
      refine TL.skip rfl (fun k hk => by cases hk; decide) ?_
      refine TL.skip rfl (fun k hk => by cases hk; decide) ?_
      refine TL.skip rfl (fun k hk => by cases hk; decide) ?_
      refine TL.skip rfl (fun k hk => by cases hk; decide) ?_
      refine TL.pure (PV.pickF rfl rfl) rfl (by decide) ?_
      refine TL.pure (PV.move rfl) rfl (by decide) ?_
      refine TL.skip rfl (fun k hk => by cases hk; decide) ?_
      refine TL.skip rfl (fun k hk => by cases hk; decide) ?_
      refine TL.pure (PV.pickF rfl rfl) rfl (by decide) ?_
      refine TL.pure (PV.move rfl) rfl (by decide) ?_
      refine TL.skip rfl (fun k hk => by cases hk; decide) ?_
      refine TL.skip rfl (fun k hk => by cases hk; decide) ?_
      refine TL.skip rfl (fun k hk => by cases hk; decide) ?_
      refine TL.pure (PV.pickF rfl rfl) rfl (by decide) ?_
      refine TL.pure (PV.assign rfl) rfl (by decide) ?_
      refine TL.nil ?_
      refine TQ.thenC ?_
      refine TC.ret ?_
      refine TQ.retE1 rfl rfl ?_
      first | exact ⟨(), rfl, trivial, List.nil_sublist _⟩ | (exfalso; simp_all)
  · skip
    refine TL.skip rfl (fun k hk => by cases hk; decide) ?_
    refine TL.skip rfl (fun k hk => by cases hk; decide) ?_
    refine TL.skip rfl (fun k hk => by cases hk; decide) ?_
    refine TL.pure (PV.pickF rfl rfl) rfl (by decide) ?_
    refine TL.pure (PV.move rfl) rfl (by decide) ?_
    refine TL.skip rfl (fun k hk => by cases hk; decide) ?_
    refine TL.skip rfl (fun k hk => by cases hk; decide) ?_
    refine TL.skip rfl (fun k hk => by cases hk; decide) ?_
    refine TL.skip rfl (fun k hk => by cases hk; decide) ?_
    refine TL.skip rfl (fun k hk => by cases hk; decide) ?_
    refine TL.pure (PV.pickF rfl rfl) rfl (by decide) ?_
    refine TL.pure (PV.move rfl) rfl (by decide) ?_
    refine TL.skip rfl (fun k hk => by cases hk; decide) ?_
    refine TL.skip rfl (fun k hk => by cases hk; decide) ?_
    refine TL.pure (PV.pickF rfl rfl) rfl (by decide) ?_
    refine TL.pure (PV.move rfl) rfl (by decide) ?_
    refine TL.skip rfl (fun k hk => by cases hk; decide) ?_
    refine TL.skip rfl (fun k hk => by cases hk; decide) ?_
    refine TL.skip rfl (fun k hk => by cases hk; decide) ?_
    refine TL.pure (PV.pickF rfl rfl) rfl (by decide) ?_
    refine TL.pure (PV.assign rfl) rfl (by decide) ?_
    refine TL.nil ?_
    refine TQ.thenC ?_
    refine TC.ret ?_
    refine TQ.retE1 rfl rfl ?_
    first | exact ⟨(), rfl, trivial, List.nil_sublist _⟩ | (exfalso; simp_all)

end Go.Proofs.Ytmmgcajegokkoaa

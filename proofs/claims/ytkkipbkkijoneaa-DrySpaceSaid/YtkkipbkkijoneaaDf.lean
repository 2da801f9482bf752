/- The example, long lists, and the first laws: contracts. -/
import Derived.Test.YtkkipbkkijoneaaDe
set_option linter.unusedVariables false
set_option linter.unusedSimpArgs false
namespace Go.Proofs.Ytkkipbkkijoneaa
open Go.Sx Go.RowKit

def longB (ss : List St) : Bool := decide (100 < ss.length) || ss.any fun s => decide (100 < s.t.length) || decide (100 < s.g.length)
theorem long_0 {ss : List St} (h : longB ss = false) : SmS ss := by
  unfold longB at h
  rw [Bool.or_eq_false_iff, decide_eq_false_iff_not] at h
  refine ⟨by omega, fun k => ?_⟩
  by_cases hk : k < ss.length
  · have h2 := List.any_eq_false.1 h.2 (ss.getD k default) (by simp [List.getD, hk])
    simp only [Bool.or_eq_true, decide_eq_true_eq, not_or] at h2
    omega
  · have e : ss.getD k default = default := by simp [List.getD, hk]
    rw [e]
    exact ⟨by decide, by decide⟩
theorem fill_2 (a b : Int) : Instr.fill (fun i => some (i * 1, 1)) ((Array.range (2 * 1)).map ((Value.int .i64 0).cells[· % (Value.int .i64 0).cells.size]!)) [(0, .int .i64 a), (1, .int .i64 b)] = some #[.int .i64 a, .int .i64 b] := by kernel_rfl
theorem fill_3 (a b c : Int) : Instr.fill (fun i => some (i * 1, 1)) ((Array.range (3 * 1)).map ((Value.int .i64 0).cells[· % (Value.int .i64 0).cells.size]!)) [(0, .int .i64 a), (1, .int .i64 b), (2, .int .i64 c)] = some #[.int .i64 a, .int .i64 b, .int .i64 c] := by kernel_rfl
theorem fill_st (x y : Option Addr) (n c m d : Nat) : Instr.fill ([(0, 1), (1, 1)][·]?) #[.slice none 0 0, .slice none 0 0] [(0, .slice x n c), (1, .slice y m d)] = some #[.slice x n c, .slice y m d] := by kernel_rfl
theorem fill_yd (n : Int) (y : Option Addr) (m d : Nat) : Instr.fill ([(0, 1), (1, 1)][·]?) #[.int .i64 0, .slice none 0 0] [(0, .int .i64 n), (1, .slice y m d)] = some #[.int .i64 n, .slice y m d] := by kernel_rfl
theorem fill_ss (x y z u : Option Addr) (a b c d e f g h : Nat) : Instr.fill (fun i => some (i * 2, 2)) ((Array.range (2 * 2)).map ((Value.agg #[.slice none 0 0, .slice none 0 0]).cells[· % (Value.agg #[.slice none 0 0, .slice none 0 0]).cells.size]!)) [(0, sv x a b y c d), (1, sv z e f u g h)] = some #[.slice x a b, .slice y c d, .slice z e f, .slice u g h] := by kernel_rfl
def exS : List St := [⟨[1, 0], [0, 1]⟩, ⟨[0, 2], [1, 0]⟩]
theorem exS_at {w0 w : World} {G : Heap} {a b c d s : Nat} {ea : TypeId} (hn : New w0 w G) (h1 : (a, Obj.cells #[.int .i64 1, .int .i64 0] 3 (0, 0)) ∈ G) (h2 : (b, Obj.cells #[.int .i64 0, .int .i64 1] 3 (0, 0)) ∈ G) (h3 : (c, Obj.cells #[.int .i64 0, .int .i64 2] 3 (0, 0)) ∈ G) (h4 : (d, Obj.cells #[.int .i64 1, .int .i64 0] 3 (0, 0)) ∈ G)
    (hs : (s, Obj.cells #[.slice (some ⟨a, 0, none⟩) 2 2, .slice (some ⟨b, 0, none⟩) 2 2, .slice (some ⟨c, 0, none⟩) 2 2, .slice (some ⟨d, 0, none⟩) 2 2] ea (0, 0)) ∈ G) : StsAt w (some ⟨s, 0, none⟩) exS := by
  have i2 : ∀ {b : Nat} {x y : Int}, (b, Obj.cells #[.int .i64 x, .int .i64 y] 3 (0, 0)) ∈ G → IntsAt w (some ⟨b, 0, none⟩) [x, y] := fun {b x y} hm => IntsAt.arr (xs := [x, y]) hn (by simpa [intsA] using hm)
  intro j hj
  have e : j = 0 ∨ j = 1 := by have h9 : j < 2 := hj; omega
  rcases e with rfl | rfl
  · refine ⟨_, rfl, _, _, 2, 2, ?_, ?_, i2 h1, i2 h2⟩ <;> rw [add_off, add_off] <;> exact hn.cell hs rfl
  · refine ⟨_, rfl, _, _, 2, 2, ?_, ?_, i2 h3, i2 h4⟩ <;> rw [add_off, add_off] <;> exact hn.cell hs rfl
theorem exS_sm : SmS exS := ⟨by decide, fun k => by
  match k with
  | 0 => decide
  | 1 => decide
  | k + 2 => exact ⟨by simp [exS, List.getD, default, instInhabitedSt.default], by simp [exS, List.getD, default, instInhabitedSt.default]⟩⟩
theorem ex_run : runR 2 exS [3, 0] [0, 0, 1] = ([2, 0], 3, 0) := by decide +kernel
theorem ints2 {w0 w : World} {G : Heap} {b : Nat} {x y : Int} (hn : New w0 w G) (hm : (b, Obj.cells #[.int .i64 x, .int .i64 y] 3 (0, 0)) ∈ G) : IsI w (.slice (some ⟨b, 0, none⟩) 2 2) [x, y] := IsI.of (xs := [x, y]) (IntsAt.arr (xs := [x, y]) hn (by simpa [intsA] using hm))
theorem ints3 {w0 w : World} {G : Heap} {b : Nat} {x y z : Int} (hn : New w0 w G) (hm : (b, Obj.cells #[.int .i64 x, .int .i64 y, .int .i64 z] 3 (0, 0)) ∈ G) : IsI w (.slice (some ⟨b, 0, none⟩) 3 3) [x, y, z] := IsI.of (xs := [x, y, z]) (IntsAt.arr (xs := [x, y, z]) hn (by simpa [intsA] using hm))
theorem sameGG (w0 w : World) (G : Heap) (h h2 : HD) (xs ys : List Int) (hn : New w0 w G) (ho : goI (h, xs)) (ho2 : goI (h2, ys)) (hm : ∀ y ∈ gbI (h, xs), y ∈ G) (hm2 : ∀ y ∈ gbI (h2, ys), y ∈ G) (hl : xs.length ≤ 1000000) (hl2 : ys.length ≤ 1000000) :
    Calls Try.prog 26 #[gval h xs.length, gval h2 ys.length] w (Post (X := Unit) (fun _ => .bool (decide (xs = ys))) (fun _ => True) (fun _ => []) w) :=
  sameInts_ok w _ xs (IsI.g hn hm ho) _ ys (IsI.g hn hm2 ho2) hl hl2
theorem doRL_l {n : Int} {ss : List St} {xs : List Int} {i : Int} (h : xs.length ≤ 1000000) : (doRL n ss xs i).length ≤ 1000000 := by
  unfold doRL
  split
  · exact Nat.zero_le _
  · unfold doL
    split
    · rw [doN_len]; exact h
    · exact Nat.zero_le _
theorem runR_l {n : Int} {ss : List St} {xs ls : List Int} (h : xs.length ≤ 1000000) : (runR n ss xs ls).1.length ≤ 1000000 := by
  unfold runR
  split
  · exact Nat.zero_le _
  · split
    · exact Nat.zero_le _
    · have := rn_len (ss := ss) ls xs 0
      omega
theorem not_large {xs : List Int} (h : decide (100 < xs.length) = false) : xs.length ≤ 1000000 := by have := of_decide_eq_false h; omega


set_option maxRecDepth 100000 in
set_option maxHeartbeats 1000000 in
theorem long_ok (w0 : World) (n : Int) (p : Option Addr) (cp : Nat) (ss : List St) (hr : StsAt w0 p ss) :
    Calls Try.prog 17 #[yv n p ss.length cp] w0 (Post (X := Unit) (fun _ => .bool (longB ss)) (fun _ => True) (fun _ => []) w0) := by
  refine calls Try.func17 rfl (n := 33) rfl (by simp) ?_
  refine TC.seq ?_
  refine TC.region ?_
  refine TL.box rfl rfl (by decide) (fun b0 hb0 => ?_)
  refine TL.pure (PV.assign rfl) rfl (by decide) ?_
  refine TL.nil ?_
  refine TQ.thenC ?_
  refine TC.seq ?_
  refine TC.seq ?_
  refine TC.region ?_
  refine TL.pure (PV.fieldAddr rfl Tb.fo_24_1) rfl (by decide) ?_
  refine TL.pure (PV.load rfl Tb.one_22 (by repeat (first | exact List.Mem.head _ | refine List.Mem.tail _ ?_ | refine List.mem_append_right _ ?_)) rfl) rfl (by decide) ?_
  refine TL.pure (PV.len rfl Tb.sl_22) rfl (by decide) ?_
  refine TL.pure (PV.gtr rfl rfl) rfl (by decide) ?_
  refine TL.nil ?_
  refine TQ.thenC ?_
  first | refine TC.condD rfl (fun a1 => ?_) (fun a1 => ?_) | refine TC.cond rfl (fun a1 => ?_) (fun a1 => ?_)
  · skip
    refine TC.seq ?_
    refine TC.region ?_
    refine TL.pure (PV.assign rfl) rfl (by decide) ?_
    refine TL.nil ?_
    refine TQ.thenC ?_
    refine TC.ret ?_
    refine TQ.thenR ?_
    refine TQ.retE1 rfl rfl ?_
    exact ⟨(), by unfold longB; rw [decide_eq_true (by omega), Bool.true_or], trivial, List.nil_sublist _⟩
  · skip
    refine TC.skip ?_
    refine TQ.thenC ?_
    refine TC.seq ?_
    refine TC.seq ?_
    refine TC.region ?_
    refine TL.pure (PV.assign rfl) rfl (by decide) ?_
    refine TL.nil ?_
    refine TQ.thenC ?_
    refine TC.block ?_
    -- live and written in the loop, not told: [2]
    refine TC.loopG [1] (X := Nat) (fun k => k ≤ ss.length ∧ ∀ j, j < k → ¬ 100 < (ss.getD j default).t.length ∧ ¬ 100 < (ss.getD j default).g.length) (fun k => [(3, .int .i64 k)]) (fun k => ss.length - k) 0 ⟨Nat.zero_le _, fun j hj => absurd hj (Nat.not_lt_zero _)⟩ (by repeat (first | exact True.intro | refine And.intro rfl ?_)) ?_
    intro k hk
    refine TC.seq ?_
    refine TC.seq ?_
    refine TC.region ?_
    refine TL.pure (PV.move rfl) rfl (by decide) ?_
    refine TL.pure (PV.fieldAddr rfl Tb.fo_24_1) rfl (by decide) ?_
    refine TL.pure (PV.load rfl Tb.one_22 (by repeat (first | exact List.Mem.head _ | refine List.Mem.tail _ ?_ | refine List.mem_append_right _ ?_)) rfl) rfl (by decide) ?_
    refine TL.pure (PV.len rfl Tb.sl_22) rfl (by decide) ?_
    refine TL.pure (PV.lss rfl rfl) rfl (by decide) ?_
    refine TL.nil ?_
    refine TQ.thenC ?_
    first | refine TC.condD rfl (fun hlt => ?_) (fun hlt => ?_) | refine TC.cond rfl (fun hlt => ?_) (fun hlt => ?_)
    · skip
      refine TC.skip ?_
      refine TQ.thenC ?_
      refine TC.seq ?_
      refine TC.block ?_
      refine TC.seq ?_
      obtain ⟨q1, hq1p, pa, pb, ca, cb, hq10, hq11, hta, htb⟩ := hr k (by omega)
      refine TC.region ?_
      refine TL.pure (PV.fieldAddr rfl Tb.fo_24_1) rfl (by decide) ?_
      refine TL.pure (PV.load rfl Tb.one_22 (by repeat (first | exact List.Mem.head _ | refine List.Mem.tail _ ?_ | refine List.mem_append_right _ ?_)) rfl) rfl (by decide) ?_
      refine TL.pure (PV.move rfl) rfl (by decide) ?_
      refine TL.pure (PV.indexA rfl hq1p rfl Tb.elm_22 rfl (by omega)) rfl (by decide) ?_
      refine TL.pure (PV.fieldAddrA rfl Tb.fo_63_0) rfl (by decide) ?_
      refine TL.pure (PV.loadOld rfl Tb.one_25 hq10) rfl (by decide) ?_
      refine TL.pure (PV.len rfl Tb.sl_25) rfl (by decide) ?_
      refine TL.pure (PV.gtr rfl rfl) rfl (by decide) ?_
      refine TL.pure (PV.move rfl) rfl (by decide) ?_
      first | refine TL.splitD 23 rfl (fun a4 => ?_) (fun a4 => ?_) | refine TL.split 23 rfl (fun a4 => ?_) (fun a4 => ?_)
      · skip
        refine TL.skip rfl (fun k hk => by cases hk; decide) ?_
        refine TL.skip rfl (fun k hk => by cases hk; decide) ?_
        refine TL.skip rfl (fun k hk => by cases hk; decide) ?_
        refine TL.skip rfl (fun k hk => by cases hk; decide) ?_
        refine TL.skip rfl (fun k hk => by cases hk; decide) ?_
        refine TL.skip rfl (fun k hk => by cases hk; decide) ?_
        refine TL.skip rfl (fun k hk => by cases hk; decide) ?_
        refine TL.skip rfl (fun k hk => by cases hk; decide) ?_
        refine TL.pure (PV.pickT rfl rfl) rfl (by decide) ?_
        refine TL.nil ?_
        refine TQ.thenC ?_
        refine TC.condT rfl ?_
        refine TC.seq ?_
        refine TC.region ?_
        refine TL.pure (PV.assign rfl) rfl (by decide) ?_
        refine TL.nil ?_
        refine TQ.thenC ?_
        refine TC.ret ?_
        refine TQ.blkR ?_
        refine TQ.thenR ?_
        refine TQ.thenR ?_
        refine TQ.blkR ?_
        refine TQ.thenR ?_
        refine TQ.retE1 rfl rfl ?_
        exact ⟨(), by unfold longB; rw [any_yes (k := k) (d := default) (by omega) (by rw [Bool.or_eq_true, decide_eq_true_eq, decide_eq_true_eq]; omega), Bool.or_true], trivial, List.nil_sublist _⟩
      · skip
        refine TL.pure (PV.fieldAddr rfl Tb.fo_24_1) rfl (by decide) ?_
        refine TL.pure (PV.load rfl Tb.one_22 (by repeat (first | exact List.Mem.head _ | refine List.Mem.tail _ ?_ | refine List.mem_append_right _ ?_)) rfl) rfl (by decide) ?_
        refine TL.pure (PV.move rfl) rfl (by decide) ?_
        refine TL.pure (PV.indexA rfl hq1p rfl Tb.elm_22 rfl (by omega)) rfl (by decide) ?_
        refine TL.pure (PV.fieldAddrA rfl Tb.fo_63_1) rfl (by decide) ?_
        refine TL.pure (PV.loadOld rfl Tb.one_25 hq11) rfl (by decide) ?_
        refine TL.pure (PV.len rfl Tb.sl_25) rfl (by decide) ?_
        refine TL.pure (PV.gtr rfl rfl) rfl (by decide) ?_
        refine TL.pure (PV.pickF rfl rfl) rfl (by decide) ?_
        refine TL.nil ?_
        refine TQ.thenC ?_
        first | refine TC.condD rfl (fun hno => ?_) (fun hno => ?_) | refine TC.cond rfl (fun hno => ?_) (fun hno => ?_)
        · skip
          refine TC.seq ?_
          refine TC.region ?_
          refine TL.pure (PV.assign rfl) rfl (by decide) ?_
          refine TL.nil ?_
          refine TQ.thenC ?_
          refine TC.ret ?_
          refine TQ.blkR ?_
          refine TQ.thenR ?_
          refine TQ.thenR ?_
          refine TQ.blkR ?_
          refine TQ.thenR ?_
          refine TQ.retE1 rfl rfl ?_
          exact ⟨(), by unfold longB; rw [any_yes (k := k) (d := default) (by omega) (by rw [Bool.or_eq_true, decide_eq_true_eq, decide_eq_true_eq]; omega), Bool.or_true], trivial, List.nil_sublist _⟩
        · skip
          refine TC.skip ?_
          refine TQ.blkN ?_
          refine TQ.thenC ?_
          refine TC.region ?_
          refine TL.pure (PV.move rfl) rfl (by decide) ?_
          refine TL.pure (PV.add rfl rfl (by omega)) rfl (by decide) ?_
          refine TL.pure (PV.assign rfl) rfl (by decide) ?_
          refine TL.nil ?_
          refine TQ.thenN ?_
          refine TQ.backK (k + 1) (by repeat (first | exact True.intro | refine And.intro rfl ?_)) (by repeat (first | exact True.intro | refine And.intro rfl ?_)) (by repeat (first | exact List.Sublist.slnil | exact List.nil_sublist _ | exact List.Sublist.refl _ | refine List.Sublist.cons_cons _ ?_ | refine List.Sublist.cons _ ?_ | refine List.Sublist.trans ?_ (List.sublist_append_right _ _))) ⟨by omega, fun j hj => if e : j < k then hk.2 j e else (show k = j by omega) ▸ (by omega)⟩ (by omega)
    · skip
      refine TC.exit ?_
      refine TQ.thenE ?_
      refine TQ.thenE ?_
      refine TQ.blkS ?_
      refine TQ.thenC ?_
      refine TC.seq ?_
      refine TC.region ?_
      refine TL.pure (PV.assign rfl) rfl (by decide) ?_
      refine TL.nil ?_
      refine TQ.thenC ?_
      refine TC.ret ?_
      refine TQ.retE1 rfl rfl ?_
      exact ⟨(), by unfold longB; rw [decide_eq_false (by omega), any_no (d := default) (fun j hj => by have := hk.2 j (by omega); rw [Bool.or_eq_false_iff, decide_eq_false_iff_not, decide_eq_false_iff_not]; exact this)]; rfl, trivial, List.nil_sublist _⟩

set_option maxRecDepth 100000 in
set_option maxHeartbeats 1000000 in
theorem example_ok (w0 : World) :
    Calls Try.prog 61 #[] w0 (Post (X := Nat × Nat × Nat × Nat × Nat) (fun y => yv 2 (some ⟨y.2.2.2.2, 0, none⟩) 2 2) (fun _ => True) (fun y => [(y.2.2.2.2, Obj.cells #[.slice (some ⟨y.1, 0, none⟩) 2 2, .slice (some ⟨y.2.1, 0, none⟩) 2 2, .slice (some ⟨y.2.2.1, 0, none⟩) 2 2, .slice (some ⟨y.2.2.2.1, 0, none⟩) 2 2] 63 (0, 0)), (y.2.2.2.1, Obj.cells #[.int .i64 1, .int .i64 0] 3 (0, 0)), (y.2.2.1, Obj.cells #[.int .i64 0, .int .i64 2] 3 (0, 0)), (y.2.1, Obj.cells #[.int .i64 0, .int .i64 1] 3 (0, 0)), (y.1, Obj.cells #[.int .i64 1, .int .i64 0] 3 (0, 0))]) w0) := by
  refine calls Try.func61 rfl (n := 9) rfl (by simp) ?_
  refine TC.seq ?_
  refine TC.region ?_
  refine TL.alloc Tb.zero_24 rfl (by decide) (fun b0 hb0 => ?_)
  refine TL.nil ?_
  refine TQ.thenC ?_
  refine TC.seq ?_
  refine TC.region ?_
  refine TL.buildSlice (cs := #[.int .i64 1, .int .i64 0]) rfl Tb.sl_25 Tb.zi_3 (by decide) (fill_2 _ _) (by decide) rfl (by decide) (fun ba hba => ?_)
  refine TL.buildSlice (cs := #[.int .i64 0, .int .i64 1]) rfl Tb.sl_25 Tb.zi_3 (by decide) (fill_2 _ _) (by decide) rfl (by decide) (fun bb hbb => ?_)
  refine TL.pure (PV.build rfl Tb.zero_63 Tb.pl_63 (fill_st _ _ _ _ _ _)) rfl (by decide) ?_
  refine TL.buildSlice (cs := #[.int .i64 0, .int .i64 2]) rfl Tb.sl_25 Tb.zi_3 (by decide) (fill_2 _ _) (by decide) rfl (by decide) (fun bc hbc => ?_)
  refine TL.buildSlice (cs := #[.int .i64 1, .int .i64 0]) rfl Tb.sl_25 Tb.zi_3 (by decide) (fill_2 _ _) (by decide) rfl (by decide) (fun bd hbd => ?_)
  refine TL.pure (PV.build rfl Tb.zero_63 Tb.pl_63 (fill_st _ _ _ _ _ _)) rfl (by decide) ?_
  refine TL.buildSlice (cs := #[.slice (some ⟨ba, 0, none⟩) 2 2, .slice (some ⟨bb, 0, none⟩) 2 2, .slice (some ⟨bc, 0, none⟩) 2 2, .slice (some ⟨bd, 0, none⟩) 2 2]) rfl Tb.sl_22 Tb.zi_63 (by decide) (fill_ss _ _ _ _ _ _ _ _ _ _ _ _) (by decide) rfl (by decide) (fun bs hbs => ?_)
  refine TL.pure (PV.build rfl Tb.zero_24 Tb.pl_24 (fill_yd _ _ _ _)) rfl (by decide) ?_
  refine TL.storeAgg (vs := [.int .i64 2, .slice (some ⟨bs, 0, none⟩) 2 2]) rfl rfl Tb.cells_24 (by repeat (first | exact Upd.head _ | apply Upd.tail | apply Upd.appR)) rfl rfl rfl rfl rfl ?_
  refine TL.nil ?_
  refine TQ.thenC ?_
  refine TC.ret ?_
  refine TQ.retR rfl (Res.agg rfl Tb.agg_24 (by repeat (first | exact List.Mem.head _ | refine List.Mem.tail _ ?_ | refine List.mem_append_right _ ?_)) rfl Res.nil) ?_
  simp only [tup]
  exact ⟨(ba, bb, bc, bd, bs), rfl, trivial, by repeat (first | exact List.Sublist.refl _ | refine List.Sublist.cons_cons _ ?_ | refine List.Sublist.cons _ ?_)⟩

set_option maxRecDepth 100000 in
set_option maxHeartbeats 1000000 in
theorem known_ok (w0 : World) :
    Calls Try.prog 19 #[] w0 (Post (X := Unit) (fun _ => .bool true) (fun _ => True) (fun _ => []) w0) := by
  refine calls Try.func19 rfl (n := 23) rfl (by simp) ?_
  refine TC.seq ?_
  refine TC.region ?_
  refine TL.pure (PV.assign rfl) rfl (by decide) ?_
  refine TL.nil ?_
  refine TQ.thenC ?_
  refine TC.seq ?_
  refine TC.region ?_
  refine TL.call rfl Tb.gofn_61 (fun a w hs => example_ok w) rfl (by decide) (fun e9 he9 => ?_)
  refine TL.buildSlice (cs := #[.int .i64 3, .int .i64 0]) rfl Tb.sl_25 Tb.zi_3 (by decide) (fill_2 _ _) (by decide) rfl (by decide) (fun bm hbm => ?_)
  refine TL.buildSlice (cs := #[.int .i64 0, .int .i64 0, .int .i64 1]) rfl Tb.sl_25 Tb.zi_3 (by decide) (fill_3 _ _ _) (by decide) rfl (by decide) (fun bl hbl => ?_)
  refine TL.call rfl Tb.gofn_27 (fun a w hs => Run_ok w 2 _ 2 exS (exS_at (a := e9.1) (b := e9.2.1) (c := e9.2.2.1) (d := e9.2.2.2.1) (ea := 63) hs.new (by simp only [List.cons_append, List.nil_append]; repeat (first | exact List.Mem.head _ | refine List.Mem.tail _ ?_ | refine List.mem_append_right _ ?_)) (by simp only [List.cons_append, List.nil_append]; repeat (first | exact List.Mem.head _ | refine List.Mem.tail _ ?_ | refine List.mem_append_right _ ?_)) (by simp only [List.cons_append, List.nil_append]; repeat (first | exact List.Mem.head _ | refine List.Mem.tail _ ?_ | refine List.mem_append_right _ ?_)) (by simp only [List.cons_append, List.nil_append]; repeat (first | exact List.Mem.head _ | refine List.Mem.tail _ ?_ | refine List.mem_append_right _ ?_)) (by simp only [List.cons_append, List.nil_append]; repeat (first | exact List.Mem.head _ | refine List.Mem.tail _ ?_ | refine List.mem_append_right _ ?_))) exS_sm _ [3, 0] (ints2 hs.new (by repeat (first | exact List.Mem.head _ | refine List.Mem.tail _ ?_ | refine List.mem_append_right _ ?_))) (by decide) _ [0, 0, 1] (ints3 hs.new (by repeat (first | exact List.Mem.head _ | refine List.Mem.tail _ ?_ | refine List.mem_append_right _ ?_))) (by decide)) rfl (by decide) (fun r9 hr9 => ?_)
  rw [ex_run] at hr9
  rw [ex_run]
  refine TL.pure (PV.move rfl) rfl (by decide) ?_
  refine TL.pure (PV.extract rfl rfl) rfl (by decide) ?_
  refine TL.pure (PV.extract rfl rfl) rfl (by decide) ?_
  refine TL.pure (PV.extract rfl rfl) rfl (by decide) ?_
  refine TL.pure (PV.assign rfl) rfl (by decide) ?_
  refine TL.pure (PV.assign rfl) rfl (by decide) ?_
  refine TL.pure (PV.assign rfl) rfl (by decide) ?_
  refine TL.nil ?_
  refine TQ.thenC ?_
  refine TC.seq ?_
  refine TC.region ?_
  refine TL.pure (PV.move rfl) rfl (by decide) ?_
  refine TL.pure (PV.eql rfl rfl) rfl (by decide) ?_
  refine TL.pure (PV.move rfl) rfl (by decide) ?_
  first | refine TL.splitD 14 rfl (fun h0 => ?_) (fun h0 => ?_) | refine TL.split 14 rfl (fun h0 => ?_) (fun h0 => ?_)
  · skip
    refine TL.pure (PV.move rfl) rfl (by decide) ?_
    refine TL.pure (PV.eql rfl rfl) rfl (by decide) ?_
    refine TL.pure (PV.pickT rfl rfl) rfl (by decide) ?_
    refine TL.pure (PV.move rfl) rfl (by decide) ?_
    first | refine TL.splitD 18 rfl (fun h1 => ?_) (fun h1 => ?_) | refine TL.split 18 rfl (fun h1 => ?_) (fun h1 => ?_)
    · skip
      refine TL.pure (PV.move rfl) rfl (by decide) ?_
      refine TL.buildSlice (cs := #[.int .i64 2, .int .i64 0]) rfl Tb.sl_25 Tb.zi_3 (by decide) (fill_2 _ _) (by decide) rfl (by decide) (fun bz hbz => ?_)
      refine TL.call rfl Tb.gofn_26 (fun a w hs => sameInts_ok w _ [2, 0] (IsI.g (xs := [2, 0]) hs.new (fun yy hyy => by repeat (first | exact List.mem_append_left _ hyy | exact List.mem_append_left _ (List.mem_append_right _ hyy) | exact List.mem_append_left _ (List.mem_append_left _ hyy) | refine List.mem_append_right _ ?_ | refine List.Mem.tail _ ?_)) hr9) _ [2, 0] (ints2 hs.new (by repeat (first | exact List.Mem.head _ | refine List.Mem.tail _ ?_ | refine List.mem_append_right _ ?_))) (by decide) (by decide)) rfl (by decide) (fun _ _ => ?_)
      refine TL.pure (PV.pickT rfl rfl) rfl (by decide) ?_
      refine TL.pure (PV.assign rfl) rfl (by decide) ?_
      refine TL.nil ?_
      refine TQ.thenC ?_
      refine TC.ret ?_
      refine TQ.retE1 rfl rfl ?_
      first | exact ⟨(), rfl, trivial, List.nil_sublist _⟩ | (exfalso; simp_all; done)
    · skip
      refine TL.skip rfl (fun k hk => by cases hk; decide) ?_
      refine TL.skip rfl (fun k hk => by cases hk; decide) ?_
      refine TL.skip rfl (fun k hk => by cases hk; decide) ?_
      refine TL.pure (PV.pickF rfl rfl) rfl (by decide) ?_
      refine TL.pure (PV.assign rfl) rfl (by decide) ?_
      refine TL.nil ?_
      refine TQ.thenC ?_
      refine TC.ret ?_
      refine TQ.retE1 rfl rfl ?_
      first | exact ⟨(), rfl, trivial, List.nil_sublist _⟩ | (exfalso; simp_all; done)
  · skip
    refine TL.skip rfl (fun k hk => by cases hk; decide) ?_
    refine TL.skip rfl (fun k hk => by cases hk; decide) ?_
    refine TL.pure (PV.pickF rfl rfl) rfl (by decide) ?_
    refine TL.pure (PV.move rfl) rfl (by decide) ?_
    refine TL.skip rfl (fun k hk => by cases hk; decide) ?_
    refine TL.skip rfl (fun k hk => by cases hk; decide) ?_
    refine TL.skip rfl (fun k hk => by cases hk; decide) ?_
    refine TL.pure (PV.pickF rfl rfl) rfl (by decide) ?_
    refine TL.pure (PV.assign rfl) rfl (by decide) ?_
    refine TL.nil ?_
    refine TQ.thenC ?_
    refine TC.ret ?_
    refine TQ.retE1 rfl rfl ?_
    first | exact ⟨(), rfl, trivial, List.nil_sublist _⟩ | (exfalso; simp_all; done)

end Go.Proofs.Ytkkipbkkijoneaa

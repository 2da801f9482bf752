/- What a text orders: contracts. -/
import Derived.Test.YtbnjmkidbfmomaaGreatDoorQXe
import Derived.Test.YtbnjmkidbfmomaaGreatDoorQBD
import Derived.Test.YtbnjmkidbfmomaaGreatDoorQPy
import Derived.Test.YtbnjmkidbfmomaaGreatDoorQWa
set_option linter.unusedVariables false
set_option linter.unusedSimpArgs false
namespace Go.Proofs.YtbnjmkidbfmomaaGreatDoor
open Go.Sx Go.RowKit Go.Bt Go.Lib Go.Sand

theorem strs_at {ws : List (List UInt8)} {j : Nat} (h : j < ws.length) : ((ws.map str).toArray)[0 + j * 1]? = some (str (ws.getD j [])) := by
  rw [Nat.zero_add, Nat.mul_one]
  simp [List.getD, h]
theorem strs_at1 {ws : List (List UInt8)} {j : Nat} (h : j + 1 < ws.length) : ((ws.map str).toArray)[1 + j * 1]? = some (str (ws.getD (j + 1) [])) := by
  rw [Nat.mul_one, Nat.add_comm]
  simp [List.getD, h]
theorem isNum_yes {w : List UInt8} {v : Int} (h0 : 0 ≤ v) (h1 : v ≤ 999) (h : dI v = w) : isNum w = true ∧ nv w = v := by
  obtain ⟨u, rfl⟩ := Int.eq_ofNat_of_zero_le h0
  have e : w = decDigits u := by rw [← h]; exact itoa_nat u
  subst e
  unfold isNum nv
  rw [numF_dec (by omega)]
  exact ⟨rfl, rfl⟩
theorem isNum_no {w : List UInt8} {v : Int} {b : Bool} (hx : ∀ u, u < 1000 → w = decDigits u → b = true ∧ v = (u : Int)) (h : ¬ (b = true ∧ 0 ≤ v ∧ v ≤ 999 ∧ dI v = w)) : isNum w = false := by
  cases h9 : isNum w with
  | false => rfl
  | true =>
    exfalso
    unfold isNum at h9
    cases h8 : numF w with
    | none => rw [h8] at h9; cases h9
    | some u =>
      obtain ⟨h1, h2⟩ := numF_some h8
      obtain ⟨h3, h4⟩ := hx u h1 h2
      exact h ⟨h3, by omega, by omega, by rw [h4, h2]; exact itoa_nat u⟩
theorem spl_mem (c : UInt8) : ∀ (L : List UInt8), ∀ w ∈ spl c L, w.length ≤ L.length
  | [], w, h => by simp [spl] at h; subst h; exact Nat.le_refl _
  | b :: l, w, h => by
    have ih := spl_mem c l
    unfold spl at h
    split at h
    · rcases List.mem_cons.1 h with h | h
      · subst h; exact Nat.zero_le _
      · have := ih w h; simp; omega
    · split at h
      · simp at h; subst h; simp
      · rename_i h1 t1 e1
        rcases List.mem_cons.1 h with h | h
        · subst h
          have := ih h1 (by rw [e1]; simp)
          simp; omega
        · have := ih w (by rw [e1]; simp [h])
          simp; omega
theorem spl_len (c : UInt8) (L : List UInt8) (j : Nat) : ((spl c L).getD j []).length ≤ L.length := by
  by_cases h : j < (spl c L).length
  · rw [List.getD_eq_getElem?_getD, List.getElem?_eq_getElem h]
    exact spl_mem c L _ (List.getElem_mem h)
  · rw [List.getD_eq_getElem?_getD, List.getElem?_eq_none (by omega)]; exact Nat.zero_le _
abbrev nmF (ws : List (List UInt8)) (j : Nat) : Int := nv (ws.getD (j + 1) [])
def prV (o : Option Od) (b : Nat) : Value := match o with
  | none => .tuple #[.agg #[.int .i64 0, .slice none 0 0], .bool false]
  | some o => .tuple #[.agg #[.int .i64 (o.k : Nat), .slice (some ⟨b, 0, none⟩) o.ns.length o.ns.length], .bool true]
def prD (o : Option Od) (b : Nat) : Heap := match o with
  | none => []
  | some o => [(b, .cells (intsA o.ns) 3 (0, 0))]
theorem prs_no1 {L : List UInt8} (h : rightS L = false) : prsO L = none := by
  cases h2 : prsO L with
  | none => rfl
  | some o => rw [prs_right h2] at h; cases h
theorem prs_no2 {L : List UInt8} (h : (kdF ((spl 32 L).getD 0 [])).isSome = false) : prsO L = none := by
  unfold prsO
  cases h2 : kdF ((spl 32 L).getD 0 []) with
  | none => rfl
  | some o => rw [h2] at h; cases h
theorem prs_no3 {L : List UInt8} (h : ¬ (spl 32 L).length = 1 + ((kdF ((spl 32 L).getD 0 [])).getD (0, 0)).2) : prsO L = none := by
  unfold prsO
  cases h2 : kdF ((spl 32 L).getD 0 []) with
  | none => rfl
  | some o => rw [h2] at h; simp only at h ⊢; rw [if_neg fun h9 => h h9.1]
theorem drop1 {ws : List (List UInt8)} {k : Nat} (h : k + 1 < ws.length) : (ws.drop 1)[k]? = some (ws.getD (k + 1) []) := by
  rw [List.getElem?_drop]; simp [List.getD, h, Nat.add_comm 1 k]
theorem prs_no4 {L : List UInt8} {k : Nat} (hk : k + 1 < (spl 32 L).length) (h : isNum ((spl 32 L).getD (k + 1) []) = false) : prsO L = none := by
  unfold prsO
  cases h2 : kdF ((spl 32 L).getD 0 []) with
  | none => rfl
  | some o =>
    simp only
    rw [if_neg]
    rintro ⟨_, h9⟩
    have := List.all_eq_true.1 h9 _ (List.mem_of_getElem? (drop1 hk))
    rw [h] at this; cases this
theorem prs_yes {L : List UInt8} {k c : Nat} (h : kdF ((spl 32 L).getD 0 []) = some (k, c)) (hl : (spl 32 L).length = 1 + c) (ha : ∀ j, j < c → isNum ((spl 32 L).getD (j + 1) []) = true) : prsO L = some ⟨k, (List.range c).map (nmF (spl 32 L))⟩ := by
  unfold prsO
  rw [h]
  simp only
  have e : ((spl 32 L).drop 1).map nv = (List.range c).map (nmF (spl 32 L)) := by
    apply List.ext_getElem
    · simp; omega
    · intro i h1 h2
      have hi : i < c := by simpa using h2
      have := drop1 (ws := spl 32 L) (k := i) (by omega)
      rw [List.getElem_map, List.getElem_map, List.getElem_range]
      rw [List.getElem?_eq_getElem (by simp; omega)] at this
      rw [Option.some.inj this]
  rw [if_pos, e]
  refine ⟨hl, List.all_eq_true.2 fun x hx => ?_⟩
  obtain ⟨j, hj, rfl⟩ := List.getElem_of_mem hx
  have hj' : j < c := by simp at hj; omega
  have := drop1 (ws := spl 32 L) (k := j) (by omega)
  rw [List.getElem?_eq_getElem hj] at this
  rw [Option.some.inj this]
  exact ha j hj'
theorem prV_mk {L : List UInt8} {k c b : Nat} {f : Nat → Int} (hp : prsO L = some ⟨k, (List.range c).map f⟩) : Value.tuple #[.agg #[.int .i64 (k : Nat), .slice (some ⟨b, 0, none⟩) c c], .bool true] = prV (prsO L) b := by
  rw [hp]
  unfold prV
  simp only [List.length_map, List.length_range]
theorem kd_c2 {h : List UInt8} : ((kdF h).getD (0, 0)).2 ≤ 2 := by
  cases h2 : kdF h with
  | none => exact Nat.zero_le _
  | some kc => obtain ⟨k, c⟩ := kc; exact (kd_word h2).2.2.2.1
theorem cutA_1 {b n : Nat} (h : ¬ n = 1) : cutA (some ⟨b, 0, none⟩) n 1 1 = some ⟨b, 1, none⟩ := by
  unfold cutA; rw [if_neg h]; rfl

set_option maxRecDepth 100000 in
theorem isLine_ok (w0 : World) (L : List UInt8) (hl : L.length ≤ 1000000) :
    Calls Tryz.prog 80 #[str L] w0 (Post (X := Unit) (fun _ => .bool (rightS L)) (fun _ => True) (fun _ => []) w0) := by
  refine calls Tryz.func80 rfl (n := 16) rfl (by simp) ?_
  refine TC.seq ?_
  refine TC.region ?_
  refine TL.pure (PV.assign rfl) rfl (by decide) ?_
  refine TL.nil ?_
  refine TQ.thenC ?_
  refine TC.seq ?_
  refine TC.region ?_
  refine TL.pure (PV.move rfl) rfl (by decide) ?_
  refine TL.pure (PV.lenS rfl Tb.str_9) rfl (by decide) ?_
  refine TL.pure (PV.geq rfl rfl) rfl (by decide) ?_
  refine TL.pure (PV.move rfl) rfl (by decide) ?_
  first | refine TL.splitD 6 rfl (fun g1 => ?_) (fun g1 => ?_) | refine TL.split 6 rfl (fun g1 => ?_) (fun g1 => ?_)
  · refine TL.pure (PV.move rfl) rfl (by decide) ?_
    refine TL.pure (PV.lenS rfl Tb.str_9) rfl (by decide) ?_
    refine TL.pure (PV.leq rfl rfl) rfl (by decide) ?_
    refine TL.pure (PV.pickT rfl rfl) rfl (by decide) ?_
    refine TL.pure (PV.move rfl) rfl (by decide) ?_
    first | refine TL.splitD 11 rfl (fun g2 => ?_) (fun g2 => ?_) | refine TL.split 11 rfl (fun g2 => ?_) (fun g2 => ?_)
    · refine TL.pure (PV.move rfl) rfl (by decide) ?_
      refine TL.call rfl Tb.gofn_124 (fun a w hs => cont_ok w L 10) rfl (by decide) (fun _ _ => ?_)
      refine TL.pure ((by first | exact PV.notD rfl | exact PV.not rfl)) rfl (by decide) ?_
      refine TL.pure (PV.pickT rfl rfl) rfl (by decide) ?_
      refine TL.pure (PV.assign rfl) rfl (by decide) ?_
      refine TL.nil ?_
      refine TQ.thenC ?_
      refine TC.ret ?_
      refine TQ.retE1 rfl rfl ?_
      exact ⟨(), congrArg Value.bool (by unfold rightS; first | exact (decide_eq_false (fun h9 => by omega)).symm | exact (decide_eq_false (fun h9 => by simp only [Bool.false_eq_true, Bool.true_eq_false, decide_eq_true_eq, decide_eq_false_iff_not] at *; omega)).symm | exact decide_eq_decide.2 ⟨fun h9 => ⟨by omega, by omega, h9⟩, fun h9 => h9.2.2⟩), trivial, List.nil_sublist _⟩
    · refine TL.skip rfl (fun k hk => by cases hk; decide) ?_
      refine TL.skip rfl (fun k hk => by cases hk; decide) ?_
      refine TL.skip rfl (fun k hk => by cases hk; decide) ?_
      refine TL.pure (PV.pickF rfl rfl) rfl (by decide) ?_
      refine TL.pure (PV.assign rfl) rfl (by decide) ?_
      refine TL.nil ?_
      refine TQ.thenC ?_
      refine TC.ret ?_
      refine TQ.retE1 rfl rfl ?_
      exact ⟨(), congrArg Value.bool (by unfold rightS; first | exact (decide_eq_false (fun h9 => by omega)).symm | exact (decide_eq_false (fun h9 => by simp only [Bool.false_eq_true, Bool.true_eq_false, decide_eq_true_eq, decide_eq_false_iff_not] at *; omega)).symm | exact decide_eq_decide.2 ⟨fun h9 => ⟨by omega, by omega, h9⟩, fun h9 => h9.2.2⟩), trivial, List.nil_sublist _⟩
  · refine TL.skip rfl (fun k hk => by cases hk; decide) ?_
    refine TL.skip rfl (fun k hk => by cases hk; decide) ?_
    refine TL.skip rfl (fun k hk => by cases hk; decide) ?_
    refine TL.pure (PV.pickF rfl rfl) rfl (by decide) ?_
    refine TL.pure (PV.move rfl) rfl (by decide) ?_
    refine TL.skip rfl (fun k hk => by cases hk; decide) ?_
    refine TL.skip rfl (fun k hk => by cases hk; decide) ?_
    refine TL.skip rfl (fun k hk => by cases hk; decide) ?_
    refine TL.pure (PV.pickF rfl rfl) rfl (by decide) ?_
    refine TL.pure (PV.assign rfl) rfl (by decide) ?_
    refine TL.nil ?_
    refine TQ.thenC ?_
    refine TC.ret ?_
    refine TQ.retE1 rfl rfl ?_
    exact ⟨(), congrArg Value.bool (by unfold rightS; first | exact (decide_eq_false (fun h9 => by omega)).symm | exact (decide_eq_false (fun h9 => by simp only [Bool.false_eq_true, Bool.true_eq_false, decide_eq_true_eq, decide_eq_false_iff_not] at *; omega)).symm | exact decide_eq_decide.2 ⟨fun h9 => ⟨by omega, by omega, h9⟩, fun h9 => h9.2.2⟩), trivial, List.nil_sublist _⟩

set_option maxRecDepth 100000 in
set_option maxHeartbeats 1000000 in
theorem orderIn_ok (w0 : World) (hW : WAt w0) (L : List UInt8) (hl : L.length ≤ 1000000) :
    Calls Tryz.prog 102 #[str L] w0 (Post (X := Nat) (fun b => prV (prsO L) b) (fun _ => True) (fun b => prD (prsO L) b) w0) := by
  refine calls Tryz.func102 rfl (n := 77) rfl (by simp) ?_
  refine TC.seq ?_
  refine TC.region ?_
  refine TL.alloc Tb.zero_144 rfl (by decide) (fun b0 hb0 => ?_)
  refine TL.pure (PV.assign rfl) rfl (by decide) ?_
  refine TL.nil ?_
  refine TQ.thenC ?_
  refine TC.seq ?_
  refine TC.seq ?_
  refine TC.region ?_
  refine TL.pure (PV.move rfl) rfl (by decide) ?_
  refine TL.call rfl Tb.gofn_80 (fun a w hs => isLine_ok w L hl) rfl (by decide) (fun _ _ => ?_)
  refine TL.pure ((by first | exact PV.notD rfl | exact PV.not rfl)) rfl (by decide) ?_
  refine TL.nil ?_
  refine TQ.thenC ?_
  first | refine TC.condD rfl (fun hr => ?_) (fun hr => ?_) | refine TC.cond rfl (fun hr => ?_) (fun hr => ?_)
  · refine TC.seq ?_
    refine TC.region ?_
    refine TL.pure (PV.build rfl Tb.zero_144 Tb.pl_144 rfl) rfl (by decide) ?_
    refine TL.storeAgg rfl rfl Tb.cells_144 (by repeat (first | exact Upd.head _ | apply Upd.tail | apply Upd.appR)) rfl rfl rfl rfl rfl ?_
    refine TL.pure (PV.assign rfl) rfl (by decide) ?_
    refine TL.nil ?_
    refine TQ.thenC ?_
    refine TC.ret ?_
    refine TQ.thenR ?_
    refine TQ.retR rfl (Res.agg rfl Tb.agg_144 (by repeat (first | exact List.Mem.head _ | refine List.Mem.tail _ ?_ | refine List.mem_append_right _ ?_)) rfl (Res.tmp rfl Res.nil)) ?_
    simp only [tup]
    have hp : prsO L = none := prs_no1 (decide_eq_false hr)
    exact ⟨0, by rw [hp]; rfl, trivial, by rw [hp]; exact List.nil_sublist _⟩
  · refine TC.skip ?_
    refine TQ.thenC ?_
    refine TC.seq ?_
    refine TC.region ?_
    refine TL.pure (PV.move rfl) rfl (by decide) ?_
    refine TL.call rfl Tb.gofn_147 (fun a w hs => split_ok w (hW.new hs.new) L hl) rfl (by decide) (fun bw hbw => ?_)
    refine TL.pure (PV.assign rfl) rfl (by decide) ?_
    refine TL.nil ?_
    refine TQ.thenC ?_
    refine TC.seq ?_
    have hp1 := spl_pos 32 L
    have hwl := spl_len 32 L
    refine TC.region ?_
    refine TL.pure (PV.move rfl) rfl (by decide) ?_
    refine TL.pure (PV.index (j := 0) rfl rfl Tb.elm_43 rfl hp1) rfl (by decide) ?_
    refine TL.pure (PV.loadG' rfl Tb.one_9 (by repeat (first | exact List.Mem.head _ | refine List.Mem.tail _ ?_ | refine List.mem_append_right _ ?_)) (strs_at (j := 0) hp1)) rfl (by decide) ?_
    refine TL.call rfl Tb.gofn_148 (fun a w hs => kindOf_ok w _) rfl (by decide) (fun _ _ => ?_)
    refine TL.pure (PV.move rfl) rfl (by decide) ?_
    refine TL.pure (PV.extract rfl rfl) rfl (by decide) ?_
    refine TL.pure (PV.extract rfl rfl) rfl (by decide) ?_
    refine TL.pure (PV.extract rfl rfl) rfl (by decide) ?_
    refine TL.pure (PV.assign rfl) rfl (by decide) ?_
    refine TL.pure (PV.assign rfl) rfl (by decide) ?_
    refine TL.pure (PV.assign rfl) rfl (by decide) ?_
    refine TL.nil ?_
    refine TQ.thenC ?_
    refine TC.seq ?_
    refine TC.seq ?_
    have hc2 := kd_c2 (h := (spl 32 L).getD 0 [])
    refine TC.region ?_
    refine TL.pure (PV.move rfl) rfl (by decide) ?_
    refine TL.pure ((by first | exact PV.notD rfl | exact PV.not rfl)) rfl (by decide) ?_
    refine TL.pure (PV.move rfl) rfl (by decide) ?_
    first | refine TL.splitD 29 rfl (fun g5 => ?_) (fun g5 => ?_) | refine TL.split 29 rfl (fun g5 => ?_) (fun g5 => ?_)
    · refine TL.skip rfl (fun k hk => by cases hk; decide) ?_
      refine TL.skip rfl (fun k hk => by cases hk; decide) ?_
      refine TL.skip rfl (fun k hk => by cases hk; decide) ?_
      refine TL.skip rfl (fun k hk => by cases hk; decide) ?_
      refine TL.skip rfl (fun k hk => by cases hk; decide) ?_
      refine TL.pure (PV.pickT rfl rfl) rfl (by decide) ?_
      refine TL.nil ?_
      refine TQ.thenC ?_
      refine TC.condT rfl ?_
      refine TC.seq ?_
      refine TC.region ?_
      refine TL.pure (PV.build rfl Tb.zero_144 Tb.pl_144 rfl) rfl (by decide) ?_
      refine TL.storeAgg rfl rfl Tb.cells_144 (by repeat (first | exact Upd.head _ | apply Upd.tail | apply Upd.appR)) rfl rfl rfl rfl rfl ?_
      refine TL.pure (PV.assign rfl) rfl (by decide) ?_
      refine TL.nil ?_
      refine TQ.thenC ?_
      refine TC.ret ?_
      refine TQ.thenR ?_
      refine TQ.retR rfl (Res.agg rfl Tb.agg_144 (by repeat (first | exact List.Mem.head _ | refine List.Mem.tail _ ?_ | refine List.mem_append_right _ ?_)) rfl (Res.tmp rfl Res.nil)) ?_
      simp only [tup]
      have hp : prsO L = none := prs_no2 (by simpa using g5)
      exact ⟨0, by rw [hp]; rfl, trivial, by rw [hp]; exact List.nil_sublist _⟩
    · refine TL.pure (PV.move rfl) rfl (by decide) ?_
      refine TL.pure (PV.len rfl Tb.sl_43) rfl (by decide) ?_
      refine TL.pure (PV.move rfl) rfl (by decide) ?_
      refine TL.pure (PV.add rfl rfl (by omega)) rfl (by decide) ?_
      refine TL.pure (PV.neq rfl rfl) rfl (by decide) ?_
      refine TL.pure (PV.pickF rfl rfl) rfl (by decide) ?_
      refine TL.nil ?_
      refine TQ.thenC ?_
      first | refine TC.condD rfl (fun h35 => ?_) (fun h35 => ?_) | refine TC.cond rfl (fun h35 => ?_) (fun h35 => ?_)
      · refine TC.seq ?_
        refine TC.region ?_
        refine TL.pure (PV.build rfl Tb.zero_144 Tb.pl_144 rfl) rfl (by decide) ?_
        refine TL.storeAgg rfl rfl Tb.cells_144 (by repeat (first | exact Upd.head _ | apply Upd.tail | apply Upd.appR)) rfl rfl rfl rfl rfl ?_
        refine TL.pure (PV.assign rfl) rfl (by decide) ?_
        refine TL.nil ?_
        refine TQ.thenC ?_
        refine TC.ret ?_
        refine TQ.thenR ?_
        refine TQ.retR rfl (Res.agg rfl Tb.agg_144 (by repeat (first | exact List.Mem.head _ | refine List.Mem.tail _ ?_ | refine List.mem_append_right _ ?_)) rfl (Res.tmp rfl Res.nil)) ?_
        simp only [tup]
        have hp : prsO L = none := prs_no3 (by omega)
        exact ⟨0, by rw [hp]; rfl, trivial, by rw [hp]; exact List.nil_sublist _⟩
      · refine TC.skip ?_
        refine TQ.thenC ?_
        refine TC.seq ?_
        refine TC.region ?_
        refine TL.pure (PV.move rfl) rfl (by decide) ?_
        refine TL.makeI rfl rfl Tb.sl_25 Tb.zi_3 rfl (by omega) (by omega) rfl (by decide) (fun b1 hb1 => ?_)
        refine TL.pure (PV.assign rfl) rfl (by decide) ?_
        refine TL.nil ?_
        refine TQ.thenC ?_
        refine TC.seq ?_
        refine TC.seq ?_
        refine TC.sub (G' := [(b1, Obj.cells (intsA (fillZ (nmF (spl 32 L)) ((kdF ((spl 32 L).getD 0 [])).getD (0, 0)).2 0)) 3 (0, 0)), (bw, Obj.cells ((spl 32 L).map str).toArray 9 (0, 0)), (b0, Obj.cells #[.int .i64 0, .slice none 0 0] 144 (0, 0))]) (by rw [fillZ_zero]; exact List.Sublist.refl _) ?_
        refine TC.region ?_
        refine TL.pure (PV.move rfl) rfl (by decide) ?_
        refine TL.pure (PV.sliceL (l := 1) rfl rfl Tb.elm_43 rfl hp1) rfl (by decide) ?_
        refine TL.pure (PV.len rfl Tb.sl_43) rfl (by decide) ?_
        refine TL.pure (PV.move rfl) rfl (by decide) ?_
        refine TL.nil ?_
        refine TQ.thenC ?_
        refine TC.block ?_
        -- live and written in the loop, not told: [3]
        refine TC.lit [(2, _), (5, _), (8, _), (40, _), (41, _), (42, _)] (by repeat (first | exact True.intro | refine And.intro rfl ?_)) ?_
        refine TC.loopK [2, 5, 8, 40, 41] (X := Nat) (fun k => k ≤ (spl 32 L).length - 1 ∧ ∀ j, j < k → isNum ((spl 32 L).getD (j + 1) []) = true) (fun k => [(42, .int .i64 (k : Nat))]) (fun k => [(b1, Obj.cells (intsA (fillZ (nmF (spl 32 L)) ((kdF ((spl 32 L).getD 0 [])).getD (0, 0)).2 k)) 3 (0, 0)), (bw, Obj.cells ((spl 32 L).map str).toArray 9 (0, 0)), (b0, Obj.cells #[.int .i64 0, .slice none 0 0] 144 (0, 0))]) (fun k => (spl 32 L).length - 1 - k) 0 ⟨Nat.zero_le _, fun j hj => absurd hj (Nat.not_lt_zero _)⟩ (by repeat (first | exact True.intro | refine And.intro rfl ?_)) (by repeat (first | exact .slnil | exact List.nil_sublist _ | exact .refl _ | refine .cons_cons _ ?_ | refine .cons _ ?_ | refine .trans ?_ (List.sublist_append_right _ _))) ?_
        intro k hk
        have hk1 := hk.1
        refine TC.lit [(2, _), (5, _), (8, _), (40, _), (41, _), (42, _)] (by repeat (first | exact True.intro | refine And.intro rfl ?_)) ?_
        refine TC.seq ?_
        refine TC.region ?_
        refine TL.pure (PV.lss rfl rfl) rfl (by decide) ?_
        refine TL.nil ?_
        refine TQ.thenC ?_
        refine TC.seq ?_
        first | refine TC.condD rfl (fun hlt => ?_) (fun hlt => ?_) | refine TC.cond rfl (fun hlt => ?_) (fun hlt => ?_)
        · refine TC.skip ?_
          refine TQ.thenC ?_
          refine TC.seq ?_
          refine TC.block ?_
          refine TC.seq ?_
          have hcut := cutA_1 (b := bw) (n := (spl 32 L).length) (by omega)
          refine TC.region ?_
          refine TL.pure (PV.move rfl) rfl (by decide) ?_
          refine TL.pure (PV.indexA (j := k) rfl hcut rfl Tb.elm_43 rfl (by omega)) rfl (by decide) ?_
          refine TL.pure (M.PV.loadW rfl Tb.one_9 (fun w hn => by rw [add_off]; exact hn.cell (by repeat (first | exact List.Mem.head _ | refine List.Mem.tail _ ?_ | refine List.mem_append_right _ ?_)) (strs_at1 (j := k) (by omega)))) rfl (by decide) ?_
          refine TL.pure (PV.assign rfl) rfl (by decide) ?_
          refine TL.pure (PV.assign rfl) rfl (by decide) ?_
          refine TL.nil ?_
          refine TQ.thenC ?_
          refine TC.seq ?_
          refine TC.region ?_
          refine TL.pure (PV.move rfl) rfl (by decide) ?_
          refine TL.call rfl Tb.gofn_149 (fun a w hs => atoi_ok w (hW.new hs.new) _ (by have := hwl (k + 1); omega)) rfl (by decide) (fun x hx9 => ?_)
          refine TL.pure (PV.move rfl) rfl (by decide) ?_
          refine TL.pure (PV.extract rfl rfl) rfl (by decide) ?_
          refine TL.pure (PV.extract rfl rfl) rfl (by decide) ?_
          refine TL.pure (PV.assign rfl) rfl (by decide) ?_
          refine TL.pure (PV.assign rfl) rfl (by decide) ?_
          refine TL.nil ?_
          refine TQ.thenC ?_
          refine TC.seq ?_
          refine TC.seq ?_
          have hxb := hx9.1
          refine TC.region ?_
          refine TL.pure (PV.move rfl) rfl (by decide) ?_
          refine TL.pure (PV.neqErr rfl) rfl (by decide) ?_
          refine TL.pure (PV.move rfl) rfl (by decide) ?_
          first | refine TL.splitD 54 rfl (fun g1 => ?_) (fun g1 => ?_) | refine TL.split 54 rfl (fun g1 => ?_) (fun g1 => ?_)
          · refine TL.skip rfl (fun k hk => by cases hk; decide) ?_
            refine TL.skip rfl (fun k hk => by cases hk; decide) ?_
            refine TL.pure (PV.pickT rfl rfl) rfl (by decide) ?_
            refine TL.pure (PV.move rfl) rfl (by decide) ?_
            refine TL.skip rfl (fun k hk => by cases hk; decide) ?_
            refine TL.skip rfl (fun k hk => by cases hk; decide) ?_
            refine TL.pure (PV.pickT rfl rfl) rfl (by decide) ?_
            refine TL.pure (PV.move rfl) rfl (by decide) ?_
            refine TL.skip rfl (fun k hk => by cases hk; decide) ?_
            refine TL.skip rfl (fun k hk => by cases hk; decide) ?_
            refine TL.skip rfl (fun k hk => by cases hk; decide) ?_
            refine TL.skip rfl (fun k hk => by cases hk; decide) ?_
            refine TL.pure (PV.pickT rfl rfl) rfl (by decide) ?_
            refine TL.nil ?_
            refine TQ.thenC ?_
            refine TC.condT rfl ?_
            refine TC.seq ?_
            refine TC.region ?_
            refine TL.pure (PV.build rfl Tb.zero_144 Tb.pl_144 rfl) rfl (by decide) ?_
            refine TL.storeAgg rfl rfl Tb.cells_144 (by repeat (first | exact Upd.head _ | apply Upd.tail | apply Upd.appR)) rfl rfl rfl rfl rfl ?_
            refine TL.pure (PV.assign rfl) rfl (by decide) ?_
            refine TL.nil ?_
            refine TQ.thenC ?_
            refine TC.ret ?_
            refine TQ.thenR ?_
            refine TQ.blkR ?_
            refine TQ.thenR ?_
            refine TQ.thenR ?_
            refine TQ.blkR ?_
            refine TQ.thenR ?_
            refine TQ.retR rfl (Res.agg rfl Tb.agg_144 (by repeat (first | exact List.Mem.head _ | refine List.Mem.tail _ ?_ | refine List.mem_append_right _ ?_)) rfl (Res.tmp rfl Res.nil)) ?_
            simp only [tup]
            have hp : prsO L = none := prs_no4 (k := k) (by omega) (isNum_no hx9.2 (fun h9 => by rw [h9.1] at g1; cases g1))
            exact ⟨0, by rw [hp]; rfl, trivial, by rw [hp]; exact List.nil_sublist _⟩
          · refine TL.pure (PV.move rfl) rfl (by decide) ?_
            refine TL.pure (PV.lss rfl rfl) rfl (by decide) ?_
            refine TL.pure (PV.pickF rfl rfl) rfl (by decide) ?_
            refine TL.pure (PV.move rfl) rfl (by decide) ?_
            first | refine TL.splitD 58 rfl (fun g2 => ?_) (fun g2 => ?_) | refine TL.split 58 rfl (fun g2 => ?_) (fun g2 => ?_)
            · refine TL.skip rfl (fun k hk => by cases hk; decide) ?_
              refine TL.skip rfl (fun k hk => by cases hk; decide) ?_
              refine TL.pure (PV.pickT rfl rfl) rfl (by decide) ?_
              refine TL.pure (PV.move rfl) rfl (by decide) ?_
              refine TL.skip rfl (fun k hk => by cases hk; decide) ?_
              refine TL.skip rfl (fun k hk => by cases hk; decide) ?_
              refine TL.skip rfl (fun k hk => by cases hk; decide) ?_
              refine TL.skip rfl (fun k hk => by cases hk; decide) ?_
              refine TL.pure (PV.pickT rfl rfl) rfl (by decide) ?_
              refine TL.nil ?_
              refine TQ.thenC ?_
              refine TC.condT rfl ?_
              refine TC.seq ?_
              refine TC.region ?_
              refine TL.pure (PV.build rfl Tb.zero_144 Tb.pl_144 rfl) rfl (by decide) ?_
              refine TL.storeAgg rfl rfl Tb.cells_144 (by repeat (first | exact Upd.head _ | apply Upd.tail | apply Upd.appR)) rfl rfl rfl rfl rfl ?_
              refine TL.pure (PV.assign rfl) rfl (by decide) ?_
              refine TL.nil ?_
              refine TQ.thenC ?_
              refine TC.ret ?_
              refine TQ.thenR ?_
              refine TQ.blkR ?_
              refine TQ.thenR ?_
              refine TQ.thenR ?_
              refine TQ.blkR ?_
              refine TQ.thenR ?_
              refine TQ.retR rfl (Res.agg rfl Tb.agg_144 (by repeat (first | exact List.Mem.head _ | refine List.Mem.tail _ ?_ | refine List.mem_append_right _ ?_)) rfl (Res.tmp rfl Res.nil)) ?_
              simp only [tup]
              have hp : prsO L = none := prs_no4 (k := k) (by omega) (isNum_no hx9.2 (fun h9 => absurd g2 (by omega)))
              exact ⟨0, by rw [hp]; rfl, trivial, by rw [hp]; exact List.nil_sublist _⟩
            · refine TL.pure (PV.move rfl) rfl (by decide) ?_
              refine TL.pure (PV.gtr rfl rfl) rfl (by decide) ?_
              refine TL.pure (PV.pickF rfl rfl) rfl (by decide) ?_
              refine TL.pure (PV.move rfl) rfl (by decide) ?_
              first | refine TL.splitD 62 rfl (fun g3 => ?_) (fun g3 => ?_) | refine TL.split 62 rfl (fun g3 => ?_) (fun g3 => ?_)
              · refine TL.skip rfl (fun k hk => by cases hk; decide) ?_
                refine TL.skip rfl (fun k hk => by cases hk; decide) ?_
                refine TL.skip rfl (fun k hk => by cases hk; decide) ?_
                refine TL.skip rfl (fun k hk => by cases hk; decide) ?_
                refine TL.pure (PV.pickT rfl rfl) rfl (by decide) ?_
                refine TL.nil ?_
                refine TQ.thenC ?_
                refine TC.condT rfl ?_
                refine TC.seq ?_
                refine TC.region ?_
                refine TL.pure (PV.build rfl Tb.zero_144 Tb.pl_144 rfl) rfl (by decide) ?_
                refine TL.storeAgg rfl rfl Tb.cells_144 (by repeat (first | exact Upd.head _ | apply Upd.tail | apply Upd.appR)) rfl rfl rfl rfl rfl ?_
                refine TL.pure (PV.assign rfl) rfl (by decide) ?_
                refine TL.nil ?_
                refine TQ.thenC ?_
                refine TC.ret ?_
                refine TQ.thenR ?_
                refine TQ.blkR ?_
                refine TQ.thenR ?_
                refine TQ.thenR ?_
                refine TQ.blkR ?_
                refine TQ.thenR ?_
                refine TQ.retR rfl (Res.agg rfl Tb.agg_144 (by repeat (first | exact List.Mem.head _ | refine List.Mem.tail _ ?_ | refine List.mem_append_right _ ?_)) rfl (Res.tmp rfl Res.nil)) ?_
                simp only [tup]
                have hp : prsO L = none := prs_no4 (k := k) (by omega) (isNum_no hx9.2 (fun h9 => absurd g3 (by omega)))
                exact ⟨0, by rw [hp]; rfl, trivial, by rw [hp]; exact List.nil_sublist _⟩
              · refine TL.pure (PV.move rfl) rfl (by decide) ?_
                refine TL.call rfl Tb.gofn_78 (fun a w hs => itoa_ok w (hW.new hs.new) _ (by omega) (by omega)) rfl (by decide) (fun _ _ => ?_)
                refine TL.pure (PV.move rfl) rfl (by decide) ?_
                refine TL.pure (PV.neqS rfl rfl) rfl (by decide) ?_
                refine TL.pure (PV.pickF rfl rfl) rfl (by decide) ?_
                refine TL.nil ?_
                refine TQ.thenC ?_
                first | refine TC.condD rfl (fun g4 => ?_) (fun g4 => ?_) | refine TC.cond rfl (fun g4 => ?_) (fun g4 => ?_)
                · refine TC.seq ?_
                  refine TC.region ?_
                  refine TL.pure (PV.build rfl Tb.zero_144 Tb.pl_144 rfl) rfl (by decide) ?_
                  refine TL.storeAgg rfl rfl Tb.cells_144 (by repeat (first | exact Upd.head _ | apply Upd.tail | apply Upd.appR)) rfl rfl rfl rfl rfl ?_
                  refine TL.pure (PV.assign rfl) rfl (by decide) ?_
                  refine TL.nil ?_
                  refine TQ.thenC ?_
                  refine TC.ret ?_
                  refine TQ.thenR ?_
                  refine TQ.blkR ?_
                  refine TQ.thenR ?_
                  refine TQ.thenR ?_
                  refine TQ.blkR ?_
                  refine TQ.thenR ?_
                  refine TQ.retR rfl (Res.agg rfl Tb.agg_144 (by repeat (first | exact List.Mem.head _ | refine List.Mem.tail _ ?_ | refine List.mem_append_right _ ?_)) rfl (Res.tmp rfl Res.nil)) ?_
                  simp only [tup]
                  have hp : prsO L = none := prs_no4 (k := k) (by omega) (isNum_no hx9.2 (fun h9 => g4 h9.2.2.2))
                  exact ⟨0, by rw [hp]; rfl, trivial, by rw [hp]; exact List.nil_sublist _⟩
                · refine TC.skip ?_
                  refine TQ.thenC ?_
                  have hyes := isNum_yes (w := (spl 32 L).getD (k + 1) []) (v := x.1) (by omega) (by omega) (Decidable.not_not.1 g4)
                  refine TC.region ?_
                  refine TL.pure (PV.move rfl) rfl (by decide) ?_
                  refine TL.pure (PV.move rfl) rfl (by decide) ?_
                  refine TL.pure (PV.move rfl) rfl (by decide) ?_
                  refine TL.pure (PV.index1 (j := k) rfl rfl Tb.elm_25 rfl (by omega)) rfl (by decide) ?_
                  refine TL.storeI (xs := fillZ (nmF (spl 32 L)) ((kdF ((spl 32 L).getD 0 [])).getD (0, 0)).2 k) (j := k) rfl rfl Tb.cells_3 (by repeat (first | exact Upd.head _ | apply Upd.tail | apply Upd.appR)) (by rw [fillZ_len]; omega) rfl rfl ?_
                  refine TL.nil ?_
                  refine TQ.blkN ?_
                  refine TQ.thenC ?_
                  refine TC.region ?_
                  refine TL.pure (PV.add rfl rfl (by omega)) rfl (by decide) ?_
                  refine TL.pure (PV.move rfl) rfl (by decide) ?_
                  refine TL.nil ?_
                  refine TQ.thenN ?_
                  refine TQ.sub (G' := [(b1, Obj.cells (intsA (fillZ (nmF (spl 32 L)) ((kdF ((spl 32 L).getD 0 [])).getD (0, 0)).2 (k + 1))) 3 (0, 0)), (bw, Obj.cells ((spl 32 L).map str).toArray 9 (0, 0)), (b0, Obj.cells #[.int .i64 0, .slice none 0 0] 144 (0, 0))]) (by rw [← fillZ_set (by omega)]; show List.Sublist _ [(b1, Obj.cells (intsA ((fillZ (nmF (spl 32 L)) ((kdF ((spl 32 L).getD 0 [])).getD (0, 0)).2 k).set k _)) 3 (0, 0)), _, _]; rw [show nmF (spl 32 L) k = x.1 from hyes.2]; exact List.Sublist.refl _) ?_
                  refine TQ.backK (k + 1) (by repeat (first | exact True.intro | refine And.intro rfl ?_)) (by repeat (first | exact True.intro | refine And.intro rfl ?_)) (by repeat (first | exact .slnil | exact List.nil_sublist _ | exact .refl _ | refine .cons_cons _ ?_ | refine .cons _ ?_ | refine .trans ?_ (List.sublist_append_right _ _))) ⟨by omega, fun j hj => if e : j < k then hk.2 j e else (show k = j by omega) ▸ hyes.1⟩ (by omega)
        · refine TC.exit ?_
          refine TQ.thenE ?_
          refine TQ.thenE ?_
          refine TQ.blkS ?_
          refine TQ.thenC ?_
          refine TC.seq ?_
          refine TC.region ?_
          refine TL.pure (PV.move rfl) rfl (by decide) ?_
          refine TL.pure (PV.move rfl) rfl (by decide) ?_
          refine TL.pure (PV.build rfl Tb.zero_144 Tb.pl_144 rfl) rfl (by decide) ?_
          refine TL.storeAgg rfl rfl Tb.cells_144 (by repeat (first | exact Upd.head _ | apply Upd.tail | apply Upd.appR)) rfl rfl rfl rfl rfl ?_
          refine TL.pure (PV.assign rfl) rfl (by decide) ?_
          refine TL.nil ?_
          refine TQ.thenC ?_
          refine TC.ret ?_
          refine TQ.retR rfl (Res.agg rfl Tb.agg_144 (by repeat (first | exact List.Mem.head _ | refine List.Mem.tail _ ?_ | refine List.mem_append_right _ ?_)) rfl (Res.tmp rfl Res.nil)) ?_
          simp only [tup]
          have hke : k = (spl 32 L).length - 1 := by omega
          have hsm : kdF ((spl 32 L).getD 0 []) = some (((kdF ((spl 32 L).getD 0 [])).getD (0, 0)).1, ((kdF ((spl 32 L).getD 0 [])).getD (0, 0)).2) := by cases h9 : kdF ((spl 32 L).getD 0 []) with | none => rw [h9] at g5; cases g5 | some kc => rfl
          have hp := prs_yes hsm (by omega) (fun j hj => hk.2 j (by omega))
          exact ⟨b1, prV_mk hp, trivial, by rw [hp]; show List.Sublist [(b1, Obj.cells (intsA ((List.range ((kdF ((spl 32 L).getD 0 [])).getD (0, 0)).2).map (nmF (spl 32 L)))) 3 (0, 0))] _; rw [← fillZ_all, show ((kdF ((spl 32 L).getD 0 [])).getD (0, 0)).2 = k by omega]; exact (by repeat (first | exact .slnil | exact List.nil_sublist _ | exact .refl _ | refine .cons_cons _ ?_ | refine .cons _ ?_ | refine .trans ?_ (List.sublist_append_right _ _)))⟩

end Go.Proofs.YtbnjmkidbfmomaaGreatDoor

/- Lists of nodes and drains, the reference of cuts, flows that are proved: contracts. -/
import Derived.Test.YtnlbngbbddhgeaaQFq
set_option linter.unusedVariables false
set_option linter.unusedSimpArgs false
namespace Go.Proofs.Ytnlbngbbddhgeaa
open Go.Sx Go.RowKit


section
variable {P : Program} {n : Nat} {w0 : World} {E : Env}
theorem SOK.skipU {ops : Array Oper} {o : Oper} {GJ : Heap} (hg : undoneB ops E o.guard = true) : SOK P n w0 ops GJ E o undef := by
  intro F' hF a w hs
  have := S_undone (hs.env_le hF) (o := o) hg
  rw [if_neg (by simp [this])]
end
theorem ints_ext {xs ys : List Int} (hl : xs.length = ys.length) (h : ∀ j, j < xs.length → xs.getD j 0 = ys.getD j 0) : xs = ys := by
  apply List.ext_getElem hl
  intro j h1 h2
  have := h j h1
  simpa [List.getD, h1, h2] using this
/-- A value reads as a list. -/
def IsI (w : World) (v : Value) (xs : List Int) : Prop := ∃ p c, v = .slice p xs.length c ∧ IntsAt w p xs
theorem IsI.of {w : World} {p : Option Addr} {c : Nat} {xs : List Int} (h : IntsAt w p xs) : IsI w (.slice p xs.length c) xs := ⟨p, c, rfl, h⟩
theorem IsI.ofl {w : World} {p : Option Addr} {c m : Nat} {xs : List Int} (hm : xs.length = m) (h : IntsAt w p xs) : IsI w (.slice p m c) xs := by subst hm; exact ⟨p, c, rfl, h⟩
theorem IsI.new {w0 w : World} {G : Heap} {v : Value} {xs : List Int} (h : IsI w0 v xs) (hn : New w0 w G) : IsI w v xs := by
  obtain ⟨p, c, rfl, hx⟩ := h
  exact ⟨p, c, rfl, hx.new hn⟩
theorem IsI.g {w0 w : World} {G : Heap} {h : HD} {xs : List Int} (hn : New w0 w G) (hm : ∀ y ∈ gbI (h, xs), y ∈ G) (ho : goI (h, xs)) : IsI w (gval h xs.length) xs :=
  ⟨_, _, gval_eq ho, IntsAt.g (x := (h, xs)) hn hm ho⟩
theorem IsI.nil {w : World} : IsI w (.slice none 0 0) [] := ⟨none, 0, rfl, fun j hj => absurd hj (Nat.not_lt_zero _)⟩
theorem goI_nil : goI (none, []) := ⟨rfl, rfl⟩
/-- The numbers below k of a set. -/
def lst (f : Nat → Bool) (k : Nat) : List Int := ((List.range k).filter f).map fun v : Nat => (v : Int)
theorem lst_yes {f : Nat → Bool} {k : Nat} (h : f k = true) : lst f (k + 1) = lst f k ++ [(k : Int)] := by simp [lst, List.range_succ, h]
theorem lst_no {f : Nat → Bool} {k : Nat} (h : f k = false) : lst f (k + 1) = lst f k := by simp [lst, List.range_succ, h]
theorem lst_len (f : Nat → Bool) (k : Nat) : (lst f k).length ≤ k := by
  simp only [lst, List.length_map]; exact Nat.le_trans (List.length_filter_le _ _) (by simp)
theorem mem_lst {f : Nat → Bool} {k : Nat} {v : Int} : v ∈ lst f k ↔ 0 ≤ v ∧ v < k ∧ f v.toNat = true := by
  simp only [lst, List.mem_map, List.mem_filter, List.mem_range]
  constructor
  · rintro ⟨u, ⟨h1, h2⟩, rfl⟩; exact ⟨by omega, by omega, by simpa using h2⟩
  · rintro ⟨h1, h2, h3⟩; exact ⟨v.toNat, ⟨by omega, h3⟩, by omega⟩
theorem lst_congr {f g : Nat → Bool} {k : Nat} (h : ∀ v, v < k → f v = g v) : lst f k = lst g k := by
  unfold lst; congr 1
  exact List.filter_congr fun v hv => h v (List.mem_range.1 hv)
open Classical in
/-- What all narrowest cuts have, and what one of them has. -/
noncomputable def lcS (s t : Nat) (rs : List Bd) (v : Nat) : Bool := decide (∀ C, Fl.MinC s t (dr0 rs) C → C v = true)
open Classical in
noncomputable def gcS (s t : Nat) (rs : List Bd) (v : Nat) : Bool := decide (∃ C, Fl.MinC s t (dr0 rs) C ∧ C v = true)
theorem lcS_ok (n s t : Nat) (rs : List Bd) : Fl.LcP n s t (dr0 rs) (lcS s t rs) := fun v _ => by simp [lcS]
theorem gcS_ok (n s t : Nat) (rs : List Bd) : Fl.GcP n s t (dr0 rs) (gcS s t rs) := fun v _ => by simp [gcS]
/-- The sets that the narrowest among the first numbers have in common, and all that they have. -/
def LInv (n s t : Nat) (L : List Fl.E) (k : Nat) (A : Nat) : Prop := A < 256 ∧ ∀ v, v < n → (A.testBit v = true ↔ ∀ S, S < k → Fl.MinC s t L S.testBit → S.testBit v = true)
def GInv (n s t : Nat) (L : List Fl.E) (k : Nat) (A : Nat) : Prop := A < 256 ∧ ∀ v, v < n → (A.testBit v = true ↔ ∃ S, S < k ∧ Fl.MinC s t L S.testBit ∧ S.testBit v = true)
theorem LInv.zero {n s t : Nat} {L : List Fl.E} (hn : n ≤ 8) : LInv n s t L 0 (2 ^ n - 1) :=
  ⟨by have := p2_256 hn; have := Nat.two_pow_pos n; omega, fun v hv => by rw [Nat.testBit_two_pow_sub_one]; exact ⟨fun _ S h => absurd h (Nat.not_lt_zero _), fun _ => decide_eq_true hv⟩⟩
theorem GInv.zero {n s t : Nat} {L : List Fl.E} : GInv n s t L 0 0 :=
  ⟨by decide, fun v hv => by rw [Nat.zero_testBit]; exact ⟨fun h => (by cases h), fun ⟨S, h, _⟩ => absurd h (Nat.not_lt_zero _)⟩⟩
theorem LInv.skip {n s t k A : Nat} {L : List Fl.E} (h : LInv n s t L k A) (hk : ¬ Fl.MinC s t L k.testBit) : LInv n s t L (k + 1) A :=
  ⟨h.1, fun v hv => (h.2 v hv).trans ⟨fun h1 S hS hm => by
    by_cases e : S = k
    · subst e; exact absurd hm hk
    · exact h1 S (by omega) hm, fun h1 S hS hm => h1 S (by omega) hm⟩⟩
theorem GInv.skip {n s t k A : Nat} {L : List Fl.E} (h : GInv n s t L k A) (hk : ¬ Fl.MinC s t L k.testBit) : GInv n s t L (k + 1) A :=
  ⟨h.1, fun v hv => (h.2 v hv).trans ⟨fun ⟨S, h1, h2⟩ => ⟨S, by omega, h2⟩, fun ⟨S, h1, h2, h3⟩ => by
    by_cases e : S = k
    · subst e; exact absurd h2 hk
    · exact ⟨S, by omega, h2, h3⟩⟩⟩
theorem W1.mskC {n s t : Nat} {rs : List Bd} (hw : W1 n s t rs) {C : Nat → Bool} (hC : Fl.MinC s t (dr0 rs) C) : Fl.MinC s t (dr0 rs) (Fl.msk n C).testBit := hC.nodes hw.sn hw.tn hw.nodes fun v hv => (Fl.msk_in hv).symm
theorem LInv.done {n s t A : Nat} {rs : List Bd} (hw : W1 n s t rs) (h : LInv n s t (dr0 rs) (2 ^ n) A) : lst A.testBit n = lst (lcS s t rs) n := lst_congr fun v hv =>
  Fl.LcP.uniq (n := n) (fun v hv => (h.2 v hv).trans ⟨fun h1 C hC => by have := h1 _ (Fl.msk_lt n C) (hw.mskC hC); rwa [Fl.msk_in hv] at this, fun h1 S _ hS => h1 _ hS⟩) (lcS_ok n s t rs) hv
theorem GInv.done {n s t A : Nat} {rs : List Bd} (hw : W1 n s t rs) (h : GInv n s t (dr0 rs) (2 ^ n) A) : lst A.testBit n = lst (gcS s t rs) n := lst_congr fun v hv =>
  Fl.GcP.uniq (n := n) (fun v hv => (h.2 v hv).trans ⟨fun ⟨S, _, h2, h3⟩ => ⟨_, h2, h3⟩, fun ⟨C, hC, hv3⟩ => ⟨_, Fl.msk_lt n C, hw.mskC hC, by rw [Fl.msk_in hv]; exact hv3⟩⟩) (gcS_ok n s t rs) hv
/-- The number of a list so far. -/
def MInv (xs : List Int) (k A : Nat) : Prop := A < 256 ∧ ∀ v : Nat, A.testBit v = decide ((v : Int) ∈ xs.take k)
theorem MInv.zero (xs : List Int) : MInv xs 0 0 := ⟨by decide, fun v => by simp⟩
theorem Mx.mw {n s t : Nat} {rs : List Bd} {L : List Fl.E} (h : Mx n s t rs L) (hs : Shut L n s t) : Fl.out s L = Fl.mw s t (dr0 rs) := by
  obtain ⟨⟨S, h1, h2, h3⟩, h4⟩ := h.most hs
  refine (Fl.MW.eq ⟨⟨S, h1, h2, by rw [h3, cut_dr h]⟩, fun C c1 c2 => ?_⟩).symm
  rw [← cut_dr h]; exact h4 C c1 c2
def cmI (n s t : Nat) (rs : List Bd) (fs xs : List Int) : Int :=
  if (cfV n s t rs fs).2 ≠ 0 then (cfV n s t rs fs).2 else if cutB n s t xs = true then (if (cfV n s t rs fs).1 = Fl.cutW (inS xs) (dr0 rs) then 0 else 7) else 1


set_option maxRecDepth 100000 in
theorem sameInts_ok (w0 : World) (vx : Value) (xs : List Int) (hv : IsI w0 vx xs) (vy : Value) (ys : List Int) (hu : IsI w0 vy ys) (hl : xs.length ≤ 1000000) (hl2 : ys.length ≤ 1000000) :
    Calls Try.prog 31 #[vx, vy] w0 (Post (X := Unit) (fun _ => .bool (decide (xs = ys))) (fun _ => True) (fun _ => []) w0) := by
  obtain ⟨p1, c1, rfl, hx⟩ := hv
  obtain ⟨p2, c2, rfl, hy⟩ := hu
  refine calls Try.func31 rfl (n := 26) rfl (by simp) ?_
  refine TC.seq ?_
  refine TC.region ?_
  refine TL.pure (PV.assign rfl) rfl (by decide) ?_
  refine TL.nil ?_
  refine TQ.thenC ?_
  refine TC.seq ?_
  refine TC.seq ?_
  refine TC.region ?_
  refine TL.pure (PV.move rfl) rfl (by decide) ?_
  refine TL.pure (PV.len rfl Tb.sl_25) rfl (by decide) ?_
  refine TL.pure (PV.move rfl) rfl (by decide) ?_
  refine TL.pure (PV.len rfl Tb.sl_25) rfl (by decide) ?_
  refine TL.pure (PV.neq rfl rfl) rfl (by decide) ?_
  refine TL.nil ?_
  refine TQ.thenC ?_
  first | refine TC.condD rfl (fun hne => ?_) (fun hne => ?_) | refine TC.cond rfl (fun hne => ?_) (fun hne => ?_)
  · skip
    refine TC.seq ?_
    refine TC.region ?_
    refine TL.pure (PV.assign rfl) rfl (by decide) ?_
    refine TL.nil ?_
    refine TQ.thenC ?_
    refine TC.ret ?_
    refine TQ.thenR ?_
    refine TQ.retE1 rfl rfl ?_
    exact ⟨(), by rw [decide_eq_false (fun e => by subst e; omega)], trivial, List.nil_sublist _⟩
  · skip
    refine TC.skip ?_
    refine TQ.thenC ?_
    refine TC.seq ?_
    refine TC.seq ?_
    refine TC.region ?_
    refine TL.pure (PV.assign rfl) rfl (by decide) ?_
    refine TL.nil ?_
    refine TQ.thenC ?_
    refine TC.block ?_
    -- live and written in the loop, not told: [4]
    refine TC.loopK [0, 1] (X := Nat) (fun k => k ≤ xs.length ∧ ∀ j, j < k → xs.getD j 0 = ys.getD j 0) (fun k => [(5, .int .i64 k)]) (fun k => []) (fun k => xs.length - k) 0 ⟨Nat.zero_le _, fun j hj => absurd hj (Nat.not_lt_zero _)⟩ (by repeat (first | exact True.intro | refine And.intro rfl ?_)) (by repeat (first | exact List.Sublist.slnil | exact List.nil_sublist _ | exact List.Sublist.refl _ | refine List.Sublist.cons_cons _ ?_ | refine List.Sublist.cons _ ?_ | refine List.Sublist.trans ?_ (List.sublist_append_right _ _))) ?_
    intro k hk
    refine TC.seq ?_
    refine TC.seq ?_
    refine TC.region ?_
    refine TL.pure (PV.move rfl) rfl (by decide) ?_
    refine TL.pure (PV.move rfl) rfl (by decide) ?_
    refine TL.pure (PV.len rfl Tb.sl_25) rfl (by decide) ?_
    refine TL.pure (PV.lss rfl rfl) rfl (by decide) ?_
    refine TL.nil ?_
    refine TQ.thenC ?_
    first | refine TC.condD rfl (fun hlt => ?_) (fun hlt => ?_) | refine TC.cond rfl (fun hlt => ?_) (fun hlt => ?_)
    · skip
      refine TC.skip ?_
      refine TQ.thenC ?_
      refine TC.seq ?_
      refine TC.block ?_
      refine TC.seq ?_
      obtain ⟨q1, q1p, q1v⟩ := hx (k) (by omega)
      obtain ⟨q2, q2p, q2v⟩ := hy (k) (by omega)
      refine TC.any Tb.mixed rfl rfl ?_
      refine TA.op (OpOK.pure (PV.move rfl) rfl (by decide)) (by decide) ?_
      refine TA.op (OpOK.pure (PV.move rfl) rfl (by decide)) (by decide) ?_
      refine TA.op (OpOK.pure (PV.indexA rfl q1p rfl Tb.elm_25 rfl (by omega)) rfl (by decide)) (by decide) ?_
      refine TA.op (OpOK.pure (PV.loadOld rfl Tb.one_3 q1v) rfl (by decide)) (by decide) ?_
      refine TA.op (OpOK.pure (PV.move rfl) rfl (by decide)) (by decide) ?_
      refine TA.op (OpOK.pure (PV.move rfl) rfl (by decide)) (by decide) ?_
      refine TA.op (OpOK.pure (PV.indexA rfl q2p rfl Tb.elm_25 rfl (by omega)) rfl (by decide)) (by decide) ?_
      refine TA.op (OpOK.pure (PV.loadOld rfl Tb.one_3 q2v) rfl (by decide)) (by decide) ?_
      refine TA.op (OpOK.pure (PV.neq rfl rfl) rfl (by decide)) (by decide) ?_
      show TQ _ _ _ _ _
      refine TQ.thenC ?_
      first | refine TC.condD rfl (fun hno => ?_) (fun hno => ?_) | refine TC.cond rfl (fun hno => ?_) (fun hno => ?_)
      · skip
        refine TC.seq ?_
        refine TC.region ?_
        refine TL.pure (PV.assign rfl) rfl (by decide) ?_
        refine TL.nil ?_
        refine TQ.thenC ?_
        refine TC.ret ?_
        refine TQ.blkR ?_
        refine TQ.thenR ?_
        refine TQ.thenR ?_
        refine TQ.blkR ?_
        refine TQ.thenR ?_
        refine TQ.retE1 rfl rfl ?_
        exact ⟨(), by rw [decide_eq_false (fun e => by subst e; omega)], trivial, List.nil_sublist _⟩
      · skip
        refine TC.skip ?_
        refine TQ.blkN ?_
        refine TQ.thenC ?_
        refine TC.region ?_
        refine TL.pure (PV.move rfl) rfl (by decide) ?_
        refine TL.pure (PV.add rfl rfl (by omega)) rfl (by decide) ?_
        refine TL.pure (PV.assign rfl) rfl (by decide) ?_
        refine TL.nil ?_
        refine TQ.thenN ?_
        refine TQ.backK (k + 1) (by repeat (first | exact True.intro | refine And.intro rfl ?_)) (by repeat (first | exact True.intro | refine And.intro rfl ?_)) (by repeat (first | exact List.Sublist.slnil | exact List.nil_sublist _ | exact List.Sublist.refl _ | refine List.Sublist.cons_cons _ ?_ | refine List.Sublist.cons _ ?_ | refine List.Sublist.trans ?_ (List.sublist_append_right _ _))) ⟨by omega, fun j hj => by
          by_cases e9 : j = k
          · subst e9; exact (by omega)
          · exact hk.2 j (by omega)⟩ (by omega)
    · skip
      refine TC.exit ?_
      refine TQ.thenE ?_
      refine TQ.thenE ?_
      refine TQ.blkS ?_
      refine TQ.thenC ?_
      refine TC.seq ?_
      refine TC.region ?_
      refine TL.pure (PV.assign rfl) rfl (by decide) ?_
      refine TL.nil ?_
      refine TQ.thenC ?_
      refine TC.ret ?_
      refine TQ.retE1 rfl rfl ?_
      exact ⟨(), by rw [decide_eq_true (ints_ext (by omega) (fun j hj => hk.2 j (by omega)))], trivial, List.nil_sublist _⟩

set_option maxRecDepth 100000 in
theorem CheckMost_v (w0 : World) (n s t : Nat) (p : Option Addr) (cap : Nat) (rs : List Bd) (hr : BdsAt w0 p rs) (hv : Vd n s t rs) (hd0 : dI n s t rs = 0) (pf : Option Addr) (cf : Nat) (fs : List Int) (hf : IntsAt w0 pf fs) (hl9 : fs.length ≤ 1000000) (px : Option Addr) (cx : Nat) (xs : List Int) (hx : IntsAt w0 px xs) (hl : xs.length ≤ 1000000) :
    Calls Try.prog 32 #[dnV n s t p rs.length cap, .slice pf fs.length cf, .slice px xs.length cx] w0 (Post (X := Unit) (fun _ => .int .i64 (cmI n s t rs fs xs)) (fun _ => True) (fun _ => []) w0) := by
  refine calls Try.func32 rfl (n := 31) rfl (by simp) ?_
  refine TC.seq ?_
  refine TC.region ?_
  refine TL.box rfl rfl (by decide) (fun b0 hb0 => ?_)
  refine TL.pure (PV.assign rfl) rfl (by decide) ?_
  refine TL.nil ?_
  refine TQ.thenC ?_
  refine TC.seq ?_
  refine TC.region ?_
  refine TL.pure (PV.loadBox rfl Tb.agg_24 (by repeat (first | exact List.Mem.head _ | refine List.Mem.tail _ ?_ | refine List.mem_append_right _ ?_)) rfl) rfl (by decide) ?_
  refine TL.pure (PV.move rfl) rfl (by decide) ?_
  refine TL.call rfl Tb.gofn_18 (fun a w hs => CheckFlow_v w n s t p cap rs (hr.new hs.new) hv hd0 pf cf fs (hf.new hs.new) hl9) rfl (by decide) (fun _ _ => ?_)
  refine TL.pure (PV.move rfl) rfl (by decide) ?_
  refine TL.pure (PV.extract rfl rfl) rfl (by decide) ?_
  refine TL.pure (PV.extract rfl rfl) rfl (by decide) ?_
  refine TL.pure (PV.assign rfl) rfl (by decide) ?_
  refine TL.pure (PV.assign rfl) rfl (by decide) ?_
  refine TL.nil ?_
  refine TQ.thenC ?_
  refine TC.seq ?_
  refine TC.seq ?_
  refine TC.region ?_
  refine TL.pure (PV.move rfl) rfl (by decide) ?_
  refine TL.pure (PV.neq rfl rfl) rfl (by decide) ?_
  refine TL.nil ?_
  refine TQ.thenC ?_
  first | refine TC.condD rfl (fun h1 => ?_) (fun h1 => ?_) | refine TC.cond rfl (fun h1 => ?_) (fun h1 => ?_)
  · skip
    refine TC.seq ?_
    refine TC.region ?_
    refine TL.pure (PV.move rfl) rfl (by decide) ?_
    refine TL.pure (PV.assign rfl) rfl (by decide) ?_
    refine TL.nil ?_
    refine TQ.thenC ?_
    refine TC.ret ?_
    refine TQ.thenR ?_
    refine TQ.retE1 rfl rfl ?_
    first | exact ⟨(), by rw [cmI, if_pos h1], trivial, List.nil_sublist _⟩ | exact ⟨(), by have hcu : ¬ cutB n s t xs = true := fun h9 => h2 (if_pos h9); rw [cmI, if_neg h1, if_neg hcu, if_neg hcu], trivial, List.nil_sublist _⟩ | exact ⟨(), by have hcu : cutB n s t xs = true := Decidable.byContradiction fun h9 => h2 (by rw [if_neg h9]; decide); rw [if_pos hcu] at h3; rw [cmI, if_neg h1, if_pos hcu]; first | rw [if_pos (by omega)] | rw [if_neg (by omega)], trivial, List.nil_sublist _⟩
  · skip
    refine TC.skip ?_
    refine TQ.thenC ?_
    refine TC.seq ?_
    refine TC.region ?_
    refine TL.pure (PV.loadBox rfl Tb.agg_24 (by repeat (first | exact List.Mem.head _ | refine List.Mem.tail _ ?_ | refine List.mem_append_right _ ?_)) rfl) rfl (by decide) ?_
    refine TL.pure (PV.move rfl) rfl (by decide) ?_
    refine TL.call rfl Tb.gofn_25 (fun a w hs => Across_v w n s t p cap rs (hr.new hs.new) hv hd0 px cx xs (hx.new hs.new) hl) rfl (by decide) (fun _ _ => ?_)
    refine TL.pure (PV.move rfl) rfl (by decide) ?_
    refine TL.pure (PV.extract rfl rfl) rfl (by decide) ?_
    refine TL.pure (PV.extract rfl rfl) rfl (by decide) ?_
    refine TL.pure (PV.assign rfl) rfl (by decide) ?_
    refine TL.pure (PV.assign rfl) rfl (by decide) ?_
    refine TL.nil ?_
    refine TQ.thenC ?_
    refine TC.seq ?_
    refine TC.seq ?_
    refine TC.region ?_
    refine TL.pure (PV.move rfl) rfl (by decide) ?_
    refine TL.pure (PV.neq rfl rfl) rfl (by decide) ?_
    refine TL.nil ?_
    refine TQ.thenC ?_
    first | refine TC.condD rfl (fun h2 => ?_) (fun h2 => ?_) | refine TC.cond rfl (fun h2 => ?_) (fun h2 => ?_)
    · skip
      refine TC.seq ?_
      refine TC.region ?_
      refine TL.pure (PV.move rfl) rfl (by decide) ?_
      refine TL.pure (PV.assign rfl) rfl (by decide) ?_
      refine TL.nil ?_
      refine TQ.thenC ?_
      refine TC.ret ?_
      refine TQ.thenR ?_
      refine TQ.retE1 rfl rfl ?_
      first | exact ⟨(), by rw [cmI, if_pos h1], trivial, List.nil_sublist _⟩ | exact ⟨(), by have hcu : ¬ cutB n s t xs = true := fun h9 => h2 (if_pos h9); rw [cmI, if_neg h1, if_neg hcu, if_neg hcu], trivial, List.nil_sublist _⟩ | exact ⟨(), by have hcu : cutB n s t xs = true := Decidable.byContradiction fun h9 => h2 (by rw [if_neg h9]; decide); rw [if_pos hcu] at h3; rw [cmI, if_neg h1, if_pos hcu]; first | rw [if_pos (by omega)] | rw [if_neg (by omega)], trivial, List.nil_sublist _⟩
    · skip
      refine TC.skip ?_
      refine TQ.thenC ?_
      refine TC.seq ?_
      refine TC.seq ?_
      refine TC.region ?_
      refine TL.pure (PV.move rfl) rfl (by decide) ?_
      refine TL.pure (PV.move rfl) rfl (by decide) ?_
      refine TL.pure (PV.neq rfl rfl) rfl (by decide) ?_
      refine TL.nil ?_
      refine TQ.thenC ?_
      first | refine TC.condD rfl (fun h3 => ?_) (fun h3 => ?_) | refine TC.cond rfl (fun h3 => ?_) (fun h3 => ?_)
      · skip
        refine TC.seq ?_
        refine TC.region ?_
        refine TL.pure (PV.assign rfl) rfl (by decide) ?_
        refine TL.nil ?_
        refine TQ.thenC ?_
        refine TC.ret ?_
        refine TQ.thenR ?_
        refine TQ.retE1 rfl rfl ?_
        first | exact ⟨(), by rw [cmI, if_pos h1], trivial, List.nil_sublist _⟩ | exact ⟨(), by have hcu : ¬ cutB n s t xs = true := fun h9 => h2 (if_pos h9); rw [cmI, if_neg h1, if_neg hcu, if_neg hcu], trivial, List.nil_sublist _⟩ | exact ⟨(), by have hcu : cutB n s t xs = true := Decidable.byContradiction fun h9 => h2 (by rw [if_neg h9]; decide); rw [if_pos hcu] at h3; rw [cmI, if_neg h1, if_pos hcu]; first | rw [if_pos (by omega)] | rw [if_neg (by omega)], trivial, List.nil_sublist _⟩
      · skip
        refine TC.skip ?_
        refine TQ.thenC ?_
        refine TC.seq ?_
        refine TC.region ?_
        refine TL.pure (PV.assign rfl) rfl (by decide) ?_
        refine TL.nil ?_
        refine TQ.thenC ?_
        refine TC.ret ?_
        refine TQ.retE1 rfl rfl ?_
        first | exact ⟨(), by rw [cmI, if_pos h1], trivial, List.nil_sublist _⟩ | exact ⟨(), by have hcu : ¬ cutB n s t xs = true := fun h9 => h2 (if_pos h9); rw [cmI, if_neg h1, if_neg hcu, if_neg hcu], trivial, List.nil_sublist _⟩ | exact ⟨(), by have hcu : cutB n s t xs = true := Decidable.byContradiction fun h9 => h2 (by rw [if_neg h9]; decide); rw [if_pos hcu] at h3; rw [cmI, if_neg h1, if_pos hcu]; first | rw [if_pos (by omega)] | rw [if_neg (by omega)], trivial, List.nil_sublist _⟩

end Go.Proofs.Ytnlbngbbddhgeaa

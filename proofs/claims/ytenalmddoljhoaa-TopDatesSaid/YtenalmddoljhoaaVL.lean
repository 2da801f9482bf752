/- Dates are lowered to keep the bounds: contracts. -/
import Derived.Test.YtenalmddoljhoaaVG
import Derived.Test.YtenalmddoljhoaaVB
set_option linter.unusedVariables false
set_option linter.unusedSimpArgs false
namespace Go.Proofs.Ytenalmddoljhoaa
open Go.Sx Go.RowKit

abbrev arrI (b : Nat) (xs : List Int) : Nat × Obj := (b, .cells (intsA xs) 3 (0, 0))
structure LSt where
  ds : List Int
  by_ : List Int
  last : Int
def lstep (rs : List Bd) (s : LSt) (k : Nat) : LSt :=
  if s.ds.getD (rs.getD k default).a.toNat 0 + (rs.getD k default).m < s.ds.getD (rs.getD k default).b.toNat 0 then
    ⟨s.ds.set (rs.getD k default).b.toNat (s.ds.getD (rs.getD k default).a.toNat 0 + (rs.getD k default).m), s.by_.set (rs.getD k default).b.toNat (k : Int), (rs.getD k default).b⟩
  else s
def lpass (rs : List Bd) (s : LSt) : Nat → LSt
  | 0 => ⟨s.ds, s.by_, -1⟩
  | k + 1 => lstep rs (lpass rs s k) k
def lowN (N : Nat) (rs : List Bd) : Nat → LSt
  | 0 => ⟨List.replicate N 0, List.replicate N 0, 0⟩
  | i + 1 => lpass rs (lowN N rs i) rs.length
structure LOk (N : Nat) (B : Int) (s : LSt) : Prop where
  dl : s.ds.length = N
  bl : s.by_.length = N
  bd : ∀ p, -B ≤ s.ds.getD p 0 ∧ s.ds.getD p 0 ≤ 0
theorem getD_set (xs : List Int) (j : Nat) (v : Int) (p : Nat) : (xs.set j v).getD p 0 = if j = p ∧ j < xs.length then v else xs.getD p 0 := by
  by_cases h : j = p
  · subst h
    by_cases h2 : j < xs.length
    · rw [if_pos ⟨rfl, h2⟩]; simp [List.getD, h2]
    · rw [if_neg (fun e => h2 e.2)]; simp [List.getD, h2]
  · rw [if_neg (fun e => h e.1)]; simp [List.getD, List.getElem?_set, h]
theorem LOk.mono {N : Nat} {B C : Int} {s : LSt} (h : LOk N B s) (hBC : B ≤ C) : LOk N C s := ⟨h.dl, h.bl, fun p => by have := h.bd p; omega⟩
theorem LOk.step {N : Nat} {B : Int} {s : LSt} {rs : List Bd} {n : Int} (hv : Valid n rs) (h : LOk N B s) {k : Nat} (hk : k < rs.length) : LOk N (B + 10000) (lstep rs s k) := by
  have hat := hv.at hk
  unfold lstep
  split
  · rename_i hlt
    refine ⟨by simp only [List.length_set]; exact h.dl, by simp only [List.length_set]; exact h.bl, fun p => ?_⟩
    simp only [getD_set]
    have h1 := h.bd (rs.getD k default).a.toNat
    have h2 := h.bd (rs.getD k default).b.toNat
    have h3 := h.bd p
    split <;> omega
  · exact h.mono (by omega)
theorem LOk.pass {N : Nat} {B : Int} {s : LSt} {rs : List Bd} {n : Int} (hv : Valid n rs) (h : LOk N B s) : ∀ k, k ≤ rs.length → LOk N (B + 10000 * k) (lpass rs s k)
  | 0, _ => ⟨h.dl, h.bl, fun p => by have := h.bd p; simp only [lpass]; omega⟩
  | k + 1, hk => ((LOk.pass hv h k (by omega)).step hv (by omega)).mono (by omega)
theorem LOk.low {N : Nat} {rs : List Bd} {n : Int} (hv : Valid n rs) : ∀ i : Nat, LOk N (200000 * (i : Int)) (lowN N rs i)
  | 0 => ⟨List.length_replicate, List.length_replicate, fun p => by
      have : (List.replicate N (0 : Int)).getD p 0 = 0 := by by_cases h : p < N <;> simp [List.getD, List.getElem?_replicate, h]
      simp only [lowN, this]; omega⟩
  | i + 1 => by
    have hl := hv.len
    exact ((LOk.low hv i).pass hv rs.length (Nat.le_refl _)).mono (by omega)
theorem lpass_zero (rs : List Bd) (s : LSt) : lpass rs s 0 = ⟨s.ds, s.by_, -1⟩ := rfl
theorem lstep_yes {rs : List Bd} {s : LSt} {k : Nat} (h : s.ds.getD (rs.getD k default).a.toNat 0 + (rs.getD k default).m < s.ds.getD (rs.getD k default).b.toNat 0) :
    lstep rs s k = ⟨s.ds.set (rs.getD k default).b.toNat (s.ds.getD (rs.getD k default).a.toNat 0 + (rs.getD k default).m), s.by_.set (rs.getD k default).b.toNat (k : Int), (rs.getD k default).b⟩ := if_pos h
theorem lstep_no {rs : List Bd} {s : LSt} {k : Nat} (h : ¬ s.ds.getD (rs.getD k default).a.toNat 0 + (rs.getD k default).m < s.ds.getD (rs.getD k default).b.toNat 0) : lstep rs s k = s := if_neg h
def dOk (n : Int) (rs : List Bd) : Bool := decide (validateI n rs = 0 ∧ (lowN n.toNat rs n.toNat).last = -1)
def dSl (n : Int) (rs : List Bd) (b : Nat) : Value := if dOk n rs = true then .slice (some ⟨b, 0, none⟩) n.toNat n.toNat else .slice none 0 0
def dBl (n : Int) (rs : List Bd) (b : Nat) : Heap := if dOk n rs = true then [arrI b (lowN n.toNat rs n.toNat).ds] else []


set_option maxRecDepth 100000 in
set_option maxHeartbeats 4000000 in
theorem lower_ok (w0 : World) (n : Int) (p : Option Addr) (cap : Nat) (rs : List Bd) (hr : BdsAt w0 p rs) (hv : Valid n rs) :
    Calls Try.prog 65 #[cv n p rs.length cap] w0 (Post (X := Nat × Nat) (fun x => .tuple #[.slice (some ⟨x.1, 0, none⟩) n.toNat n.toNat, .slice (some ⟨x.2, 0, none⟩) n.toNat n.toNat, .int .i64 (lowN n.toNat rs n.toNat).last]) (fun _ => True) (fun x => [arrI x.2 (lowN n.toNat rs n.toNat).by_, arrI x.1 (lowN n.toNat rs n.toNat).ds]) w0) := by
  have hp := hv.pts
  have hl := hv.len
  obtain ⟨N, rfl⟩ : ∃ N : Nat, n = N := ⟨n.toNat, by omega⟩
  simp only [Int.toNat_natCast]
  refine calls Try.func65 rfl (n := 58) rfl (by simp) ?_
  refine TC.seq ?_
  refine TC.region ?_
  refine TL.box rfl rfl (by decide) (fun b0 hb0 => ?_)
  refine TL.pure (PV.assign rfl) rfl (by decide) ?_
  refine TL.pure (PV.assign rfl) rfl (by decide) ?_
  refine TL.pure (PV.assign rfl) rfl (by decide) ?_
  refine TL.nil ?_
  refine TQ.thenC ?_
  refine TC.seqK [1] (X := Nat × Nat) (fun z => True) (fun z => [(2, .slice (some ⟨z.1, 0, none⟩) N N), (3, .slice (some ⟨z.2, 0, none⟩) N N), (4, .int .i64 0)]) (fun z => [arrI z.2 (List.replicate N 0), arrI z.1 (List.replicate N 0), (b0, .cells #[.int .i64 N, .slice p rs.length cap] 24 (0, 0))]) ?_ ?_
  · skip
    refine TC.mix [true, true, false, true, true, false, false, false] _ 4 Tb.mixed rfl (by kernel_rfl) (by kernel_rfl) (by kernel_rfl) (by kernel_rfl) (List.Sublist.refl _) ?_
    refine TB.op (SOK.pure (PV.fieldAddr rfl Tb.fo_24_0) rfl) (by decide) ?_
    refine TB.op (SOK.pure (PV.load rfl Tb.one_3 (by repeat (first | exact List.Mem.head _ | refine List.Mem.tail _ ?_ | refine List.mem_append_right _ ?_)) rfl) rfl) (by decide) ?_
    refine TB.no ?_
    refine TB.op (SOK.pure (PV.fieldAddr rfl Tb.fo_24_0) rfl) (by decide) ?_
    refine TB.op (SOK.pure (PV.load rfl Tb.one_3 (by repeat (first | exact List.Mem.head _ | refine List.Mem.tail _ ?_ | refine List.mem_append_right _ ?_)) rfl) rfl) (by decide) ?_
    refine TB.no ?_
    refine TB.no ?_
    refine TB.no ?_
    refine TB.fin ?_
    refine TX.step [2, 5] (by kernel_rfl) (by decide) ⟨⟨_, rfl, ?_⟩, ⟨_, rfl, ?_⟩, trivial⟩
    · skip
      refine TL.makeI rfl rfl Tb.sl_25 Tb.zi_3 rfl (by omega) (by omega) rfl (by decide) (fun b1 hb1 => ?_)
      refine TL.nil ?_
      refine TX.next (.inl (by repeat (first | exact List.Sublist.slnil | exact List.nil_sublist _ | exact List.Sublist.refl _ | refine List.Sublist.cons_cons _ ?_ | refine List.Sublist.cons _ ?_ | refine List.Sublist.trans ?_ (List.sublist_append_right _ _)))) ?_
      refine TX.step [5, 6] (by kernel_rfl) (by decide) ⟨⟨_, rfl, ?_⟩, ⟨_, rfl, ?_⟩, trivial⟩
      · skip
        refine TL.makeI rfl rfl Tb.sl_25 Tb.zi_3 rfl (by omega) (by omega) rfl (by decide) (fun b2 hb2 => ?_)
        refine TL.nil ?_
        refine TX.next (.inl (by repeat (first | exact List.Sublist.slnil | exact List.nil_sublist _ | exact List.Sublist.refl _ | refine List.Sublist.cons_cons _ ?_ | refine List.Sublist.cons _ ?_ | refine List.Sublist.trans ?_ (List.sublist_append_right _ _)))) ?_
        refine TX.step [6] (by kernel_rfl) (by decide) ⟨⟨_, rfl, ?_⟩, trivial⟩
        refine TL.pure (PV.assign rfl) rfl (by decide) ?_
        refine TL.nil ?_
        refine TX.next (.inl (by repeat (first | exact List.Sublist.slnil | exact List.nil_sublist _ | exact List.Sublist.refl _ | refine List.Sublist.cons_cons _ ?_ | refine List.Sublist.cons _ ?_ | refine List.Sublist.trans ?_ (List.sublist_append_right _ _)))) ?_
        refine TX.step [7] (by kernel_rfl) (by decide) ⟨⟨_, rfl, ?_⟩, trivial⟩
        refine TL.pure (PV.assign rfl) rfl (by decide) ?_
        refine TL.nil ?_
        refine TX.next (.inr (by kernel_rfl)) ?_
        refine TX.done (by kernel_rfl) ?_
        refine TQ.thenN ?_
        first | (refine TQ.midK (_, _) (by repeat (first | exact True.intro | refine And.intro rfl ?_)) (by repeat (first | exact True.intro | refine And.intro rfl ?_)) ?_ trivial; (repeat (first | exact List.Sublist.slnil | exact List.nil_sublist _ | exact List.Sublist.refl _ | refine List.Sublist.cons_cons _ ?_ | refine List.Sublist.cons _ ?_ | refine List.Sublist.trans ?_ (List.sublist_append_right _ _))); done) | (refine TQ.perm (G' := _ :: _ :: _) (List.Perm.swap _ _ _) ?_; refine TQ.midK (_, _) (by repeat (first | exact True.intro | refine And.intro rfl ?_)) (by repeat (first | exact True.intro | refine And.intro rfl ?_)) ?_ trivial; (repeat (first | exact List.Sublist.slnil | exact List.nil_sublist _ | exact List.Sublist.refl _ | refine List.Sublist.cons_cons _ ?_ | refine List.Sublist.cons _ ?_ | refine List.Sublist.trans ?_ (List.sublist_append_right _ _))); done)
      · skip
        refine TL.pure (PV.assign rfl) rfl (by decide) ?_
        refine TL.nil ?_
        refine TX.next (.inl (by repeat (first | exact List.Sublist.slnil | exact List.nil_sublist _ | exact List.Sublist.refl _ | refine List.Sublist.cons_cons _ ?_ | refine List.Sublist.cons _ ?_ | refine List.Sublist.trans ?_ (List.sublist_append_right _ _)))) ?_
        refine TX.step [5] (by kernel_rfl) (by decide) ⟨⟨_, rfl, ?_⟩, trivial⟩
        refine TL.makeI rfl rfl Tb.sl_25 Tb.zi_3 rfl (by omega) (by omega) rfl (by decide) (fun b3 hb3 => ?_)
        refine TL.nil ?_
        refine TX.next (.inl (by repeat (first | exact List.Sublist.slnil | exact List.nil_sublist _ | exact List.Sublist.refl _ | refine List.Sublist.cons_cons _ ?_ | refine List.Sublist.cons _ ?_ | refine List.Sublist.trans ?_ (List.sublist_append_right _ _)))) ?_
        refine TX.step [7] (by kernel_rfl) (by decide) ⟨⟨_, rfl, ?_⟩, trivial⟩
        refine TL.pure (PV.assign rfl) rfl (by decide) ?_
        refine TL.nil ?_
        refine TX.next (.inr (by kernel_rfl)) ?_
        refine TX.done (by kernel_rfl) ?_
        refine TQ.thenN ?_
        first | (refine TQ.midK (_, _) (by repeat (first | exact True.intro | refine And.intro rfl ?_)) (by repeat (first | exact True.intro | refine And.intro rfl ?_)) ?_ trivial; (repeat (first | exact List.Sublist.slnil | exact List.nil_sublist _ | exact List.Sublist.refl _ | refine List.Sublist.cons_cons _ ?_ | refine List.Sublist.cons _ ?_ | refine List.Sublist.trans ?_ (List.sublist_append_right _ _))); done) | (refine TQ.perm (G' := _ :: _ :: _) (List.Perm.swap _ _ _) ?_; refine TQ.midK (_, _) (by repeat (first | exact True.intro | refine And.intro rfl ?_)) (by repeat (first | exact True.intro | refine And.intro rfl ?_)) ?_ trivial; (repeat (first | exact List.Sublist.slnil | exact List.nil_sublist _ | exact List.Sublist.refl _ | refine List.Sublist.cons_cons _ ?_ | refine List.Sublist.cons _ ?_ | refine List.Sublist.trans ?_ (List.sublist_append_right _ _))); done)
    · skip
      refine TL.makeI rfl rfl Tb.sl_25 Tb.zi_3 rfl (by omega) (by omega) rfl (by decide) (fun b4 hb4 => ?_)
      refine TL.nil ?_
      refine TX.next (.inl (by repeat (first | exact List.Sublist.slnil | exact List.nil_sublist _ | exact List.Sublist.refl _ | refine List.Sublist.cons_cons _ ?_ | refine List.Sublist.cons _ ?_ | refine List.Sublist.trans ?_ (List.sublist_append_right _ _)))) ?_
      refine TX.step [2] (by kernel_rfl) (by decide) ⟨⟨_, rfl, ?_⟩, trivial⟩
      refine TL.makeI rfl rfl Tb.sl_25 Tb.zi_3 rfl (by omega) (by omega) rfl (by decide) (fun b5 hb5 => ?_)
      refine TL.nil ?_
      refine TX.next (.inl (by repeat (first | exact List.Sublist.slnil | exact List.nil_sublist _ | exact List.Sublist.refl _ | refine List.Sublist.cons_cons _ ?_ | refine List.Sublist.cons _ ?_ | refine List.Sublist.trans ?_ (List.sublist_append_right _ _)))) ?_
      refine TX.step [6] (by kernel_rfl) (by decide) ⟨⟨_, rfl, ?_⟩, trivial⟩
      refine TL.pure (PV.assign rfl) rfl (by decide) ?_
      refine TL.nil ?_
      refine TX.next (.inl (by repeat (first | exact List.Sublist.slnil | exact List.nil_sublist _ | exact List.Sublist.refl _ | refine List.Sublist.cons_cons _ ?_ | refine List.Sublist.cons _ ?_ | refine List.Sublist.trans ?_ (List.sublist_append_right _ _)))) ?_
      refine TX.step [7] (by kernel_rfl) (by decide) ⟨⟨_, rfl, ?_⟩, trivial⟩
      refine TL.pure (PV.assign rfl) rfl (by decide) ?_
      refine TL.nil ?_
      refine TX.next (.inr (by kernel_rfl)) ?_
      refine TX.done (by kernel_rfl) ?_
      refine TQ.thenN ?_
      first | (refine TQ.midK (_, _) (by repeat (first | exact True.intro | refine And.intro rfl ?_)) (by repeat (first | exact True.intro | refine And.intro rfl ?_)) ?_ trivial; (repeat (first | exact List.Sublist.slnil | exact List.nil_sublist _ | exact List.Sublist.refl _ | refine List.Sublist.cons_cons _ ?_ | refine List.Sublist.cons _ ?_ | refine List.Sublist.trans ?_ (List.sublist_append_right _ _))); done) | (refine TQ.perm (G' := _ :: _ :: _) (List.Perm.swap _ _ _) ?_; refine TQ.midK (_, _) (by repeat (first | exact True.intro | refine And.intro rfl ?_)) (by repeat (first | exact True.intro | refine And.intro rfl ?_)) ?_ trivial; (repeat (first | exact List.Sublist.slnil | exact List.nil_sublist _ | exact List.Sublist.refl _ | refine List.Sublist.cons_cons _ ?_ | refine List.Sublist.cons _ ?_ | refine List.Sublist.trans ?_ (List.sublist_append_right _ _))); done)
  · skip
    intro z _
    refine TC.seq ?_
    refine TC.seq ?_
    refine TC.region ?_
    refine TL.pure (PV.fieldAddr rfl Tb.fo_24_0) rfl (by decide) ?_
    refine TL.pure (PV.load rfl Tb.one_3 (by repeat (first | exact List.Mem.head _ | refine List.Mem.tail _ ?_ | refine List.mem_append_right _ ?_)) rfl) rfl (by decide) ?_
    refine TL.pure (PV.move rfl) rfl (by decide) ?_
    refine TL.nil ?_
    refine TQ.thenC ?_
    refine TC.block ?_
    refine TC.loopK [1, 2, 3, 15] (X := Nat) (fun i => i ≤ N) (fun i => [(16, .int .i64 i), (4, .int .i64 (lowN N rs i).last)]) (fun i => [arrI z.2 (lowN N rs i).by_, arrI z.1 (lowN N rs i).ds, (b0, .cells #[.int .i64 N, .slice p rs.length cap] 24 (0, 0))]) (fun i => N - i) 0 (Nat.zero_le _) (by repeat (first | exact True.intro | refine And.intro rfl ?_)) (by repeat (first | exact List.Sublist.slnil | exact List.nil_sublist _ | exact List.Sublist.refl _ | refine List.Sublist.cons_cons _ ?_ | refine List.Sublist.cons _ ?_ | refine List.Sublist.trans ?_ (List.sublist_append_right _ _))) ?_
    intro i hi
    refine TC.seq ?_
    refine TC.region ?_
    refine TL.pure (PV.lss rfl rfl) rfl (by decide) ?_
    refine TL.nil ?_
    refine TQ.thenC ?_
    refine TC.seq ?_
    first | refine TC.condD rfl (fun hlt => ?_) (fun hlt => ?_) | refine TC.cond rfl (fun hlt => ?_) (fun hlt => ?_)
    · skip
      refine TC.skip ?_
      refine TQ.thenC ?_
      refine TC.seq ?_
      refine TC.block ?_
      refine TC.seq ?_
      refine TC.region ?_
      refine TL.pure (PV.assign rfl) rfl (by decide) ?_
      refine TL.nil ?_
      refine TQ.thenC ?_
      refine TC.seq ?_
      refine TC.region ?_
      refine TL.pure (PV.fieldAddr rfl Tb.fo_24_1) rfl (by decide) ?_
      refine TL.pure (PV.load rfl Tb.one_22 (by repeat (first | exact List.Mem.head _ | refine List.Mem.tail _ ?_ | refine List.mem_append_right _ ?_)) rfl) rfl (by decide) ?_
      refine TL.pure (PV.len rfl Tb.sl_22) rfl (by decide) ?_
      refine TL.pure (PV.move rfl) rfl (by decide) ?_
      refine TL.nil ?_
      refine TQ.thenC ?_
      refine TC.block ?_
      refine TC.loopK [1, 2, 3, 15, 16, 19, 20] (X := Nat × Unit) (fun k => k.1 ≤ rs.length) (fun k => [(21, .int .i64 k.1), (4, .int .i64 (lpass rs (lowN N rs i) k.1).last)]) (fun k => [arrI z.2 (lpass rs (lowN N rs i) k.1).by_, arrI z.1 (lpass rs (lowN N rs i) k.1).ds, (b0, .cells #[.int .i64 N, .slice p rs.length cap] 24 (0, 0))]) (fun k => rs.length - k.1) (0, ()) (Nat.zero_le _) (by repeat (first | exact True.intro | refine And.intro rfl ?_)) (by repeat (first | exact List.Sublist.slnil | exact List.nil_sublist _ | exact List.Sublist.refl _ | refine List.Sublist.cons_cons _ ?_ | refine List.Sublist.cons _ ?_ | refine List.Sublist.trans ?_ (List.sublist_append_right _ _))) ?_
      intro k hk
      refine TC.seq ?_
      refine TC.region ?_
      refine TL.pure (PV.lss rfl rfl) rfl (by decide) ?_
      refine TL.nil ?_
      refine TQ.thenC ?_
      refine TC.seq ?_
      first | refine TC.condD rfl (fun hlt2 => ?_) (fun hlt2 => ?_) | refine TC.cond rfl (fun hlt2 => ?_) (fun hlt2 => ?_)
      · skip
        refine TC.skip ?_
        refine TQ.thenC ?_
        refine TC.seq ?_
        refine TC.block ?_
        refine TC.seq ?_
        have hkl : k.1 < rs.length := by omega
        obtain ⟨q, hqp, hqa⟩ := hr k.1 hkl
        have hat := hv.at hkl
        have hok := ((LOk.low hv i).pass (N := N) hv k.1 (by omega))
        have hdl := hok.dl
        have hbl := hok.bl
        have z1 := hok.bd (rs.getD k.1 default).a.toNat
        have z2 := hok.bd (rs.getD k.1 default).b.toNat
        refine TC.region ?_
        refine TL.pure (PV.move rfl) rfl (by decide) ?_
        refine TL.pure (PV.indexA rfl hqp rfl Tb.elm_22 rfl (by omega)) rfl (by decide) ?_
        refine TL.pure (PV.loadAggA rfl Tb.agg_42 rfl hqa) rfl (by decide) ?_
        refine TL.alloc Tb.zero_42 rfl (by decide) (fun b6 hb6 => ?_)
        refine TL.pure (PV.assign rfl) rfl (by decide) ?_
        refine TL.storeAgg rfl rfl Tb.cells_42 (by repeat (first | exact Upd.head _ | apply Upd.tail | apply Upd.appR)) rfl rfl rfl rfl rfl ?_
        refine TL.nil ?_
        refine TQ.thenC ?_
        refine TC.seq ?_
        refine TC.any Tb.mixed rfl rfl ?_
        refine TA.op (OpOK.pure (PV.move rfl) rfl (by decide)) (by decide) ?_
        refine TA.op (OpOK.pure (PV.fieldAddr rfl Tb.fo_42_0) rfl (by decide)) (by decide) ?_
        refine TA.op (OpOK.pure (PV.load rfl Tb.one_3 (by repeat (first | exact List.Mem.head _ | refine List.Mem.tail _ ?_ | refine List.mem_append_right _ ?_)) rfl) rfl (by decide)) (by decide) ?_
        refine TA.op (OpOK.pure (PV.index1 (j := (rs.getD k.1 default).a.toNat) rfl rfl Tb.elm_25 (Int.toNat_of_nonneg (by omega)).symm (by omega)) rfl (by decide)) (by decide) ?_
        refine TA.op (OpOK.pure (PV.loadI rfl Tb.one_3 (by repeat (first | exact List.Mem.head _ | refine List.Mem.tail _ ?_ | refine List.mem_append_right _ ?_)) (by omega)) rfl (by decide)) (by decide) ?_
        refine TA.op (OpOK.pure (PV.fieldAddr rfl Tb.fo_42_2) rfl (by decide)) (by decide) ?_
        refine TA.op (OpOK.pure (PV.load rfl Tb.one_3 (by repeat (first | exact List.Mem.head _ | refine List.Mem.tail _ ?_ | refine List.mem_append_right _ ?_)) rfl) rfl (by decide)) (by decide) ?_
        refine TA.op (OpOK.pure (PV.add rfl rfl (by omega)) rfl (by decide)) (by decide) ?_
        refine TA.op (OpOK.pure (PV.assign rfl) rfl (by decide)) (by decide) ?_
        show TQ _ _ _ _ _
        refine TQ.thenC ?_
        refine TC.seq ?_
        refine TC.region ?_
        refine TL.pure (PV.move rfl) rfl (by decide) ?_
        refine TL.pure (PV.move rfl) rfl (by decide) ?_
        refine TL.pure (PV.fieldAddr rfl Tb.fo_42_1) rfl (by decide) ?_
        refine TL.pure (PV.load rfl Tb.one_3 (by repeat (first | exact List.Mem.head _ | refine List.Mem.tail _ ?_ | refine List.mem_append_right _ ?_)) rfl) rfl (by decide) ?_
        refine TL.pure (PV.index1 (j := (rs.getD k.1 default).b.toNat) rfl rfl Tb.elm_25 (Int.toNat_of_nonneg (by omega)).symm (by omega)) rfl (by decide) ?_
        refine TL.pure (PV.loadI rfl Tb.one_3 (by repeat (first | exact List.Mem.head _ | refine List.Mem.tail _ ?_ | refine List.mem_append_right _ ?_)) (by omega)) rfl (by decide) ?_
        refine TL.pure (PV.lss rfl rfl) rfl (by decide) ?_
        refine TL.nil ?_
        refine TQ.thenC ?_
        first | refine TC.condD rfl (fun hless => ?_) (fun hless => ?_) | refine TC.cond rfl (fun hless => ?_) (fun hless => ?_)
        · skip
          refine TC.mix [true, true, true, true, true, true, true, true, true, true, true, false, false, false, false] [(b6, .cells (rs.getD k.1 default).cells.toArray 42 (0, 0)), (b0, .cells #[.int .i64 N, .slice p rs.length cap] 24 (0, 0))] 4 Tb.mixed rfl (by kernel_rfl) (by kernel_rfl) (by kernel_rfl) (by kernel_rfl) (by repeat (first | exact List.Sublist.slnil | exact List.nil_sublist _ | exact List.Sublist.refl _ | refine List.Sublist.cons_cons _ ?_ | refine List.Sublist.cons _ ?_ | refine List.Sublist.trans ?_ (List.sublist_append_right _ _))) ?_
          refine TB.op (SOK.pure (PV.move rfl) rfl) (by decide) ?_
          refine TB.op (SOK.pure (PV.fieldAddr rfl Tb.fo_42_1) rfl) (by decide) ?_
          refine TB.op (SOK.pure (PV.load rfl Tb.one_3 (by repeat (first | exact List.Mem.head _ | refine List.Mem.tail _ ?_ | refine List.mem_append_right _ ?_)) rfl) rfl) (by decide) ?_
          refine TB.op (SOK.pure (PV.move rfl) rfl) (by decide) ?_
          refine TB.op (SOK.pure (PV.fieldAddr rfl Tb.fo_42_1) rfl) (by decide) ?_
          refine TB.op (SOK.pure (PV.load rfl Tb.one_3 (by repeat (first | exact List.Mem.head _ | refine List.Mem.tail _ ?_ | refine List.mem_append_right _ ?_)) rfl) rfl) (by decide) ?_
          refine TB.op (SOK.pure (PV.move rfl) rfl) (by decide) ?_
          refine TB.op (SOK.pure (PV.move rfl) rfl) (by decide) ?_
          refine TB.op (SOK.pure (PV.fieldAddr rfl Tb.fo_42_1) rfl) (by decide) ?_
          refine TB.op (SOK.pure (PV.load rfl Tb.one_3 (by repeat (first | exact List.Mem.head _ | refine List.Mem.tail _ ?_ | refine List.mem_append_right _ ?_)) rfl) rfl) (by decide) ?_
          refine TB.op (SOK.pure (PV.index1 (j := (rs.getD k.1 default).b.toNat) rfl rfl Tb.elm_25 (Int.toNat_of_nonneg (by omega)).symm (by omega)) rfl) (by decide) ?_
          refine TB.no ?_
          refine TB.no ?_
          refine TB.no ?_
          refine TB.no ?_
          refine TB.fin ?_
          refine TX.step [11] (by kernel_rfl) (by decide) ⟨⟨_, rfl, ?_⟩, trivial⟩
          refine TL.storeI rfl rfl Tb.cells_3 (by repeat (first | exact Upd.head _ | apply Upd.tail | apply Upd.appR)) (by omega) rfl rfl ?_
          refine TL.nil ?_
          refine TX.next (.inl (by repeat (first | exact List.Sublist.slnil | exact List.nil_sublist _ | exact List.Sublist.refl _ | refine List.Sublist.cons_cons _ ?_ | refine List.Sublist.cons _ ?_ | refine List.Sublist.trans ?_ (List.sublist_append_right _ _)))) ?_
          refine TX.step [12] (by kernel_rfl) (by decide) ⟨⟨_, rfl, ?_⟩, trivial⟩
          refine TL.pure (PV.index1 (j := (rs.getD k.1 default).b.toNat) rfl rfl Tb.elm_25 (Int.toNat_of_nonneg (by omega)).symm (by omega)) rfl (by decide) ?_
          refine TL.nil ?_
          refine TX.next (.inl (by repeat (first | exact List.Sublist.slnil | exact List.nil_sublist _ | exact List.Sublist.refl _ | refine List.Sublist.cons_cons _ ?_ | refine List.Sublist.cons _ ?_ | refine List.Sublist.trans ?_ (List.sublist_append_right _ _)))) ?_
          refine TX.step [13] (by kernel_rfl) (by decide) ⟨⟨_, rfl, ?_⟩, trivial⟩
          refine TL.storeI rfl rfl Tb.cells_3 (by repeat (first | exact Upd.head _ | apply Upd.tail | apply Upd.appR)) (by omega) rfl rfl ?_
          refine TL.nil ?_
          refine TX.next (.inl (by repeat (first | exact List.Sublist.slnil | exact List.nil_sublist _ | exact List.Sublist.refl _ | refine List.Sublist.cons_cons _ ?_ | refine List.Sublist.cons _ ?_ | refine List.Sublist.trans ?_ (List.sublist_append_right _ _)))) ?_
          refine TX.step [14] (by kernel_rfl) (by decide) ⟨⟨_, rfl, ?_⟩, trivial⟩
          refine TL.pure (PV.assign rfl) rfl (by decide) ?_
          refine TL.nil ?_
          refine TX.next (.inr (by kernel_rfl)) ?_
          refine TX.done (by kernel_rfl) ?_
          refine TQ.blkN ?_
          refine TQ.thenC ?_
          refine TC.region ?_
          refine TL.pure (PV.add rfl rfl (by omega)) rfl (by decide) ?_
          refine TL.pure (PV.move rfl) rfl (by decide) ?_
          refine TL.nil ?_
          refine TQ.thenN ?_
          refine TQ.backK (k.1 + 1, ()) (by refine And.intro rfl (And.intro ?_ True.intro); first | (rw [show lpass rs (lowN N rs i) (k.1 + 1) = lstep rs (lpass rs (lowN N rs i) k.1) k.1 from rfl, lstep_yes hless]; rfl) | (rw [show lpass rs (lowN N rs i) (k.1 + 1) = lstep rs (lpass rs (lowN N rs i) k.1) k.1 from rfl, lstep_no hless]; rfl)) (by repeat (first | exact True.intro | refine And.intro rfl ?_)) (by first | (rw [show lpass rs (lowN N rs i) (k.1 + 1) = lstep rs (lpass rs (lowN N rs i) k.1) k.1 from rfl, lstep_yes hless]; exact List.Sublist.cons _ (List.Sublist.refl _)) | (rw [show lpass rs (lowN N rs i) (k.1 + 1) = lstep rs (lpass rs (lowN N rs i) k.1) k.1 from rfl, lstep_no hless]; exact List.Sublist.cons _ (List.Sublist.refl _))) (by simp only; omega) (by simp only; omega)
        · skip
          refine TC.skip ?_
          refine TQ.blkN ?_
          refine TQ.thenC ?_
          refine TC.region ?_
          refine TL.pure (PV.add rfl rfl (by omega)) rfl (by decide) ?_
          refine TL.pure (PV.move rfl) rfl (by decide) ?_
          refine TL.nil ?_
          refine TQ.thenN ?_
          refine TQ.backK (k.1 + 1, ()) (by refine And.intro rfl (And.intro ?_ True.intro); first | (rw [show lpass rs (lowN N rs i) (k.1 + 1) = lstep rs (lpass rs (lowN N rs i) k.1) k.1 from rfl, lstep_yes hless]; rfl) | (rw [show lpass rs (lowN N rs i) (k.1 + 1) = lstep rs (lpass rs (lowN N rs i) k.1) k.1 from rfl, lstep_no hless]; rfl)) (by repeat (first | exact True.intro | refine And.intro rfl ?_)) (by first | (rw [show lpass rs (lowN N rs i) (k.1 + 1) = lstep rs (lpass rs (lowN N rs i) k.1) k.1 from rfl, lstep_yes hless]; exact List.Sublist.cons _ (List.Sublist.refl _)) | (rw [show lpass rs (lowN N rs i) (k.1 + 1) = lstep rs (lpass rs (lowN N rs i) k.1) k.1 from rfl, lstep_no hless]; exact List.Sublist.cons _ (List.Sublist.refl _))) (by simp only; omega) (by simp only; omega)
      · skip
        refine TC.exit ?_
        refine TQ.thenE ?_
        refine TQ.thenE ?_
        refine TQ.blkS ?_
        refine TQ.blkN ?_
        refine TQ.thenC ?_
        have hlow : lowN N rs (i + 1) = lpass rs (lowN N rs i) k.1 := by rw [show k.1 = rs.length by omega]; rfl
        refine TC.region ?_
        refine TL.pure (PV.add rfl rfl (by omega)) rfl (by decide) ?_
        refine TL.pure (PV.move rfl) rfl (by decide) ?_
        refine TL.nil ?_
        refine TQ.thenN ?_
        refine TQ.backK (i + 1) (by rw [hlow]; repeat (first | exact True.intro | refine And.intro rfl ?_)) (by repeat (first | exact True.intro | refine And.intro rfl ?_)) (by rw [hlow]; repeat (first | exact List.Sublist.slnil | exact List.nil_sublist _ | exact List.Sublist.refl _ | refine List.Sublist.cons_cons _ ?_ | refine List.Sublist.cons _ ?_ | refine List.Sublist.trans ?_ (List.sublist_append_right _ _))) (by omega) (by omega)
    · skip
      refine TC.exit ?_
      refine TQ.thenE ?_
      refine TQ.thenE ?_
      refine TQ.blkS ?_
      refine TQ.thenC ?_
      refine TC.seq ?_
      refine TC.region ?_
      refine TL.pure (PV.move rfl) rfl (by decide) ?_
      refine TL.pure (PV.move rfl) rfl (by decide) ?_
      refine TL.pure (PV.move rfl) rfl (by decide) ?_
      refine TL.pure (PV.assign rfl) rfl (by decide) ?_
      refine TL.pure (PV.assign rfl) rfl (by decide) ?_
      refine TL.pure (PV.assign rfl) rfl (by decide) ?_
      refine TL.nil ?_
      refine TQ.thenC ?_
      refine TC.ret ?_
      refine TQ.retE3 rfl rfl rfl rfl ?_
      have hi9 : i = N := by omega
      subst hi9
      exact ⟨z, rfl, trivial, (by repeat (first | exact List.Sublist.slnil | exact List.nil_sublist _ | exact List.Sublist.refl _ | refine List.Sublist.cons_cons _ ?_ | refine List.Sublist.cons _ ?_ | refine List.Sublist.trans ?_ (List.sublist_append_right _ _)))⟩

set_option maxRecDepth 100000 in
set_option maxHeartbeats 1000000 in
theorem dates_ok (w0 : World) (n : Int) (p : Option Addr) (cap : Nat) (rs : List Bd) (hr : BdsAt w0 p rs) :
    Calls Try.prog 25 #[cv n p rs.length cap] w0 (Post (X := Nat) (fun b => .tuple #[dSl n rs b, .bool (dOk n rs), .int .i64 (validateI n rs)]) (fun _ => True) (fun b => dBl n rs b) w0) := by
  refine calls Try.func25 rfl (n := 23) rfl (by simp) ?_
  refine TC.seq ?_
  refine TC.region ?_
  refine TL.box rfl rfl (by decide) (fun b0 hb0 => ?_)
  refine TL.pure (PV.assign rfl) rfl (by decide) ?_
  refine TL.pure (PV.assign rfl) rfl (by decide) ?_
  refine TL.pure (PV.assign rfl) rfl (by decide) ?_
  refine TL.nil ?_
  refine TQ.thenC ?_
  refine TC.seq ?_
  refine TC.seq ?_
  refine TC.region ?_
  refine TL.pure (PV.loadBox rfl Tb.agg_24 (by repeat (first | exact List.Mem.head _ | refine List.Mem.tail _ ?_ | refine List.mem_append_right _ ?_)) rfl) rfl (by decide) ?_
  refine TL.call rfl Tb.gofn_21 (fun a w hs => validate_ok w _ _ _ _ (hr.new hs.new)) rfl (by decide) (fun _ _ => ?_)
  refine TL.pure (PV.assign rfl) rfl (by decide) ?_
  refine TL.nil ?_
  refine TQ.thenC ?_
  refine TC.seq ?_
  refine TC.region ?_
  refine TL.pure (PV.move rfl) rfl (by decide) ?_
  refine TL.pure (PV.neq rfl rfl) rfl (by decide) ?_
  refine TL.nil ?_
  refine TQ.thenC ?_
  first | refine TC.condD rfl (fun hne => ?_) (fun hne => ?_) | refine TC.cond rfl (fun hne => ?_) (fun hne => ?_)
  · skip
    refine TC.seq ?_
    refine TC.region ?_
    refine TL.pure (PV.move rfl) rfl (by decide) ?_
    refine TL.pure (PV.assign rfl) rfl (by decide) ?_
    refine TL.pure (PV.assign rfl) rfl (by decide) ?_
    refine TL.pure (PV.assign rfl) rfl (by decide) ?_
    refine TL.nil ?_
    refine TQ.thenC ?_
    refine TC.ret ?_
    refine TQ.thenR ?_
    refine TQ.retE3 rfl rfl rfl rfl ?_
    have hd : dOk n rs = false := decide_eq_false (fun h => hne h.1)
    exact ⟨0, by unfold dSl; rw [hd]; rfl, trivial, by unfold dBl; rw [hd]; exact List.nil_sublist _⟩
  · skip
    refine TC.skip ?_
    refine TQ.thenC ?_
    refine TC.seq ?_
    refine TC.region ?_
    refine TL.pure (PV.loadBox rfl Tb.agg_24 (by repeat (first | exact List.Mem.head _ | refine List.Mem.tail _ ?_ | refine List.mem_append_right _ ?_)) rfl) rfl (by decide) ?_
    refine TL.call rfl Tb.gofn_65 (fun a w hs => lower_ok w n p cap rs (hr.new hs.new) (vof hne)) rfl (by decide) (fun z _ => ?_)
    refine TL.pure (PV.move rfl) rfl (by decide) ?_
    refine TL.pure (PV.extract rfl rfl) rfl (by decide) ?_
    refine TL.pure (PV.extract rfl rfl) rfl (by decide) ?_
    refine TL.pure (PV.extract rfl rfl) rfl (by decide) ?_
    refine TL.pure (PV.assign rfl) rfl (by decide) ?_
    refine TL.pure (PV.assign rfl) rfl (by decide) ?_
    refine TL.pure (PV.assign rfl) rfl (by decide) ?_
    refine TL.nil ?_
    refine TQ.thenC ?_
    refine TC.seq ?_
    refine TC.seq ?_
    refine TC.region ?_
    refine TL.pure (PV.move rfl) rfl (by decide) ?_
    refine TL.pure (PV.neq rfl rfl) rfl (by decide) ?_
    refine TL.nil ?_
    refine TQ.thenC ?_
    first | refine TC.condD rfl (fun hcl => ?_) (fun hcl => ?_) | refine TC.cond rfl (fun hcl => ?_) (fun hcl => ?_)
    · skip
      refine TC.seq ?_
      refine TC.region ?_
      refine TL.pure (PV.assign rfl) rfl (by decide) ?_
      refine TL.pure (PV.assign rfl) rfl (by decide) ?_
      refine TL.pure (PV.assign rfl) rfl (by decide) ?_
      refine TL.nil ?_
      refine TQ.thenC ?_
      refine TC.ret ?_
      refine TQ.thenR ?_
      refine TQ.retE3 rfl rfl rfl rfl ?_
      have hd : dOk n rs = false := decide_eq_false (fun h => hcl h.2)
      have hz : validateI n rs = 0 := vof hne
      exact ⟨0, by unfold dSl; rw [hd, hz]; rfl, trivial, by unfold dBl; rw [hd]; exact List.nil_sublist _⟩
    · skip
      refine TC.skip ?_
      refine TQ.thenC ?_
      refine TC.seq ?_
      refine TC.region ?_
      refine TL.pure (PV.move rfl) rfl (by decide) ?_
      refine TL.pure (PV.assign rfl) rfl (by decide) ?_
      refine TL.pure (PV.assign rfl) rfl (by decide) ?_
      refine TL.pure (PV.assign rfl) rfl (by decide) ?_
      refine TL.nil ?_
      refine TQ.thenC ?_
      refine TC.ret ?_
      refine TQ.retE3 rfl rfl rfl rfl ?_
      have hz : validateI n rs = 0 := vof hne
      have hd : dOk n rs = true := decide_eq_true ⟨hz, Decidable.of_not_not hcl⟩
      exact ⟨z.1, by unfold dSl; rw [hd, hz]; rfl, trivial, by unfold dBl; rw [hd]; repeat (first | exact List.Sublist.slnil | exact List.nil_sublist _ | exact List.Sublist.refl _ | refine List.Sublist.cons_cons _ ?_ | refine List.Sublist.cons _ ?_ | refine List.Sublist.trans ?_ (List.sublist_append_right _ _))⟩

set_option maxRecDepth 100000 in
set_option maxHeartbeats 1000000 in
theorem isPossible_ok (w0 : World) (n : Int) (p : Option Addr) (cap : Nat) (rs : List Bd) (hr : BdsAt w0 p rs) :
    Calls Try.prog 19 #[cv n p rs.length cap] w0 (Post (X := Unit) (fun _ => .tuple #[.bool (dOk n rs), .int .i64 (validateI n rs)]) (fun _ => True) (fun _ => []) w0) := by
  refine calls Try.func19 rfl (n := 15) rfl (by simp) ?_
  refine TC.seq ?_
  refine TC.region ?_
  refine TL.box rfl rfl (by decide) (fun b0 hb0 => ?_)
  refine TL.pure (PV.assign rfl) rfl (by decide) ?_
  refine TL.pure (PV.assign rfl) rfl (by decide) ?_
  refine TL.nil ?_
  refine TQ.thenC ?_
  refine TC.seq ?_
  refine TC.region ?_
  refine TL.pure (PV.loadBox rfl Tb.agg_24 (by repeat (first | exact List.Mem.head _ | refine List.Mem.tail _ ?_ | refine List.mem_append_right _ ?_)) rfl) rfl (by decide) ?_
  refine TL.call rfl Tb.gofn_25 (fun a w hs => dates_ok w _ _ _ _ (hr.new hs.new)) rfl (by decide) (fun bb _ => ?_)
  refine TL.pure (PV.move rfl) rfl (by decide) ?_
  refine TL.pure (PV.extract rfl rfl) rfl (by decide) ?_
  refine TL.pure (PV.extract rfl rfl) rfl (by decide) ?_
  refine TL.pure (PV.extract rfl rfl) rfl (by decide) ?_
  refine TL.pure (PV.assign rfl) rfl (by decide) ?_
  refine TL.pure (PV.assign rfl) rfl (by decide) ?_
  refine TL.pure (PV.assign rfl) rfl (by decide) ?_
  refine TL.nil ?_
  refine TQ.thenC ?_
  refine TC.seq ?_
  refine TC.region ?_
  refine TL.pure (PV.move rfl) rfl (by decide) ?_
  refine TL.pure (PV.move rfl) rfl (by decide) ?_
  refine TL.pure (PV.assign rfl) rfl (by decide) ?_
  refine TL.pure (PV.assign rfl) rfl (by decide) ?_
  refine TL.nil ?_
  refine TQ.thenC ?_
  refine TC.ret ?_
  refine TQ.retE2 rfl rfl rfl ?_
  exact ⟨(), rfl, trivial, List.nil_sublist _⟩

end Go.Proofs.Ytenalmddoljhoaa

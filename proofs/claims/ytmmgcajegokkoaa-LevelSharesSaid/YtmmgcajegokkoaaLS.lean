/- Shares and bridges: the statement's own function. -/
import Derived.Test.YtmmgcajegokkoaaRC
import Derived.Test.YtmmgcajegokkoaaMr
import Derived.Test.YtmmgcajegokkoaaMn
import Derived.Test.YtmmgcajegokkoaaRs
import Derived.Test.YtmmgcajegokkoaaS1
import Derived.Test.YtmmgcajegokkoaaOq
namespace Go.Proofs.Ytmmgcajegokkoaa
open Go.Sx Go.RowKit

/-- A part of a list of readings in memory. -/
theorem RdsAt.cut {w : World} {p : Option Addr} {rs : List Rd} {cap : Nat} (h : RdsAt w p rs) (hc : rs.length ≤ cap) (l m : Nat) : RdsAt w (cutA p cap l 4) ((rs.drop l).take m) := fun j hj => by
  have hj2 : j < m ∧ j < rs.length - l := by simp at hj; omega
  obtain ⟨q, rfl, hq⟩ := h (l + j) (by omega)
  refine ⟨q.add (l * 4), ?_, fun i v hv => ?_⟩
  · unfold cutA
    rw [if_neg (by omega)]
    rfl
  · rw [addr_add_add, addr_add_add, show l * 4 + (j * 4 + i) = (l + j) * 4 + i by omega, ← addr_add_add]
    refine hq i v ?_
    have h1 : l + j < rs.length := by omega
    have e : ((rs.drop l).take m).getD j default = rs.getD (l + j) default := by simp [List.getD, hj2.1, h1]
    rw [e] at hv
    exact hv
theorem RdsAt.front {w : World} {p : Option Addr} {rs : List Rd} {cap : Nat} (h : RdsAt w p rs) (hc : rs.length ≤ cap) (k : Nat) : RdsAt w (cutA p cap 0 4) (rs.take k) := by
  have := h.cut hc 0 k
  rwa [List.drop_zero] at this
theorem RdsAt.back {w : World} {p : Option Addr} {rs : List Rd} {cap : Nat} (h : RdsAt w p rs) (hc : rs.length ≤ cap) (k : Nat) : RdsAt w (cutA p cap k 4) (rs.drop k) := by
  have := h.cut hc k rs.length
  rwa [List.take_of_length_le (by simp)] at this
theorem take_len {rs : List Rd} {k : Nat} (hk : k < rs.length) : (rs.take k).length = k := by simp; omega
theorem drop_len (rs : List Rd) (k : Nat) : (rs.drop k).length = rs.length - k := by simp
theorem del_go {h : HD} {rs : List Rd} {k : Nat} (ho : goS h ([] ++ rs.take k ++ rs.drop (k + 1))) : goS h (del rs k) := ho


set_option maxRecDepth 100000 in
set_option maxHeartbeats 1000000 in
theorem less_ok (w0 : World) (n : Int) (p : Option Addr) (cap : Nat) (rs : List Rd) (hr : RdsAt w0 p rs) (hc : rs.length ≤ cap) (hl : rs.length ≤ 1000) (k : Nat) (hk : k < rs.length) :
    Calls Try.prog 89 #[sv n p rs.length cap, .int .i64 k] w0 (Post (X := HD) (fun h => .agg #[.int .i64 n, gval h (rs.length - 1)]) (fun h => goS h (del rs k)) (fun h => gbS h (del rs k)) w0) := by
  have hA := hr.front hc k
  have hB := hr.back hc (k + 1)
  have hAl := take_len hk
  have hBl := drop_len rs (k + 1)
  refine calls Try.func89 rfl (n := 20) rfl (by simp) ?_
  refine TC.seq ?_
  refine TC.region ?_
  refine TL.box rfl rfl (by decide) (fun b0 hb0 => ?_)
  refine TL.alloc Tb.zero_24 rfl (by decide) (fun b1 hb1 => ?_)
  refine TL.nil ?_
  refine TQ.thenC ?_
  refine TC.seq ?_
  refine TC.mix [true, true, false, true, true, true, true, false, true, true, true, true, true, false, false, false] _ 5 Tb.mixed rfl (by kernel_rfl) (by kernel_rfl) (by kernel_rfl) (by kernel_rfl) (List.Sublist.refl _) ?_
  refine TB.op (SOK.pure (PV.fieldAddr rfl Tb.fo_24_0) rfl) (by decide) ?_
  refine TB.op (SOK.pure (PV.load rfl Tb.one_3 (by repeat (first | exact List.Mem.head _ | refine List.Mem.tail _ ?_ | refine List.mem_append_right _ ?_)) rfl) rfl) (by decide) ?_
  refine TB.no ?_
  refine TB.op (SOK.pure (PV.fieldAddr rfl Tb.fo_24_1) rfl) (by decide) ?_
  refine TB.op (SOK.pure (PV.load rfl Tb.one_22 (by repeat (first | exact List.Mem.head _ | refine List.Mem.tail _ ?_ | refine List.mem_append_right _ ?_)) rfl) rfl) (by decide) ?_
  refine TB.op (SOK.pure (PV.move rfl) rfl) (by decide) ?_
  refine TB.op (SOK.pure (PV.sliceH rfl rfl Tb.elm_22 rfl (by omega)) rfl) (by decide) ?_
  refine TB.no ?_
  refine TB.op (SOK.pure (PV.fieldAddr rfl Tb.fo_24_1) rfl) (by decide) ?_
  refine TB.op (SOK.pure (PV.load rfl Tb.one_22 (by repeat (first | exact List.Mem.head _ | refine List.Mem.tail _ ?_ | refine List.mem_append_right _ ?_)) rfl) rfl) (by decide) ?_
  refine TB.op (SOK.pure (PV.move rfl) rfl) (by decide) ?_
  refine TB.op (SOK.pure (PV.add rfl rfl (by omega)) rfl) (by decide) ?_
  refine TB.op (SOK.pure (PV.sliceL (l := k + 1) rfl rfl Tb.elm_22 (by omega) (by omega)) rfl) (by decide) ?_
  refine TB.no ?_
  refine TB.no ?_
  refine TB.no ?_
  refine TB.fin ?_
  refine TX.step [2] (by kernel_rfl) (by decide) ⟨⟨_, rfl, ?_⟩, trivial⟩
  refine TL.buildSlice0 Tb.sl_22 Tb.zi_61 rfl (by decide) (fun bE hbE => ?_)
  refine TL.nil ?_
  refine TX.next (.inl (by repeat (first | exact List.Sublist.slnil | exact List.nil_sublist _ | exact List.Sublist.refl _ | refine List.Sublist.cons_cons _ ?_ | refine List.Sublist.cons _ ?_ | refine List.Sublist.trans ?_ (List.sublist_append_right _ _)))) ?_
  refine TX.step [7] (by kernel_rfl) (by decide) ⟨⟨_, rfl, ?_⟩, trivial⟩
  refine TL.appendRS (h0 := some (bE, 0, [])) (ys := []) (K0 := 0) (K := k) rfl rfl rfl hAl (fun w' hN => hA.new hN) ⟨rfl, rfl, Nat.le_refl _⟩ (TakeH.here (some (bE, 0, [])) 61 [] _) (by omega) rfl (by decide) (fun h1 hh1 => ?_)
  refine TL.nil ?_
  refine TX.next (.inl (by repeat (first | exact List.Sublist.slnil | exact List.nil_sublist _ | exact List.Sublist.refl _ | refine List.Sublist.cons_cons _ ?_ | refine List.Sublist.cons _ ?_ | refine List.Sublist.trans ?_ (List.sublist_append_right _ _)))) ?_
  refine TX.step [13] (by kernel_rfl) (by decide) ⟨⟨_, rfl, ?_⟩, trivial⟩
  refine TL.appendRS (h0 := h1) (ys := [] ++ rs.take k) (K0 := 0 + k) rfl rfl (by rw [List.nil_append, hAl]; omega) hBl (fun w' hN => hB.new hN) hh1 (TakeH.here _ _ _ _) (by omega) rfl (by decide) (fun h2 hh2 => ?_)
  refine TL.nil ?_
  refine TX.next (.inl (by repeat (first | exact List.Sublist.slnil | exact List.nil_sublist _ | exact List.Sublist.refl _ | refine List.Sublist.cons_cons _ ?_ | refine List.Sublist.cons _ ?_ | refine List.Sublist.trans ?_ (List.sublist_append_right _ _)))) ?_
  refine TX.step [14] (by kernel_rfl) (by decide) ⟨⟨_, rfl, ?_⟩, trivial⟩
  refine TL.pure (PV.build rfl Tb.zero_24 Tb.pl_24 (fill_sv _ _ _)) rfl (by decide) ?_
  refine TL.nil ?_
  refine TX.next (.inl (by repeat (first | exact List.Sublist.slnil | exact List.nil_sublist _ | exact List.Sublist.refl _ | refine List.Sublist.cons_cons _ ?_ | refine List.Sublist.cons _ ?_ | refine List.Sublist.trans ?_ (List.sublist_append_right _ _)))) ?_
  refine TX.step [15] (by kernel_rfl) (by decide) ⟨⟨_, rfl, ?_⟩, trivial⟩
  refine TL.storeAgg rfl rfl Tb.cells_24 (by repeat (first | exact Upd.head _ | apply Upd.tail | apply Upd.appR)) rfl rfl (by first | rfl | exact sv_one _ _ _) rfl rfl ?_
  refine TL.nil ?_
  refine TX.next (.inr (by kernel_rfl)) ?_
  refine TX.done (by kernel_rfl) ?_
  refine TQ.thenC ?_
  refine TC.ret ?_
  refine TQ.retR rfl (Res.agg rfl Tb.agg_24 (by repeat (first | exact List.Mem.head _ | refine List.Mem.tail _ ?_ | refine List.mem_append_right _ ?_)) rfl Res.nil) ?_
  simp only [tup]
  exact ⟨h2, by rw [show 0 + k + (rs.length - (k + 1)) = rs.length - 1 by omega], del_go hh2, List.sublist_append_left _ _⟩

end Go.Proofs.Ytmmgcajegokkoaa

namespace Go.Proofs.Ytmmgcajegokkoaa
open Go.Sx Go.RowKit

theorem wholeS (w : World) {n : Int} {h : HD} {K : Nat} {rs : List Rd} (hK : rs.length = K) (ho : goS h rs) (hr : RdsAt w (gp h) rs) (hv : Valid n rs) :
    Calls Try.prog 62 #[.agg #[.int .i64 n, gval h K]] w (Post (X := Nat) (fun b => .slice (some ⟨b, 0, none⟩) n.toNat n.toNat) (fun _ => True) (fun b => [arrI b (firstsL n rs)]) w) := by
  have hc := whole_ok w n (gp h) (gc h) rs hr hv
  rw [gvS_eq ho hK]; subst hK
  exact hc
/-- Whether a reading is a bridge: its ends fall apart without it. -/
def brB (n : Int) (rs : List Rd) (k : Int) : Bool := decide (shE n rs k = 0 ∧ ¬ (firstsL n (del rs k.toNat)).getD (rs.getD k.toNat default).fr.toNat 0 = (firstsL n (del rs k.toNat)).getD (rs.getD k.toNat default).to.toNat 0)


set_option maxRecDepth 100000 in
set_option maxHeartbeats 1000000 in
theorem rIsBridge_ok (w0 : World) (n : Int) (p : Option Addr) (cap : Nat) (rs : List Rd) (hr : RdsAt w0 p rs) (hc : rs.length ≤ cap) (hl : rs.length ≤ 1000) (k : Int) :
    Calls Try.prog 49 #[sv n p rs.length cap, .int .i64 k] w0 (Post (X := Unit) (fun _ => .tuple #[.bool (brB n rs k), .int .i64 (shE n rs k)]) (fun _ => True) (fun _ => []) w0) := by
  refine calls Try.func49 rfl (n := 37) rfl (by simp) ?_
  refine TC.seq ?_
  refine TC.region ?_
  refine TL.box rfl rfl (by decide) (fun b0 hb0 => ?_)
  refine TL.pure (PV.assign rfl) rfl (by decide) ?_
  refine TL.pure (PV.assign rfl) rfl (by decide) ?_
  refine TL.nil ?_
  refine TQ.thenC ?_
  refine TC.seq ?_
  refine TC.seq ?_
  refine TC.region ?_
  refine TL.pure (PV.loadBox rfl Tb.agg_24 (by repeat (first | exact List.Mem.head _ | refine List.Mem.tail _ ?_ | refine List.mem_append_right _ ?_)) rfl) rfl (by decide) ?_
  refine TL.pure (PV.move rfl) rfl (by decide) ?_
  refine TL.call rfl Tb.gofn_87 (fun a w hs => numbered_ok w _ _ _ _ (hr.new hs.new) (by omega) k) rfl (by decide) (fun _ _ => ?_)
  refine TL.pure (PV.assign rfl) rfl (by decide) ?_
  refine TL.nil ?_
  refine TQ.thenC ?_
  refine TC.seq ?_
  refine TC.region ?_
  refine TL.pure (PV.move rfl) rfl (by decide) ?_
  refine TL.pure (PV.neq rfl rfl) rfl (by decide) ?_
  refine TL.nil ?_
  refine TQ.thenC ?_
  first | refine TC.condD rfl (fun hne => ?_) (fun hne => ?_) | refine TC.cond rfl (fun hne => ?_) (fun hne => ?_)
  · skip
    refine TC.seq ?_
    refine TC.region ?_
    refine TL.pure (PV.move rfl) rfl (by decide) ?_
    refine TL.pure (PV.assign rfl) rfl (by decide) ?_
    refine TL.pure (PV.assign rfl) rfl (by decide) ?_
    refine TL.nil ?_
    refine TQ.thenC ?_
    refine TC.ret ?_
    refine TQ.thenR ?_
    refine TQ.retE2 rfl rfl rfl ?_
    exact ⟨(), by rw [show brB n rs k = false from decide_eq_false (fun h => hne h.1)], trivial, List.nil_sublist _⟩
  · skip
    refine TC.skip ?_
    refine TQ.thenC ?_
    refine TC.seq ?_
    have hz : shE n rs k = 0 := by omega
    obtain ⟨hv, hk0, hkl⟩ := shE_ok hz
    obtain ⟨kn, rfl⟩ : ∃ kn : Nat, k = kn := ⟨k.toNat, by omega⟩
    rw [Int.toNat_natCast] at hkl
    obtain ⟨q, hqp, hqa⟩ := hr kn hkl
    have hq0 := hqa 0 _ rfl
    have hq1 := hqa 1 _ rfl
    have hat := hv.at hkl
    have hfl : (firstsL n (del rs kn)).length = n.toNat := by first | exact firstsL_len _ _ | simp [firstsL]
    refine TC.region ?_
    refine TL.pure (PV.loadBox rfl Tb.agg_24 (by repeat (first | exact List.Mem.head _ | refine List.Mem.tail _ ?_ | refine List.mem_append_right _ ?_)) rfl) rfl (by decide) ?_
    refine TL.pure (PV.move rfl) rfl (by decide) ?_
    refine TL.call rfl Tb.gofn_89 (fun a w hs => less_ok w n p cap rs (hr.new hs.new) hc hl kn (by omega)) rfl (by decide) (fun h1 hh1 => ?_)
    refine TL.call rfl Tb.gofn_62 (fun a w hs => wholeS w (by have := del_len (rs := rs) (k := kn) (by omega); omega) hh1 (RdsAt.s hs.new (fun yy hyy => by first | exact List.mem_append_left _ hyy | (simp only [List.mem_append, List.mem_cons]; simp [hyy])) hh1) (hv.del (by omega))) rfl (by decide) (fun bF _ => ?_)
    refine TL.pure (PV.assign rfl) rfl (by decide) ?_
    refine TL.nil ?_
    refine TQ.thenC ?_
    refine TC.seq ?_
    refine TC.any Tb.mixed rfl rfl ?_
    refine TA.op (OpOK.pure (PV.move rfl) rfl (by decide)) (by decide) ?_
    refine TA.op (OpOK.pure (PV.fieldAddr rfl Tb.fo_24_1) rfl (by decide)) (by decide) ?_
    refine TA.op (OpOK.pure (PV.load rfl Tb.one_22 (by repeat (first | exact List.Mem.head _ | refine List.Mem.tail _ ?_ | refine List.mem_append_right _ ?_)) rfl) rfl (by decide)) (by decide) ?_
    refine TA.op (OpOK.pure (PV.move rfl) rfl (by decide)) (by decide) ?_
    refine TA.op (OpOK.pure (PV.indexA rfl hqp rfl Tb.elm_22 rfl (by omega)) rfl (by decide)) (by decide) ?_
    refine TA.op (OpOK.pure (PV.fieldAddrA rfl Tb.fo_61_0) rfl (by decide)) (by decide) ?_
    refine TA.op (OpOK.pure (PV.loadOld rfl Tb.one_3 hq0) rfl (by decide)) (by decide) ?_
    refine TA.op (OpOK.pure (PV.index1 rfl rfl Tb.elm_31 (Int.toNat_of_nonneg (by omega)).symm (by omega)) rfl (by decide)) (by decide) ?_
    refine TA.op (OpOK.pure (PV.loadI rfl Tb.one_3 (by repeat (first | exact List.Mem.head _ | refine List.Mem.tail _ ?_ | refine List.mem_append_right _ ?_)) (by omega)) rfl (by decide)) (by decide) ?_
    refine TA.op (OpOK.pure (PV.move rfl) rfl (by decide)) (by decide) ?_
    refine TA.op (OpOK.pure (PV.fieldAddr rfl Tb.fo_24_1) rfl (by decide)) (by decide) ?_
    refine TA.op (OpOK.pure (PV.load rfl Tb.one_22 (by repeat (first | exact List.Mem.head _ | refine List.Mem.tail _ ?_ | refine List.mem_append_right _ ?_)) rfl) rfl (by decide)) (by decide) ?_
    refine TA.op (OpOK.pure (PV.move rfl) rfl (by decide)) (by decide) ?_
    refine TA.op (OpOK.pure (PV.indexA rfl hqp rfl Tb.elm_22 rfl (by omega)) rfl (by decide)) (by decide) ?_
    refine TA.op (OpOK.pure (PV.fieldAddrA rfl Tb.fo_61_1) rfl (by decide)) (by decide) ?_
    refine TA.op (OpOK.pure (PV.loadOld rfl Tb.one_3 hq1) rfl (by decide)) (by decide) ?_
    refine TA.op (OpOK.pure (PV.index1 rfl rfl Tb.elm_31 (Int.toNat_of_nonneg (by omega)).symm (by omega)) rfl (by decide)) (by decide) ?_
    refine TA.op (OpOK.pure (PV.loadI rfl Tb.one_3 (by repeat (first | exact List.Mem.head _ | refine List.Mem.tail _ ?_ | refine List.mem_append_right _ ?_)) (by omega)) rfl (by decide)) (by decide) ?_
    refine TA.op (OpOK.pure (PV.neq rfl rfl) rfl (by decide)) (by decide) ?_
    refine TA.op (OpOK.pure (PV.assign rfl) rfl (by decide)) (by decide) ?_
    refine TA.op (OpOK.pure (PV.assign rfl) rfl (by decide)) (by decide) ?_
    show TQ _ _ _ _ _
    refine TQ.thenC ?_
    refine TC.ret ?_
    refine TQ.retE2 rfl rfl rfl ?_
    exact ⟨(), by rw [hz]; simp only [brB, hz, Int.toNat_natCast, true_and], trivial, List.nil_sublist _⟩

end Go.Proofs.Ytmmgcajegokkoaa

namespace Go.Proofs.Ytmmgcajegokkoaa
open Go.Sx Go.RowKit

theorem parts_count {n : Int} {rs : List Rd} (hv : Valid n rs) {x : HD × List (HD × List Int)} (hx : PF n.toNat (firstsL n rs) n.toNat x) : (x.2.length : Int) + nonroots n.toNat rs = n := by
  have h1 : x.2.length = ((List.range n.toNat).filter fun p => (firstsL n rs).getD p 0 = (p : Int)).length := by
    have := congrArg List.length hx.eq
    simpa [partsK] using this
  have h2 := roots_count n.toNat rs n.toNat
  rw [hv.nat.2] at h2
  rw [h1]
  exact h2
theorem brB_eq {n k : Int} {rs : List Rd} (h : shE n rs k = 0) {x y : HD × List (HD × List Int)} (hx : PF n.toNat (firstsL n (del rs k.toNat)) n.toNat x) (hy : PF n.toNat (firstsL n rs) n.toNat y) :
    brB n rs k = decide ((y.2.length : Int) < x.2.length) := by
  obtain ⟨hv, hk0, hk⟩ := shE_ok h
  have hv' := hv.del hk
  have c1 := parts_count hv' hx
  have c2 := parts_count hv hy
  have b := bridge_parts hv hk
  obtain ⟨i1, i2, _⟩ := rd_in hv hk
  have rf := root_firsts hv'.nat.1 i1 i2
  rw [hv.nat.2] at rf
  unfold brB
  rw [decide_eq_decide]
  constructor
  · rintro ⟨_, hne⟩
    have := b.1 (fun e => hne (rf.1 e))
    omega
  · intro hlt
    exact ⟨h, fun e => (b.2 (by omega)) (rf.2 e)⟩
theorem brB_share {n k : Int} {rs : List Rd} (h : shE n rs k = 0) : brB n rs k = decide (shN n rs k = 1 ∧ shD n rs k = 1) := by
  obtain ⟨hv, hk0, hk⟩ := shE_ok h
  obtain ⟨g, s⟩ := shIs h
  have b := bridge_share hv hk
  obtain ⟨i1, i2, _⟩ := rd_in hv hk
  have rf := root_firsts (hv.del hk).nat.1 i1 i2
  rw [hv.nat.2] at rf
  have hpos := s.pos
  have hnum := s.num
  have hden := s.den
  unfold brB
  rw [decide_eq_decide]
  constructor
  · rintro ⟨_, hne⟩
    have e := b.1 (fun e => hne (rf.1 e))
    have e2 : shN n rs k = shD n rs k := Int.eq_of_mul_eq_mul_right (show g ≠ 0 by omega) (by rw [hnum, hden]; exact e)
    obtain ⟨gg, hg⟩ := rIs hv.nat.1 i1 i2
    have hdp := hg.dpos
    have hc : Int.gcd (shN n rs k) (shD n rs k) = 1 := by
      rw [shN, if_pos h, shD, if_pos h]
      exact low_cop (show 0 < shY n rs k by unfold shY; omega)
    rw [e2, Int.gcd_self] at hc
    have := s.dpos
    omega
  · rintro ⟨e1, e2⟩
    rw [e1] at hnum
    rw [e2] at hden
    exact ⟨h, fun e => (b.2 (by rw [Int.one_mul] at hnum hden; exact hnum.symm.trans hden)) (rf.2 e)⟩

end Go.Proofs.Ytmmgcajegokkoaa

namespace Go.Proofs.Ytmmgcajegokkoaa
open Go.Sx Go.RowKit

theorem rdc_take (rs : List Rd) (k : Nat) : (rdc rs).take (k * 4) = rdc (rs.take k) := by
  induction rs generalizing k with
  | nil => simp [rdc]
  | cons a r ih =>
    cases k with
    | zero => simp [rdc]
    | succ k =>
      have e : rdc (a :: r) = a.cells ++ rdc r := by simp [rdc]
      rw [e, List.take_succ_cons, show rdc (a :: r.take k) = a.cells ++ rdc (r.take k) by simp [rdc], ← ih]
      rw [List.take_append, List.take_of_length_le (by simp; omega)]
      congr 2
      simp; omega
theorem rdc_drop (rs : List Rd) (k : Nat) : (rdc rs).drop (k * 4) = rdc (rs.drop k) := by
  induction rs generalizing k with
  | nil => simp [rdc]
  | cons a r ih =>
    cases k with
    | zero => simp [rdc]
    | succ k =>
      have e : rdc (a :: r) = a.cells ++ rdc r := by simp [rdc]
      rw [e, List.drop_succ_cons, ← ih]
      rw [List.drop_append, List.drop_of_length_le (by simp; omega), List.nil_append]
      congr 1
      simp; omega
def zr : List Value := [.int .i64 0, .int .i64 0, .int .i64 0, .int .i64 0]
theorem del_cells1 {rs : List Rd} {sp : List Value} {k : Nat} (hk : k < rs.length) :
    (rdc rs ++ sp).take (k * 4) ++ rdc (rs.drop (k + 1)) ++ (rdc rs ++ sp).drop (k * 4 + (rdc (rs.drop (k + 1))).length) = rdc (del rs k) ++ (rdc (rs.drop (rs.length - 1)) ++ sp) := by
  have hl := rdc_len rs
  rw [rdc_len, List.length_drop, show k * 4 + (rs.length - (k + 1)) * 4 = (rs.length - 1) * 4 by omega, List.take_append_of_le_length (by omega), List.drop_append_of_le_length (by omega), rdc_take, rdc_drop, ← rdc_app]
  rfl
theorem cells2 {A B sp zs : List Value} {m : Nat} (hA : A.length = m) (hB : B.length = zs.length) : (A ++ (B ++ sp)).take m ++ zs ++ (A ++ (B ++ sp)).drop (m + zs.length) = A ++ (zs ++ sp) := by
  subst hA
  rw [List.take_left, ← List.drop_drop, List.drop_left, ← hB, List.drop_left, List.append_assoc]
theorem del_cells2 {rs : List Rd} {sp : List Value} {k : Nat} (hk : k < rs.length) :
    (rdc (del rs k) ++ (rdc (rs.drop (rs.length - 1)) ++ sp)).take ((rs.length - 1) * 4) ++ zr ++ (rdc (del rs k) ++ (rdc (rs.drop (rs.length - 1)) ++ sp)).drop ((rs.length - 1) * 4 + zr.length) = rdc (del rs k) ++ (zr ++ sp) := by
  have h1 := del_len hk
  refine cells2 (by rw [rdc_len]; omega) ?_
  rw [rdc_len, List.length_drop, show zr.length = 4 from rfl]; omega
theorem del_go2 {rs : List Rd} {b cap : Nat} {sp : List Value} {k : Nat} (hk : k < rs.length) (ho : goS (some (b, cap, sp)) rs) : goS (some (b, cap, zr ++ sp)) (del rs k) := by
  obtain ⟨h1, h2, h3⟩ := ho
  have h4 := del_len hk
  have h5 := rdc_len rs
  have h6 := rdc_len (del rs k)
  refine ⟨h6, ?_, by omega⟩
  simp only [List.length_append, show zr.length = 4 from rfl]
  omega


set_option maxRecDepth 100000 in
set_option maxHeartbeats 1000000 in
theorem delete_ok (w0 w : World) (b cap : Nat) (sp : List Value) (rs : List Rd) (hl : rs.length ≤ 1000) (k : Nat) (hk : k < rs.length) (R : Heap) (ho : goS (some (b, cap, sp)) rs) (hN : New w0 w ((b, .cells (rdc rs ++ sp).toArray 61 (0, 0)) :: R)) :
    Calls Try.prog 102 #[.slice (some ⟨b, 0, none⟩) rs.length cap, .int .i64 k, .int .i64 (k + 1)] w (Post (X := Unit) (fun _ => .slice (some ⟨b, 0, none⟩) (rs.length - 1) cap) (fun _ => True) (fun _ => (b, .cells (rdc (del rs k) ++ (zr ++ sp)).toArray 61 (0, 0)) :: R) w0) := by
  have hcap := ho.2.2
  have hlen := rdc_len rs
  have hlen2 := rdc_len (rs.drop (k + 1))
  have hdl : (rs.drop (k + 1)).length = rs.length - (k + 1) := by simp
  refine callsM hN Try.func102 rfl (n := 33) rfl (by simp) ?_
  refine TC.seq ?_
  refine TC.region ?_
  refine TL.pure (PV.assign rfl) rfl (by decide) ?_
  refine TL.nil ?_
  refine TQ.thenC ?_
  refine TC.seq ?_
  refine TC.region ?_
  refine TL.pure (PV.move rfl) rfl (by decide) ?_
  refine TL.pure (PV.move rfl) rfl (by decide) ?_
  refine TL.pure (PV.move rfl) rfl (by decide) ?_
  refine TL.pure (PV.move rfl) rfl (by decide) ?_
  refine TL.pure (PV.len rfl Tb.sl_22) rfl (by decide) ?_
  refine TL.pure (PV.slice3 (l := k) (h := k + 1) (m := rs.length) rfl rfl rfl rfl Tb.elm_22 rfl rfl rfl (by omega) (by omega) (by omega)) rfl (by decide) ?_
  refine TL.nil ?_
  refine TQ.thenC ?_
  refine TC.seq ?_
  refine TC.seq ?_
  refine TC.region ?_
  refine TL.pure (PV.move rfl) rfl (by decide) ?_
  refine TL.pure (PV.move rfl) rfl (by decide) ?_
  refine TL.pure (PV.eql rfl rfl) rfl (by decide) ?_
  refine TL.nil ?_
  refine TQ.thenC ?_
  first | refine TC.condD rfl (fun h0 => ?_) (fun h0 => ?_) | refine TC.cond rfl (fun h0 => ?_) (fun h0 => ?_)
  · skip
    exfalso; omega
  · skip
    refine TC.skip ?_
    refine TQ.thenC ?_
    refine TC.seq ?_
    refine TC.region ?_
    refine TL.pure (PV.move rfl) rfl (by decide) ?_
    refine TL.pure (PV.len rfl Tb.sl_22) rfl (by decide) ?_
    refine TL.pure (PV.assign rfl) rfl (by decide) ?_
    refine TL.nil ?_
    refine TQ.thenC ?_
    refine TC.seq ?_
    refine TC.draw 6 Tb.mixed (by kernel_rfl) ?_
    simp only [List.take_succ_cons, List.take_zero, List.drop_succ_cons, List.drop_zero]
    refine TS.pure (PV.move rfl) rfl (by decide) ?_
    refine TS.pure (PV.move rfl) rfl (by decide) ?_
    refine TS.pure (PV.sliceHb rfl rfl Tb.elm_22 rfl (by omega)) rfl (by decide) ?_
    refine TS.pure (PV.move rfl) rfl (by decide) ?_
    refine TS.pure (PV.move rfl) rfl (by decide) ?_
    refine TS.pure (PV.sliceL (l := k + 1) rfl rfl Tb.elm_22 rfl (by omega)) rfl (by decide) ?_
    refine TS.nil ?_
    refine TL.appendRoom (cs := rdc rs ++ sp) (news := rdc (rs.drop (k + 1))) (m := rs.length - (k + 1)) rfl rfl Tb.sl_22 Tb.zi_61 (by repeat (first | exact Upd.head _ | apply Upd.tail | apply Upd.appR)) (by simp only [List.length_append]; omega) (by omega) (fun w' hN' => rds_src hdl (RdsAt.back (RdsAt.s hN' (fun yy hyy => by first | exact List.mem_append_left _ hyy | (simp only [List.mem_append, List.mem_cons]; simp [hyy])) ho) hcap (k + 1))) rfl (by decide) ?_
    rw [del_cells1 hk]
    refine TL.pure (PV.assign rfl) rfl (by decide) ?_
    refine TL.nil ?_
    refine TQ.thenC ?_
    refine TC.seq ?_
    refine TC.region ?_
    refine TL.pure (PV.move rfl) rfl (by decide) ?_
    refine TL.pure (PV.move rfl) rfl (by decide) ?_
    refine TL.pure (PV.len rfl Tb.sl_22) rfl (by decide) ?_
    refine TL.pure (PV.move rfl) rfl (by decide) ?_
    refine TL.pure (PV.sliceLHb (l := rs.length - 1) (h := rs.length) rfl rfl rfl Tb.elm_22 (by omega) rfl (by omega) (by omega)) rfl (by decide) ?_
    refine TL.clear1 (cs := rdc (del rs k) ++ (rdc (rs.drop (rs.length - 1)) ++ sp)) (zs := zr) rfl (by omega) Tb.sl_22 Tb.zi_61 (by kernel_rfl) rfl (by repeat (first | exact Upd.head _ | apply Upd.tail | apply Upd.appR)) (by have h4 := del_len hk; have h5 := rdc_len (del rs k); have h6 := rdc_len (rs.drop (rs.length - 1)); simp only [List.length_append, List.length_drop, show zr.length = 4 from rfl] at h6 ⊢; omega) rfl rfl ?_
    rw [del_cells2 hk]
    refine TL.nil ?_
    refine TQ.thenC ?_
    refine TC.seq ?_
    refine TC.region ?_
    refine TL.pure (PV.move rfl) rfl (by decide) ?_
    refine TL.pure (PV.assign rfl) rfl (by decide) ?_
    refine TL.nil ?_
    refine TQ.thenC ?_
    refine TC.ret ?_
    refine TQ.retE1 rfl rfl ?_
    exact ⟨(), by rw [show k + (rs.length - (k + 1)) = rs.length - 1 by omega], trivial, List.Sublist.refl _⟩

theorem TL.callDel {n : Nat} {w0 : World} {E : Env} {G : Heap} {ops : Array Oper} {Q : Exit → Act → World → Prop} {l : List Oper} {ty : TypeId} {pos : String} {aft : Array Edge} {g : Option (Nat × Bool)} {d b cap K k : Nat} {xs : List Operand} {ats : Array TypeId} {sp : List Value} {rs : List Rd} {R : Heap}
    (hx : evs E xs = some [.slice (some ⟨b, 0, none⟩) K cap, .int .i64 k, .int .i64 (k + 1)]) (hK : rs.length = K) (hl : K ≤ 1000) (hk : k < K) (ho : goS (some (b, cap, sp)) rs) (hT : Take b (.cells (rdc rs ++ sp).toArray 61 (0, 0)) G R)
    (hg : wants ops E g = some true) (hd : d < n) (h : TL Try.prog n w0 ops Q l ((d, .slice (some ⟨b, 0, none⟩) (K - 1) cap) :: E) ((b, .cells (rdc (del rs k) ++ (zr ++ sp)).toArray 61 (0, 0)) :: R)) :
    TL Try.prog n w0 ops Q (⟨some d, .call { callee := .value (.func 102), args := xs.toArray, argTypes := ats }, ty, pos, aft, g⟩ :: l) E G := by
  subst hK
  exact TL.callW (fun _ : Unit => .slice (some ⟨b, 0, none⟩) (rs.length - 1) cap) (fun _ => True) (fun _ => (b, .cells (rdc (del rs k) ++ (zr ++ sp)).toArray 61 (0, 0)) :: R) hx Tb.gofn_102
    (fun a w hs => delete_ok w0 w b cap sp rs hl k hk R ho (hs.new.perm hT.perm)) hg hd (fun _ _ => h)

set_option maxRecDepth 100000 in
set_option maxHeartbeats 1000000 in
theorem without_ok (w0 : World) (n : Int) (p : Option Addr) (cap : Nat) (rs : List Rd) (hr : RdsAt w0 p rs) (hl : rs.length ≤ 1000) (k : Nat) (hk : k < rs.length) :
    Calls Try.prog 88 #[sv n p rs.length cap, .int .i64 k] w0 (Post (X := HD) (fun h => .agg #[.int .i64 n, gval h (rs.length - 1)]) (fun h => goS h (del rs k)) (fun h => gbS h (del rs k)) w0) := by
  refine calls Try.func88 rfl (n := 16) rfl (by simp) ?_
  refine TC.seq ?_
  refine TC.region ?_
  refine TL.box rfl rfl (by decide) (fun b0 hb0 => ?_)
  refine TL.alloc Tb.zero_24 rfl (by decide) (fun b1 hb1 => ?_)
  refine TL.nil ?_
  refine TQ.thenC ?_
  refine TC.seq ?_
  refine TC.region ?_
  refine TL.pure (PV.loadBox rfl Tb.agg_24 (by repeat (first | exact List.Mem.head _ | refine List.Mem.tail _ ?_ | refine List.mem_append_right _ ?_)) rfl) rfl (by decide) ?_
  refine TL.call rfl Tb.gofn_90 (fun a w hs => copied_ok w n p cap rs.length rs rfl (hr.new hs.new) (by omega)) rfl (by decide) (fun h1 hh1 => ?_)
  refine TL.alloc Tb.zero_24 rfl (by decide) (fun b2 hb2 => ?_)
  refine TL.storeAgg rfl rfl Tb.cells_24 (by repeat (first | exact Upd.head _ | apply Upd.tail | apply Upd.appR)) rfl rfl (by first | rfl | exact sv_one _ _ _) rfl rfl ?_
  refine TL.nil ?_
  refine TQ.thenC ?_
  refine TC.seq ?_
  obtain _ | ⟨bb, cp, sp⟩ := h1
  · exact absurd hh1.2 (by simp only; omega)
  refine TC.region ?_
  refine TL.pure (PV.fieldAddr rfl Tb.fo_24_1) rfl (by decide) ?_
  refine TL.pure (PV.load rfl Tb.one_22 (by repeat (first | exact List.Mem.head _ | refine List.Mem.tail _ ?_ | refine List.mem_append_right _ ?_)) rfl) rfl (by decide) ?_
  refine TL.pure (PV.move rfl) rfl (by decide) ?_
  refine TL.pure (PV.move rfl) rfl (by decide) ?_
  refine TL.pure (PV.add rfl rfl (by omega)) rfl (by decide) ?_
  refine TL.callDel (sp := sp) (rs := rs) rfl rfl hl hk hh1 (by repeat (first | exact Take.head _ | apply Take.tail | apply Take.appR)) rfl (by decide) ?_
  refine TL.pure (PV.fieldAddr rfl Tb.fo_24_1) rfl (by decide) ?_
  refine TL.store rfl rfl Tb.cells_22 rfl (by repeat (first | exact Upd.head _ | apply Upd.tail | apply Upd.appR)) (by first | decide | (simp; done) | (simp; omega) | omega) rfl rfl ?_
  refine TL.nil ?_
  refine TQ.thenC ?_
  refine TC.seq ?_
  refine TC.region ?_
  refine TL.pure (PV.loadBox rfl Tb.agg_24 (by repeat (first | exact List.Mem.head _ | refine List.Mem.tail _ ?_ | refine List.mem_append_right _ ?_)) rfl) rfl (by decide) ?_
  refine TL.storeAgg rfl rfl Tb.cells_24 (by repeat (first | exact Upd.head _ | apply Upd.tail | apply Upd.appR)) rfl rfl (by first | rfl | exact sv_one _ _ _) rfl rfl ?_
  refine TL.nil ?_
  refine TQ.thenC ?_
  refine TC.ret ?_
  refine TQ.retR rfl (Res.agg rfl Tb.agg_24 (by repeat (first | exact List.Mem.head _ | refine List.Mem.tail _ ?_ | refine List.mem_append_right _ ?_)) rfl Res.nil) ?_
  simp only [tup]
  exact ⟨some (bb, cp, zr ++ sp), rfl, del_go2 hk hh1, by repeat (first | exact List.Sublist.slnil | exact List.nil_sublist _ | exact List.Sublist.refl _ | refine List.Sublist.cons_cons _ ?_ | refine List.Sublist.cons _ ?_ | refine List.Sublist.trans ?_ (List.sublist_append_right _ _))⟩

theorem partsS (w : World) {n : Int} {h : HD} {K : Nat} {rs : List Rd} (hK : rs.length = K) (ho : goS h rs) (hr : RdsAt w (gp h) rs) (hv : Valid n rs) :
    Calls Try.prog 61 #[.agg #[.int .i64 n, gval h K]] w (Post (X := HD × List (HD × List Int)) (fun x => gvP x) (fun x => PF n.toNat (firstsL n rs) n.toNat x) (fun x => gbP x ++ bl x.2) w) := by
  have hc := parts_ok w n (gp h) (gc h) rs hr hv
  rw [gvS_eq ho hK]; subst hK
  exact hc

set_option maxRecDepth 100000 in
set_option maxHeartbeats 1000000 in
theorem isBridge_ok (w0 : World) (n : Int) (p : Option Addr) (cap : Nat) (rs : List Rd) (hr : RdsAt w0 p rs) (hl : rs.length ≤ 1000) (k : Int) :
    Calls Try.prog 48 #[sv n p rs.length cap, .int .i64 k] w0 (Post (X := Unit) (fun _ => .tuple #[.bool (brB n rs k), .int .i64 (shE n rs k)]) (fun _ => True) (fun _ => []) w0) := by
  refine calls Try.func48 rfl (n := 22) rfl (by simp) ?_
  refine TC.seq ?_
  refine TC.region ?_
  refine TL.box rfl rfl (by decide) (fun b0 hb0 => ?_)
  refine TL.pure (PV.assign rfl) rfl (by decide) ?_
  refine TL.pure (PV.assign rfl) rfl (by decide) ?_
  refine TL.nil ?_
  refine TQ.thenC ?_
  refine TC.seq ?_
  refine TC.seq ?_
  refine TC.region ?_
  refine TL.pure (PV.loadBox rfl Tb.agg_24 (by repeat (first | exact List.Mem.head _ | refine List.Mem.tail _ ?_ | refine List.mem_append_right _ ?_)) rfl) rfl (by decide) ?_
  refine TL.pure (PV.move rfl) rfl (by decide) ?_
  refine TL.call rfl Tb.gofn_86 (fun a w hs => validateReading_ok w _ _ _ _ (hr.new hs.new) k) rfl (by decide) (fun _ _ => ?_)
  refine TL.pure (PV.assign rfl) rfl (by decide) ?_
  refine TL.nil ?_
  refine TQ.thenC ?_
  refine TC.seq ?_
  refine TC.region ?_
  refine TL.pure (PV.move rfl) rfl (by decide) ?_
  refine TL.pure (PV.neq rfl rfl) rfl (by decide) ?_
  refine TL.nil ?_
  refine TQ.thenC ?_
  first | refine TC.condD rfl (fun hne => ?_) (fun hne => ?_) | refine TC.cond rfl (fun hne => ?_) (fun hne => ?_)
  · skip
    refine TC.seq ?_
    refine TC.region ?_
    refine TL.pure (PV.move rfl) rfl (by decide) ?_
    refine TL.pure (PV.assign rfl) rfl (by decide) ?_
    refine TL.pure (PV.assign rfl) rfl (by decide) ?_
    refine TL.nil ?_
    refine TQ.thenC ?_
    refine TC.ret ?_
    refine TQ.thenR ?_
    refine TQ.retE2 rfl rfl rfl ?_
    first | exact ⟨(), by rw [show brB n rs k = false from decide_eq_false (fun h => hne h.1)], trivial, List.nil_sublist _⟩ | exact ⟨(), by rw [hz, brB_eq hz (by rw [Int.toNat_natCast]; exact hxa) hxb], trivial, List.nil_sublist _⟩
  · skip
    refine TC.skip ?_
    refine TQ.thenC ?_
    refine TC.seq ?_
    have hz : shE n rs k = 0 := by omega
    obtain ⟨hv, hk0, hkl⟩ := shE_ok hz
    obtain ⟨kn, rfl⟩ : ∃ kn : Nat, k = kn := ⟨k.toNat, by omega⟩
    rw [Int.toNat_natCast] at hkl
    refine TC.mix [true, true, false, false, false, true, false, false, false, false, false] _ 8 Tb.mixed rfl (by kernel_rfl) (by kernel_rfl) (by kernel_rfl) (by kernel_rfl) (List.Sublist.refl _) ?_
    refine TB.op (SOK.pure (PV.loadBox rfl Tb.agg_24 (by repeat (first | exact List.Mem.head _ | refine List.Mem.tail _ ?_ | refine List.mem_append_right _ ?_)) rfl) rfl) (by decide) ?_
    refine TB.op (SOK.pure (PV.move rfl) rfl) (by decide) ?_
    refine TB.no ?_
    refine TB.no ?_
    refine TB.no ?_
    refine TB.op (SOK.pure (PV.loadBox rfl Tb.agg_24 (by repeat (first | exact List.Mem.head _ | refine List.Mem.tail _ ?_ | refine List.mem_append_right _ ?_)) rfl) rfl) (by decide) ?_
    refine TB.no ?_
    refine TB.no ?_
    refine TB.no ?_
    refine TB.no ?_
    refine TB.no ?_
    refine TB.fin ?_
    refine TX.step [2] (by kernel_rfl) (by decide) ⟨⟨_, rfl, ?_⟩, trivial⟩
    refine TL.call rfl Tb.gofn_88 (fun a w hs => without_ok w n p cap rs (hr.new hs.new) hl kn (by omega)) rfl (by decide) (fun h1 hh1 => ?_)
    refine TL.nil ?_
    refine TX.next (.inl (by repeat (first | exact List.Sublist.slnil | exact List.nil_sublist _ | exact List.Sublist.refl _ | refine List.Sublist.cons_cons _ ?_ | refine List.Sublist.cons _ ?_ | refine List.Sublist.trans ?_ (List.sublist_append_right _ _)))) ?_
    refine TX.step [3] (by kernel_rfl) (by decide) ⟨⟨_, rfl, ?_⟩, trivial⟩
    refine TL.call rfl Tb.gofn_61 (fun a w hs => partsS w (by have := del_len (rs := rs) (k := kn) (by omega); omega) hh1 (RdsAt.s hs.new (fun yy hyy => by first | exact List.mem_append_left _ hyy | (simp only [List.mem_append, List.mem_cons]; simp [hyy])) hh1) (hv.del (by omega))) rfl (by decide) (fun xa hxa => ?_)
    refine TL.nil ?_
    refine TX.next (.inl (by repeat (first | exact List.Sublist.slnil | exact List.nil_sublist _ | exact List.Sublist.refl _ | refine List.Sublist.cons_cons _ ?_ | refine List.Sublist.cons _ ?_ | refine List.Sublist.trans ?_ (List.sublist_append_right _ _)))) ?_
    refine TX.step [4, 6] (by kernel_rfl) (by decide) ⟨⟨_, rfl, ?_⟩, ⟨_, rfl, ?_⟩, trivial⟩
    · skip
      refine TL.pure (PV.lenG rfl hxa.ok Tb.sl_27) rfl (by decide) ?_
      refine TL.nil ?_
      refine TX.next (.inl (by repeat (first | exact List.Sublist.slnil | exact List.nil_sublist _ | exact List.Sublist.refl _ | refine List.Sublist.cons_cons _ ?_ | refine List.Sublist.cons _ ?_ | refine List.Sublist.trans ?_ (List.sublist_append_right _ _)))) ?_
      refine TX.step [6] (by kernel_rfl) (by decide) ⟨⟨_, rfl, ?_⟩, trivial⟩
      refine TL.call rfl Tb.gofn_61 (fun a w hs => parts_ok w n p cap rs (hr.new hs.new) hv) rfl (by decide) (fun xb hxb => ?_)
      refine TL.nil ?_
      refine TX.next (.inl (by repeat (first | exact List.Sublist.slnil | exact List.nil_sublist _ | exact List.Sublist.refl _ | refine List.Sublist.cons_cons _ ?_ | refine List.Sublist.cons _ ?_ | refine List.Sublist.trans ?_ (List.sublist_append_right _ _)))) ?_
      refine TX.step [7] (by kernel_rfl) (by decide) ⟨⟨_, rfl, ?_⟩, trivial⟩
      refine TL.pure (PV.lenG rfl hxb.ok Tb.sl_27) rfl (by decide) ?_
      refine TL.nil ?_
      refine TX.next (.inl (by repeat (first | exact List.Sublist.slnil | exact List.nil_sublist _ | exact List.Sublist.refl _ | refine List.Sublist.cons_cons _ ?_ | refine List.Sublist.cons _ ?_ | refine List.Sublist.trans ?_ (List.sublist_append_right _ _)))) ?_
      refine TX.step [8] (by kernel_rfl) (by decide) ⟨⟨_, rfl, ?_⟩, trivial⟩
      refine TL.pure (PV.gtr rfl rfl) rfl (by decide) ?_
      refine TL.nil ?_
      refine TX.next (.inl (by repeat (first | exact List.Sublist.slnil | exact List.nil_sublist _ | exact List.Sublist.refl _ | refine List.Sublist.cons_cons _ ?_ | refine List.Sublist.cons _ ?_ | refine List.Sublist.trans ?_ (List.sublist_append_right _ _)))) ?_
      refine TX.step [9] (by kernel_rfl) (by decide) ⟨⟨_, rfl, ?_⟩, trivial⟩
      refine TL.pure (PV.assign rfl) rfl (by decide) ?_
      refine TL.nil ?_
      refine TX.next (.inr (by kernel_rfl)) ?_
      refine TX.step [10] (by kernel_rfl) (by decide) ⟨⟨_, rfl, ?_⟩, trivial⟩
      refine TL.pure (PV.assign rfl) rfl (by decide) ?_
      refine TL.nil ?_
      refine TX.next (.inr (by kernel_rfl)) ?_
      refine TX.done (by kernel_rfl) ?_
      refine TQ.thenC ?_
      refine TC.ret ?_
      refine TQ.retE2 rfl rfl rfl ?_
      first | exact ⟨(), by rw [show brB n rs k = false from decide_eq_false (fun h => hne h.1)], trivial, List.nil_sublist _⟩ | exact ⟨(), by rw [hz, brB_eq hz (by rw [Int.toNat_natCast]; exact hxa) hxb], trivial, List.nil_sublist _⟩
    · skip
      refine TL.call rfl Tb.gofn_61 (fun a w hs => parts_ok w n p cap rs (hr.new hs.new) hv) rfl (by decide) (fun xb hxb => ?_)
      refine TL.nil ?_
      refine TX.next (.inl (by repeat (first | exact List.Sublist.slnil | exact List.nil_sublist _ | exact List.Sublist.refl _ | refine List.Sublist.cons_cons _ ?_ | refine List.Sublist.cons _ ?_ | refine List.Sublist.trans ?_ (List.sublist_append_right _ _)))) ?_
      refine TX.step [4, 7] (by kernel_rfl) (by decide) ⟨⟨_, rfl, ?_⟩, ⟨_, rfl, ?_⟩, trivial⟩
      · skip
        refine TL.pure (PV.lenG rfl hxa.ok Tb.sl_27) rfl (by decide) ?_
        refine TL.nil ?_
        refine TX.next (.inl (by repeat (first | exact List.Sublist.slnil | exact List.nil_sublist _ | exact List.Sublist.refl _ | refine List.Sublist.cons_cons _ ?_ | refine List.Sublist.cons _ ?_ | refine List.Sublist.trans ?_ (List.sublist_append_right _ _)))) ?_
        refine TX.step [7] (by kernel_rfl) (by decide) ⟨⟨_, rfl, ?_⟩, trivial⟩
        refine TL.pure (PV.lenG rfl hxb.ok Tb.sl_27) rfl (by decide) ?_
        refine TL.nil ?_
        refine TX.next (.inl (by repeat (first | exact List.Sublist.slnil | exact List.nil_sublist _ | exact List.Sublist.refl _ | refine List.Sublist.cons_cons _ ?_ | refine List.Sublist.cons _ ?_ | refine List.Sublist.trans ?_ (List.sublist_append_right _ _)))) ?_
        refine TX.step [8] (by kernel_rfl) (by decide) ⟨⟨_, rfl, ?_⟩, trivial⟩
        refine TL.pure (PV.gtr rfl rfl) rfl (by decide) ?_
        refine TL.nil ?_
        refine TX.next (.inl (by repeat (first | exact List.Sublist.slnil | exact List.nil_sublist _ | exact List.Sublist.refl _ | refine List.Sublist.cons_cons _ ?_ | refine List.Sublist.cons _ ?_ | refine List.Sublist.trans ?_ (List.sublist_append_right _ _)))) ?_
        refine TX.step [9] (by kernel_rfl) (by decide) ⟨⟨_, rfl, ?_⟩, trivial⟩
        refine TL.pure (PV.assign rfl) rfl (by decide) ?_
        refine TL.nil ?_
        refine TX.next (.inr (by kernel_rfl)) ?_
        refine TX.step [10] (by kernel_rfl) (by decide) ⟨⟨_, rfl, ?_⟩, trivial⟩
        refine TL.pure (PV.assign rfl) rfl (by decide) ?_
        refine TL.nil ?_
        refine TX.next (.inr (by kernel_rfl)) ?_
        refine TX.done (by kernel_rfl) ?_
        refine TQ.thenC ?_
        refine TC.ret ?_
        refine TQ.retE2 rfl rfl rfl ?_
        first | exact ⟨(), by rw [show brB n rs k = false from decide_eq_false (fun h => hne h.1)], trivial, List.nil_sublist _⟩ | exact ⟨(), by rw [hz, brB_eq hz (by rw [Int.toNat_natCast]; exact hxa) hxb], trivial, List.nil_sublist _⟩
      · skip
        refine TL.pure (PV.lenG rfl hxb.ok Tb.sl_27) rfl (by decide) ?_
        refine TL.nil ?_
        refine TX.next (.inl (by repeat (first | exact List.Sublist.slnil | exact List.nil_sublist _ | exact List.Sublist.refl _ | refine List.Sublist.cons_cons _ ?_ | refine List.Sublist.cons _ ?_ | refine List.Sublist.trans ?_ (List.sublist_append_right _ _)))) ?_
        refine TX.step [4] (by kernel_rfl) (by decide) ⟨⟨_, rfl, ?_⟩, trivial⟩
        refine TL.pure (PV.lenG rfl hxa.ok Tb.sl_27) rfl (by decide) ?_
        refine TL.nil ?_
        refine TX.next (.inl (by repeat (first | exact List.Sublist.slnil | exact List.nil_sublist _ | exact List.Sublist.refl _ | refine List.Sublist.cons_cons _ ?_ | refine List.Sublist.cons _ ?_ | refine List.Sublist.trans ?_ (List.sublist_append_right _ _)))) ?_
        refine TX.step [8] (by kernel_rfl) (by decide) ⟨⟨_, rfl, ?_⟩, trivial⟩
        refine TL.pure (PV.gtr rfl rfl) rfl (by decide) ?_
        refine TL.nil ?_
        refine TX.next (.inl (by repeat (first | exact List.Sublist.slnil | exact List.nil_sublist _ | exact List.Sublist.refl _ | refine List.Sublist.cons_cons _ ?_ | refine List.Sublist.cons _ ?_ | refine List.Sublist.trans ?_ (List.sublist_append_right _ _)))) ?_
        refine TX.step [9] (by kernel_rfl) (by decide) ⟨⟨_, rfl, ?_⟩, trivial⟩
        refine TL.pure (PV.assign rfl) rfl (by decide) ?_
        refine TL.nil ?_
        refine TX.next (.inr (by kernel_rfl)) ?_
        refine TX.step [10] (by kernel_rfl) (by decide) ⟨⟨_, rfl, ?_⟩, trivial⟩
        refine TL.pure (PV.assign rfl) rfl (by decide) ?_
        refine TL.nil ?_
        refine TX.next (.inr (by kernel_rfl)) ?_
        refine TX.done (by kernel_rfl) ?_
        refine TQ.thenC ?_
        refine TC.ret ?_
        refine TQ.retE2 rfl rfl rfl ?_
        first | exact ⟨(), by rw [show brB n rs k = false from decide_eq_false (fun h => hne h.1)], trivial, List.nil_sublist _⟩ | exact ⟨(), by rw [hz, brB_eq hz (by rw [Int.toNat_natCast]; exact hxa) hxb], trivial, List.nil_sublist _⟩

end Go.Proofs.Ytmmgcajegokkoaa

namespace Go.Proofs.Ytmmgcajegokkoaa
open Go.Sx Go.RowKit



set_option maxRecDepth 100000 in
set_option maxHeartbeats 1000000 in
theorem levelShares_ok (w0 : World) (n : Int) (p : Option Addr) (cap : Nat) (rs : List Rd) (hr : RdsAt w0 p rs) (hc : rs.length ≤ cap) (k : Int) :
    Calls Try.prog 10 #[sv n p rs.length cap, .int .i64 k] w0 (Post (X := Unit) (fun _ => .bool true) (fun _ => True) (fun _ => []) w0) := by
  refine calls Try.func10 rfl (n := 72) rfl (by simp) ?_
  refine TC.seq ?_
  refine TC.region ?_
  refine TL.box rfl rfl (by decide) (fun b0 hb0 => ?_)
  refine TL.pure (PV.assign rfl) rfl (by decide) ?_
  refine TL.nil ?_
  refine TQ.thenC ?_
  refine TC.seq ?_
  refine TC.seq ?_
  refine TC.region ?_
  refine TL.pure (PV.loadBox rfl Tb.agg_24 (by repeat (first | exact List.Mem.head _ | refine List.Mem.tail _ ?_ | refine List.mem_append_right _ ?_)) rfl) rfl (by decide) ?_
  refine TL.call rfl Tb.gofn_17 (fun a w hs => long_ok w _ _ _ _) rfl (by decide) (fun _ _ => ?_)
  refine TL.nil ?_
  refine TQ.thenC ?_
  first | refine TC.condD rfl (fun hlong => ?_) (fun hlong => ?_) | refine TC.cond rfl (fun hlong => ?_) (fun hlong => ?_)
  · skip
    refine TC.seq ?_
    refine TC.region ?_
    refine TL.call rfl Tb.gofn_18 (fun a w hs => known_ok w) rfl (by decide) (fun _ _ => ?_)
    refine TL.pure (PV.assign rfl) rfl (by decide) ?_
    refine TL.nil ?_
    refine TQ.thenC ?_
    refine TC.ret ?_
    refine TQ.thenR ?_
    refine TQ.retE1 rfl rfl ?_
    first | exact ⟨(), rfl, trivial, List.nil_sublist _⟩ | (exfalso; rw [brB_share (by omega)] at hb; simp at hb; done) | (exfalso; simp_all; done)
  · skip
    refine TC.skip ?_
    refine TQ.thenC ?_
    refine TC.seq ?_
    refine TC.region ?_
    refine TL.pure (PV.loadBox rfl Tb.agg_24 (by repeat (first | exact List.Mem.head _ | refine List.Mem.tail _ ?_ | refine List.mem_append_right _ ?_)) rfl) rfl (by decide) ?_
    refine TL.pure (PV.move rfl) rfl (by decide) ?_
    refine TL.call rfl Tb.gofn_46 (fun a w hs => share_ok w _ _ _ _ (hr.new hs.new) k) rfl (by decide) (fun _ _ => ?_)
    refine TL.pure (PV.move rfl) rfl (by decide) ?_
    refine TL.pure (PV.extract rfl rfl) rfl (by decide) ?_
    refine TL.pure (PV.extract rfl rfl) rfl (by decide) ?_
    refine TL.alloc Tb.zero_46 rfl (by decide) (fun b1 hb1 => ?_)
    refine TL.storeAgg rfl rfl Tb.cells_46 (by repeat (first | exact Upd.head _ | apply Upd.tail | apply Upd.appR)) rfl rfl rfl rfl rfl ?_
    refine TL.pure (PV.assign rfl) rfl (by decide) ?_
    refine TL.nil ?_
    refine TQ.thenC ?_
    refine TC.seq ?_
    refine TC.region ?_
    refine TL.pure (PV.loadBox rfl Tb.agg_24 (by repeat (first | exact List.Mem.head _ | refine List.Mem.tail _ ?_ | refine List.mem_append_right _ ?_)) rfl) rfl (by decide) ?_
    refine TL.pure (PV.move rfl) rfl (by decide) ?_
    refine TL.call rfl Tb.gofn_47 (fun a w hs => rShare_ok w _ _ _ _ (hr.new hs.new) (by omega) k) rfl (by decide) (fun _ _ => ?_)
    refine TL.pure (PV.move rfl) rfl (by decide) ?_
    refine TL.pure (PV.extract rfl rfl) rfl (by decide) ?_
    refine TL.pure (PV.extract rfl rfl) rfl (by decide) ?_
    refine TL.alloc Tb.zero_46 rfl (by decide) (fun b2 hb2 => ?_)
    refine TL.storeAgg rfl rfl Tb.cells_46 (by repeat (first | exact Upd.head _ | apply Upd.tail | apply Upd.appR)) rfl rfl rfl rfl rfl ?_
    refine TL.pure (PV.assign rfl) rfl (by decide) ?_
    refine TL.nil ?_
    refine TQ.thenC ?_
    refine TC.seq ?_
    refine TC.region ?_
    refine TL.pure (PV.loadBox rfl Tb.agg_24 (by repeat (first | exact List.Mem.head _ | refine List.Mem.tail _ ?_ | refine List.mem_append_right _ ?_)) rfl) rfl (by decide) ?_
    refine TL.pure (PV.move rfl) rfl (by decide) ?_
    refine TL.call rfl Tb.gofn_48 (fun a w hs => isBridge_ok w _ _ _ _ (hr.new hs.new) (by omega) k) rfl (by decide) (fun _ _ => ?_)
    refine TL.pure (PV.move rfl) rfl (by decide) ?_
    refine TL.pure (PV.extract rfl rfl) rfl (by decide) ?_
    refine TL.pure (PV.extract rfl rfl) rfl (by decide) ?_
    refine TL.pure (PV.assign rfl) rfl (by decide) ?_
    refine TL.pure (PV.assign rfl) rfl (by decide) ?_
    refine TL.nil ?_
    refine TQ.thenC ?_
    refine TC.seq ?_
    refine TC.region ?_
    refine TL.pure (PV.loadBox rfl Tb.agg_24 (by repeat (first | exact List.Mem.head _ | refine List.Mem.tail _ ?_ | refine List.mem_append_right _ ?_)) rfl) rfl (by decide) ?_
    refine TL.pure (PV.move rfl) rfl (by decide) ?_
    refine TL.call rfl Tb.gofn_49 (fun a w hs => rIsBridge_ok w _ _ _ _ (hr.new hs.new) hc (by omega) k) rfl (by decide) (fun _ _ => ?_)
    refine TL.pure (PV.move rfl) rfl (by decide) ?_
    refine TL.pure (PV.extract rfl rfl) rfl (by decide) ?_
    refine TL.pure (PV.extract rfl rfl) rfl (by decide) ?_
    refine TL.pure (PV.assign rfl) rfl (by decide) ?_
    refine TL.pure (PV.assign rfl) rfl (by decide) ?_
    refine TL.nil ?_
    refine TQ.thenC ?_
    refine TC.seq ?_
    refine TC.region ?_
    refine TL.pure (PV.loadBox rfl Tb.agg_46 (by repeat (first | exact List.Mem.head _ | refine List.Mem.tail _ ?_ | refine List.mem_append_right _ ?_)) rfl) rfl (by decide) ?_
    refine TL.pure (PV.loadBox rfl Tb.agg_46 (by repeat (first | exact List.Mem.head _ | refine List.Mem.tail _ ?_ | refine List.mem_append_right _ ?_)) rfl) rfl (by decide) ?_
    refine TL.pure (PV.cmp rfl rfl (eq46_guard _ _ _ _ _ _) (eq46 _ _ _ _)) rfl (by decide) ?_
    refine TL.pure (PV.move rfl) rfl (by decide) ?_
    first | refine TL.splitD 43 rfl (fun h1 => ?_) (fun h1 => ?_) | refine TL.split 43 rfl (fun h1 => ?_) (fun h1 => ?_)
    · skip
      refine TL.pure (PV.move rfl) rfl (by decide) ?_
      refine TL.pure (PV.move rfl) rfl (by decide) ?_
      refine TL.pure (PV.eql rfl rfl) rfl (by decide) ?_
      refine TL.pure (PV.pickT rfl rfl) rfl (by decide) ?_
      refine TL.pure (PV.move rfl) rfl (by decide) ?_
      first | refine TL.splitD 48 rfl (fun h2 => ?_) (fun h2 => ?_) | refine TL.split 48 rfl (fun h2 => ?_) (fun h2 => ?_)
      · skip
        refine TL.pure (PV.move rfl) rfl (by decide) ?_
        refine TL.pure (PV.move rfl) rfl (by decide) ?_
        refine TL.pure (PV.eqlB rfl rfl Tb.bool_4) rfl (by decide) ?_
        refine TL.pure (PV.pickT rfl rfl) rfl (by decide) ?_
        refine TL.pure (PV.move rfl) rfl (by decide) ?_
        first | refine TL.splitD 53 rfl (fun h3 => ?_) (fun h3 => ?_) | refine TL.split 53 rfl (fun h3 => ?_) (fun h3 => ?_)
        · skip
          refine TL.pure (PV.move rfl) rfl (by decide) ?_
          refine TL.pure (PV.move rfl) rfl (by decide) ?_
          refine TL.pure (PV.eql rfl rfl) rfl (by decide) ?_
          refine TL.pure (PV.pickT rfl rfl) rfl (by decide) ?_
          refine TL.pure (PV.move rfl) rfl (by decide) ?_
          first | refine TL.splitD 58 rfl (fun h4 => ?_) (fun h4 => ?_) | refine TL.split 58 rfl (fun h4 => ?_) (fun h4 => ?_)
          · skip
            refine TL.pure (PV.move rfl) rfl (by decide) ?_
            refine TL.pure (PV.neq rfl rfl) rfl (by decide) ?_
            refine TL.pure (PV.move rfl) rfl (by decide) ?_
            first | refine TL.splitD 61 rfl (fun g1 => ?_) (fun g1 => ?_) | refine TL.split 61 rfl (fun g1 => ?_) (fun g1 => ?_)
            · skip
              refine TL.skip rfl (fun k hk => by cases hk; decide) ?_
              refine TL.skip rfl (fun k hk => by cases hk; decide) ?_
              refine TL.skip rfl (fun k hk => by cases hk; decide) ?_
              refine TL.skip rfl (fun k hk => by cases hk; decide) ?_
              refine TL.skip rfl (fun k hk => by cases hk; decide) ?_
              refine TL.pure (PV.pickT rfl rfl) rfl (by decide) ?_
              refine TL.pure (PV.pickT rfl rfl) rfl (by decide) ?_
              refine TL.pure (PV.move rfl) rfl (by decide) ?_
              refine TL.call rfl Tb.gofn_18 (fun a w hs => known_ok w) rfl (by decide) (fun _ _ => ?_)
              refine TL.pure (PV.pickT rfl rfl) rfl (by decide) ?_
              refine TL.pure (PV.assign rfl) rfl (by decide) ?_
              refine TL.nil ?_
              refine TQ.thenC ?_
              refine TC.ret ?_
              refine TQ.retE1 rfl rfl ?_
              first | exact ⟨(), rfl, trivial, List.nil_sublist _⟩ | (exfalso; rw [brB_share (by omega)] at hb; simp at hb; done) | (exfalso; simp_all; done)
            · skip
              refine TL.pure (PV.move rfl) rfl (by decide) ?_
              refine TL.pure (PV.loadBox rfl Tb.agg_46 (by repeat (first | exact List.Mem.head _ | refine List.Mem.tail _ ?_ | refine List.mem_append_right _ ?_)) rfl) rfl (by decide) ?_
              refine TL.pure (PV.build (cs := #[.int .i64 1, .int .i64 1]) rfl Tb.zero_46 Tb.pl_46 (by kernel_rfl)) rfl (by decide) ?_
              refine TL.pure (PV.cmp rfl rfl (eq46_guard _ _ _ _ _ _) (eq46 _ _ _ _)) rfl (by decide) ?_
              refine TL.pure (PV.eqlB rfl rfl Tb.bool_4) rfl (by decide) ?_
              refine TL.pure (PV.pickF rfl rfl) rfl (by decide) ?_
              refine TL.pure (PV.pickT rfl rfl) rfl (by decide) ?_
              refine TL.pure (PV.move rfl) rfl (by decide) ?_
              first | refine TL.splitD 69 rfl (fun hb => ?_) (fun hb => ?_) | refine TL.split 69 rfl (fun hb => ?_) (fun hb => ?_)
              · skip
                refine TL.call rfl Tb.gofn_18 (fun a w hs => known_ok w) rfl (by decide) (fun _ _ => ?_)
                refine TL.pure (PV.pickT rfl rfl) rfl (by decide) ?_
                refine TL.pure (PV.assign rfl) rfl (by decide) ?_
                refine TL.nil ?_
                refine TQ.thenC ?_
                refine TC.ret ?_
                refine TQ.retE1 rfl rfl ?_
                first | exact ⟨(), rfl, trivial, List.nil_sublist _⟩ | (exfalso; rw [brB_share (by omega)] at hb; simp at hb; done) | (exfalso; simp_all; done)
              · skip
                refine TL.skip rfl (fun k hk => by cases hk; decide) ?_
                refine TL.pure (PV.pickF rfl rfl) rfl (by decide) ?_
                refine TL.pure (PV.assign rfl) rfl (by decide) ?_
                refine TL.nil ?_
                refine TQ.thenC ?_
                refine TC.ret ?_
                refine TQ.retE1 rfl rfl ?_
                first | exact ⟨(), rfl, trivial, List.nil_sublist _⟩ | (exfalso; rw [brB_share (by omega)] at hb; simp at hb; done) | (exfalso; simp_all; done)
          · skip
            refine TL.skip rfl (fun k hk => by cases hk; decide) ?_
            refine TL.skip rfl (fun k hk => by cases hk; decide) ?_
            refine TL.skip rfl (fun k hk => by cases hk; decide) ?_
            refine TL.skipU rfl (fun k hk => by cases hk; decide) ?_
            refine TL.skipU rfl (fun k hk => by cases hk; decide) ?_
            refine TL.skipU rfl (fun k hk => by cases hk; decide) ?_
            refine TL.skipU rfl (fun k hk => by cases hk; decide) ?_
            refine TL.skipU rfl (fun k hk => by cases hk; decide) ?_
            refine TL.skip rfl (fun k hk => by cases hk; decide) ?_
            refine TL.pure (PV.pickF rfl rfl) rfl (by decide) ?_
            refine TL.pure (PV.move rfl) rfl (by decide) ?_
            refine TL.skip rfl (fun k hk => by cases hk; decide) ?_
            refine TL.pure (PV.pickF rfl rfl) rfl (by decide) ?_
            refine TL.pure (PV.assign rfl) rfl (by decide) ?_
            refine TL.nil ?_
            refine TQ.thenC ?_
            refine TC.ret ?_
            refine TQ.retE1 rfl rfl ?_
            first | exact ⟨(), rfl, trivial, List.nil_sublist _⟩ | (exfalso; rw [brB_share (by omega)] at hb; simp at hb; done) | (exfalso; simp_all; done)
        · skip
          refine TL.skip rfl (fun k hk => by cases hk; decide) ?_
          refine TL.skip rfl (fun k hk => by cases hk; decide) ?_
          refine TL.skip rfl (fun k hk => by cases hk; decide) ?_
          refine TL.pure (PV.pickF rfl rfl) rfl (by decide) ?_
          refine TL.pure (PV.move rfl) rfl (by decide) ?_
          refine TL.skip rfl (fun k hk => by cases hk; decide) ?_
          refine TL.skip rfl (fun k hk => by cases hk; decide) ?_
          refine TL.skip rfl (fun k hk => by cases hk; decide) ?_
          refine TL.skipU rfl (fun k hk => by cases hk; decide) ?_
          refine TL.skipU rfl (fun k hk => by cases hk; decide) ?_
          refine TL.skipU rfl (fun k hk => by cases hk; decide) ?_
          refine TL.skipU rfl (fun k hk => by cases hk; decide) ?_
          refine TL.skipU rfl (fun k hk => by cases hk; decide) ?_
          refine TL.skip rfl (fun k hk => by cases hk; decide) ?_
          refine TL.pure (PV.pickF rfl rfl) rfl (by decide) ?_
          refine TL.pure (PV.move rfl) rfl (by decide) ?_
          refine TL.skip rfl (fun k hk => by cases hk; decide) ?_
          refine TL.pure (PV.pickF rfl rfl) rfl (by decide) ?_
          refine TL.pure (PV.assign rfl) rfl (by decide) ?_
          refine TL.nil ?_
          refine TQ.thenC ?_
          refine TC.ret ?_
          refine TQ.retE1 rfl rfl ?_
          first | exact ⟨(), rfl, trivial, List.nil_sublist _⟩ | (exfalso; rw [brB_share (by omega)] at hb; simp at hb; done) | (exfalso; simp_all; done)
      · skip
        refine TL.skip rfl (fun k hk => by cases hk; decide) ?_
        refine TL.skip rfl (fun k hk => by cases hk; decide) ?_
        refine TL.skip rfl (fun k hk => by cases hk; decide) ?_
        refine TL.pure (PV.pickF rfl rfl) rfl (by decide) ?_
        refine TL.pure (PV.move rfl) rfl (by decide) ?_
        refine TL.skip rfl (fun k hk => by cases hk; decide) ?_
        refine TL.skip rfl (fun k hk => by cases hk; decide) ?_
        refine TL.skip rfl (fun k hk => by cases hk; decide) ?_
        refine TL.pure (PV.pickF rfl rfl) rfl (by decide) ?_
        refine TL.pure (PV.move rfl) rfl (by decide) ?_
        refine TL.skip rfl (fun k hk => by cases hk; decide) ?_
        refine TL.skip rfl (fun k hk => by cases hk; decide) ?_
        refine TL.skip rfl (fun k hk => by cases hk; decide) ?_
        refine TL.skipU rfl (fun k hk => by cases hk; decide) ?_
        refine TL.skipU rfl (fun k hk => by cases hk; decide) ?_
        refine TL.skipU rfl (fun k hk => by cases hk; decide) ?_
        refine TL.skipU rfl (fun k hk => by cases hk; decide) ?_
        refine TL.skipU rfl (fun k hk => by cases hk; decide) ?_
        refine TL.skip rfl (fun k hk => by cases hk; decide) ?_
        refine TL.pure (PV.pickF rfl rfl) rfl (by decide) ?_
        refine TL.pure (PV.move rfl) rfl (by decide) ?_
        refine TL.skip rfl (fun k hk => by cases hk; decide) ?_
        refine TL.pure (PV.pickF rfl rfl) rfl (by decide) ?_
        refine TL.pure (PV.assign rfl) rfl (by decide) ?_
        refine TL.nil ?_
        refine TQ.thenC ?_
        refine TC.ret ?_
        refine TQ.retE1 rfl rfl ?_
        first | exact ⟨(), rfl, trivial, List.nil_sublist _⟩ | (exfalso; rw [brB_share (by omega)] at hb; simp at hb; done) | (exfalso; simp_all; done)
    · skip
      refine TL.skip rfl (fun k hk => by cases hk; decide) ?_
      refine TL.skip rfl (fun k hk => by cases hk; decide) ?_
      refine TL.skip rfl (fun k hk => by cases hk; decide) ?_
      refine TL.pure (PV.pickF rfl rfl) rfl (by decide) ?_
      refine TL.pure (PV.move rfl) rfl (by decide) ?_
      refine TL.skip rfl (fun k hk => by cases hk; decide) ?_
      refine TL.skip rfl (fun k hk => by cases hk; decide) ?_
      refine TL.skip rfl (fun k hk => by cases hk; decide) ?_
      refine TL.pure (PV.pickF rfl rfl) rfl (by decide) ?_
      refine TL.pure (PV.move rfl) rfl (by decide) ?_
      refine TL.skip rfl (fun k hk => by cases hk; decide) ?_
      refine TL.skip rfl (fun k hk => by cases hk; decide) ?_
      refine TL.skip rfl (fun k hk => by cases hk; decide) ?_
      refine TL.pure (PV.pickF rfl rfl) rfl (by decide) ?_
      refine TL.pure (PV.move rfl) rfl (by decide) ?_
      refine TL.skip rfl (fun k hk => by cases hk; decide) ?_
      refine TL.skip rfl (fun k hk => by cases hk; decide) ?_
      refine TL.skip rfl (fun k hk => by cases hk; decide) ?_
      refine TL.skipU rfl (fun k hk => by cases hk; decide) ?_
      refine TL.skipU rfl (fun k hk => by cases hk; decide) ?_
      refine TL.skipU rfl (fun k hk => by cases hk; decide) ?_
      refine TL.skipU rfl (fun k hk => by cases hk; decide) ?_
      refine TL.skipU rfl (fun k hk => by cases hk; decide) ?_
      refine TL.skip rfl (fun k hk => by cases hk; decide) ?_
      refine TL.pure (PV.pickF rfl rfl) rfl (by decide) ?_
      refine TL.pure (PV.move rfl) rfl (by decide) ?_
      refine TL.skip rfl (fun k hk => by cases hk; decide) ?_
      refine TL.pure (PV.pickF rfl rfl) rfl (by decide) ?_
      refine TL.pure (PV.assign rfl) rfl (by decide) ?_
      refine TL.nil ?_
      refine TQ.thenC ?_
      refine TC.ret ?_
      refine TQ.retE1 rfl rfl ?_
      first | exact ⟨(), rfl, trivial, List.nil_sublist _⟩ | (exfalso; rw [brB_share (by omega)] at hb; simp at hb; done) | (exfalso; simp_all; done)

theorem levelShares_all (w0 : World) (n : Int) (p : Option Addr) (cap : Nat) (rs : List Rd) (hr : RdsAt w0 p rs) (hc : rs.length ≤ cap) (k : Int) (_ : I64 k) :
    Calls Try.prog 10 #[sv n p rs.length cap, .int .i64 k] w0 (Post (X := Unit) (fun _ => .bool true) (fun _ => True) (fun _ => []) w0) := levelShares_ok w0 n p cap rs hr hc k
end Go.Proofs.Ytmmgcajegokkoaa

/- Surveys without a reading, and with a reading turned: the statement's own function. -/
import Derived.Test.YtmmgcajegokkoaaRC
import Derived.Test.YtmmgcajegokkoaaMr
import Derived.Test.YtmmgcajegokkoaaMn
import Derived.Test.YtmmgcajegokkoaaRs
import Derived.Test.YtmmgcajegokkoaaS1
import Derived.Test.YtmmgcajegokkoaaOq
namespace Go.Proofs.Ytmmgcajegokkoaa
open Go.Sx Go.RowKit

/-- A part of a list of readings in memory. -/
theorem RdsAt.cut {w : World} {p : Option Addr} {rs : List Rd} {cap : Nat} (h : RdsAt w p rs) (hc : rs.length ≤ cap) (l m : Nat) : RdsAt w (cutA p cap l 4) ((rs.drop l).take m) := fun j hj => by
  have hj2 : j < m ∧ j < rs.length - l := by simp at hj; omega
  obtain ⟨q, rfl, hq⟩ := h (l + j) (by omega)
  refine ⟨q.add (l * 4), ?_, fun i v hv => ?_⟩
  · unfold cutA
    rw [if_neg (by omega)]
    rfl
  · rw [addr_add_add, addr_add_add, show l * 4 + (j * 4 + i) = (l + j) * 4 + i by omega, ← addr_add_add]
    refine hq i v ?_
    have h1 : l + j < rs.length := by omega
    have e : ((rs.drop l).take m).getD j default = rs.getD (l + j) default := by simp [List.getD, hj2.1, h1]
    rw [e] at hv
    exact hv
theorem RdsAt.front {w : World} {p : Option Addr} {rs : List Rd} {cap : Nat} (h : RdsAt w p rs) (hc : rs.length ≤ cap) (k : Nat) : RdsAt w (cutA p cap 0 4) (rs.take k) := by
  have := h.cut hc 0 k
  rwa [List.drop_zero] at this
theorem RdsAt.back {w : World} {p : Option Addr} {rs : List Rd} {cap : Nat} (h : RdsAt w p rs) (hc : rs.length ≤ cap) (k : Nat) : RdsAt w (cutA p cap k 4) (rs.drop k) := by
  have := h.cut hc k rs.length
  rwa [List.take_of_length_le (by simp)] at this
theorem take_len {rs : List Rd} {k : Nat} (hk : k < rs.length) : (rs.take k).length = k := by simp; omega
theorem drop_len (rs : List Rd) (k : Nat) : (rs.drop k).length = rs.length - k := by simp
theorem del_go {h : HD} {rs : List Rd} {k : Nat} (ho : goS h ([] ++ rs.take k ++ rs.drop (k + 1))) : goS h (del rs k) := ho


set_option maxRecDepth 100000 in
set_option maxHeartbeats 1000000 in
theorem less_ok (w0 : World) (n : Int) (p : Option Addr) (cap : Nat) (rs : List Rd) (hr : RdsAt w0 p rs) (hc : rs.length ≤ cap) (hl : rs.length ≤ 1000) (k : Nat) (hk : k < rs.length) :
    Calls Try.prog 89 #[sv n p rs.length cap, .int .i64 k] w0 (Post (X := HD) (fun h => .agg #[.int .i64 n, gval h (rs.length - 1)]) (fun h => goS h (del rs k)) (fun h => gbS h (del rs k)) w0) := by
  have hA := hr.front hc k
  have hB := hr.back hc (k + 1)
  have hAl := take_len hk
  have hBl := drop_len rs (k + 1)
  refine calls Try.func89 rfl (n := 20) rfl (by simp) ?_
  refine TC.seq ?_
  refine TC.region ?_
  refine TL.box rfl rfl (by decide) (fun b0 hb0 => ?_)
  refine TL.alloc Tb.zero_24 rfl (by decide) (fun b1 hb1 => ?_)
  refine TL.nil ?_
  refine TQ.thenC ?_
  refine TC.seq ?_
  refine TC.mix [true, true, false, true, true, true, true, false, true, true, true, true, true, false, false, false] _ 5 Tb.mixed rfl (by kernel_rfl) (by kernel_rfl) (by kernel_rfl) (by kernel_rfl) (List.Sublist.refl _) ?_
  refine TB.op (SOK.pure (PV.fieldAddr rfl Tb.fo_24_0) rfl) (by decide) ?_
  refine TB.op (SOK.pure (PV.load rfl Tb.one_3 (by repeat (first | exact List.Mem.head _ | refine List.Mem.tail _ ?_ | refine List.mem_append_right _ ?_)) rfl) rfl) (by decide) ?_
  refine TB.no ?_
  refine TB.op (SOK.pure (PV.fieldAddr rfl Tb.fo_24_1) rfl) (by decide) ?_
  refine TB.op (SOK.pure (PV.load rfl Tb.one_22 (by repeat (first | exact List.Mem.head _ | refine List.Mem.tail _ ?_ | refine List.mem_append_right _ ?_)) rfl) rfl) (by decide) ?_
  refine TB.op (SOK.pure (PV.move rfl) rfl) (by decide) ?_
  refine TB.op (SOK.pure (PV.sliceH rfl rfl Tb.elm_22 rfl (by omega)) rfl) (by decide) ?_
  refine TB.no ?_
  refine TB.op (SOK.pure (PV.fieldAddr rfl Tb.fo_24_1) rfl) (by decide) ?_
  refine TB.op (SOK.pure (PV.load rfl Tb.one_22 (by repeat (first | exact List.Mem.head _ | refine List.Mem.tail _ ?_ | refine List.mem_append_right _ ?_)) rfl) rfl) (by decide) ?_
  refine TB.op (SOK.pure (PV.move rfl) rfl) (by decide) ?_
  refine TB.op (SOK.pure (PV.add rfl rfl (by omega)) rfl) (by decide) ?_
  refine TB.op (SOK.pure (PV.sliceL (l := k + 1) rfl rfl Tb.elm_22 (by omega) (by omega)) rfl) (by decide) ?_
  refine TB.no ?_
  refine TB.no ?_
  refine TB.no ?_
  refine TB.fin ?_
  refine TX.step [2] (by kernel_rfl) (by decide) ⟨⟨_, rfl, ?_⟩, trivial⟩
  refine TL.buildSlice0 Tb.sl_22 Tb.zi_61 rfl (by decide) (fun bE hbE => ?_)
  refine TL.nil ?_
  refine TX.next (.inl (by repeat (first | exact List.Sublist.slnil | exact List.nil_sublist _ | exact List.Sublist.refl _ | refine List.Sublist.cons_cons _ ?_ | refine List.Sublist.cons _ ?_ | refine List.Sublist.trans ?_ (List.sublist_append_right _ _)))) ?_
  refine TX.step [7] (by kernel_rfl) (by decide) ⟨⟨_, rfl, ?_⟩, trivial⟩
  refine TL.appendRS (h0 := some (bE, 0, [])) (ys := []) (K0 := 0) (K := k) rfl rfl rfl hAl (fun w' hN => hA.new hN) ⟨rfl, rfl, Nat.le_refl _⟩ (TakeH.here (some (bE, 0, [])) 61 [] _) (by omega) rfl (by decide) (fun h1 hh1 => ?_)
  refine TL.nil ?_
  refine TX.next (.inl (by repeat (first | exact List.Sublist.slnil | exact List.nil_sublist _ | exact List.Sublist.refl _ | refine List.Sublist.cons_cons _ ?_ | refine List.Sublist.cons _ ?_ | refine List.Sublist.trans ?_ (List.sublist_append_right _ _)))) ?_
  refine TX.step [13] (by kernel_rfl) (by decide) ⟨⟨_, rfl, ?_⟩, trivial⟩
  refine TL.appendRS (h0 := h1) (ys := [] ++ rs.take k) (K0 := 0 + k) rfl rfl (by rw [List.nil_append, hAl]; omega) hBl (fun w' hN => hB.new hN) hh1 (TakeH.here _ _ _ _) (by omega) rfl (by decide) (fun h2 hh2 => ?_)
  refine TL.nil ?_
  refine TX.next (.inl (by repeat (first | exact List.Sublist.slnil | exact List.nil_sublist _ | exact List.Sublist.refl _ | refine List.Sublist.cons_cons _ ?_ | refine List.Sublist.cons _ ?_ | refine List.Sublist.trans ?_ (List.sublist_append_right _ _)))) ?_
  refine TX.step [14] (by kernel_rfl) (by decide) ⟨⟨_, rfl, ?_⟩, trivial⟩
  refine TL.pure (PV.build rfl Tb.zero_24 Tb.pl_24 (fill_sv _ _ _)) rfl (by decide) ?_
  refine TL.nil ?_
  refine TX.next (.inl (by repeat (first | exact List.Sublist.slnil | exact List.nil_sublist _ | exact List.Sublist.refl _ | refine List.Sublist.cons_cons _ ?_ | refine List.Sublist.cons _ ?_ | refine List.Sublist.trans ?_ (List.sublist_append_right _ _)))) ?_
  refine TX.step [15] (by kernel_rfl) (by decide) ⟨⟨_, rfl, ?_⟩, trivial⟩
  refine TL.storeAgg rfl rfl Tb.cells_24 (by repeat (first | exact Upd.head _ | apply Upd.tail | apply Upd.appR)) rfl rfl (by first | rfl | exact sv_one _ _ _) rfl rfl ?_
  refine TL.nil ?_
  refine TX.next (.inr (by kernel_rfl)) ?_
  refine TX.done (by kernel_rfl) ?_
  refine TQ.thenC ?_
  refine TC.ret ?_
  refine TQ.retR rfl (Res.agg rfl Tb.agg_24 (by repeat (first | exact List.Mem.head _ | refine List.Mem.tail _ ?_ | refine List.mem_append_right _ ?_)) rfl Res.nil) ?_
  simp only [tup]
  exact ⟨h2, by rw [show 0 + k + (rs.length - (k + 1)) = rs.length - 1 by omega], del_go hh2, List.sublist_append_left _ _⟩

end Go.Proofs.Ytmmgcajegokkoaa

namespace Go.Proofs.Ytmmgcajegokkoaa
open Go.Sx Go.RowKit

theorem wholeS (w : World) {n : Int} {h : HD} {K : Nat} {rs : List Rd} (hK : rs.length = K) (ho : goS h rs) (hr : RdsAt w (gp h) rs) (hv : Valid n rs) :
    Calls Try.prog 62 #[.agg #[.int .i64 n, gval h K]] w (Post (X := Nat) (fun b => .slice (some ⟨b, 0, none⟩) n.toNat n.toNat) (fun _ => True) (fun b => [arrI b (firstsL n rs)]) w) := by
  have hc := whole_ok w n (gp h) (gc h) rs hr hv
  rw [gvS_eq ho hK]; subst hK
  exact hc
/-- Whether a reading is a bridge: its ends fall apart without it. -/
def brB (n : Int) (rs : List Rd) (k : Int) : Bool := decide (shE n rs k = 0 ∧ ¬ (firstsL n (del rs k.toNat)).getD (rs.getD k.toNat default).fr.toNat 0 = (firstsL n (del rs k.toNat)).getD (rs.getD k.toNat default).to.toNat 0)


set_option maxRecDepth 100000 in
set_option maxHeartbeats 1000000 in
theorem rIsBridge_ok (w0 : World) (n : Int) (p : Option Addr) (cap : Nat) (rs : List Rd) (hr : RdsAt w0 p rs) (hc : rs.length ≤ cap) (hl : rs.length ≤ 1000) (k : Int) :
    Calls Try.prog 49 #[sv n p rs.length cap, .int .i64 k] w0 (Post (X := Unit) (fun _ => .tuple #[.bool (brB n rs k), .int .i64 (shE n rs k)]) (fun _ => True) (fun _ => []) w0) := by
  refine calls Try.func49 rfl (n := 37) rfl (by simp) ?_
  refine TC.seq ?_
  refine TC.region ?_
  refine TL.box rfl rfl (by decide) (fun b0 hb0 => ?_)
  refine TL.pure (PV.assign rfl) rfl (by decide) ?_
  refine TL.pure (PV.assign rfl) rfl (by decide) ?_
  refine TL.nil ?_
  refine TQ.thenC ?_
  refine TC.seq ?_
  refine TC.seq ?_
  refine TC.region ?_
  refine TL.pure (PV.loadBox rfl Tb.agg_24 (by repeat (first | exact List.Mem.head _ | refine List.Mem.tail _ ?_ | refine List.mem_append_right _ ?_)) rfl) rfl (by decide) ?_
  refine TL.pure (PV.move rfl) rfl (by decide) ?_
  refine TL.call rfl Tb.gofn_87 (fun a w hs => numbered_ok w _ _ _ _ (hr.new hs.new) (by omega) k) rfl (by decide) (fun _ _ => ?_)
  refine TL.pure (PV.assign rfl) rfl (by decide) ?_
  refine TL.nil ?_
  refine TQ.thenC ?_
  refine TC.seq ?_
  refine TC.region ?_
  refine TL.pure (PV.move rfl) rfl (by decide) ?_
  refine TL.pure (PV.neq rfl rfl) rfl (by decide) ?_
  refine TL.nil ?_
  refine TQ.thenC ?_
  first | refine TC.condD rfl (fun hne => ?_) (fun hne => ?_) | refine TC.cond rfl (fun hne => ?_) (fun hne => ?_)
  · skip
    refine TC.seq ?_
    refine TC.region ?_
    refine TL.pure (PV.move rfl) rfl (by decide) ?_
    refine TL.pure (PV.assign rfl) rfl (by decide) ?_
    refine TL.pure (PV.assign rfl) rfl (by decide) ?_
    refine TL.nil ?_
    refine TQ.thenC ?_
    refine TC.ret ?_
    refine TQ.thenR ?_
    refine TQ.retE2 rfl rfl rfl ?_
    exact ⟨(), by rw [show brB n rs k = false from decide_eq_false (fun h => hne h.1)], trivial, List.nil_sublist _⟩
  · skip
    refine TC.skip ?_
    refine TQ.thenC ?_
    refine TC.seq ?_
    have hz : shE n rs k = 0 := by omega
    obtain ⟨hv, hk0, hkl⟩ := shE_ok hz
    obtain ⟨kn, rfl⟩ : ∃ kn : Nat, k = kn := ⟨k.toNat, by omega⟩
    rw [Int.toNat_natCast] at hkl
    obtain ⟨q, hqp, hqa⟩ := hr kn hkl
    have hq0 := hqa 0 _ rfl
    have hq1 := hqa 1 _ rfl
    have hat := hv.at hkl
    have hfl : (firstsL n (del rs kn)).length = n.toNat := by first | exact firstsL_len _ _ | simp [firstsL]
    refine TC.region ?_
    refine TL.pure (PV.loadBox rfl Tb.agg_24 (by repeat (first | exact List.Mem.head _ | refine List.Mem.tail _ ?_ | refine List.mem_append_right _ ?_)) rfl) rfl (by decide) ?_
    refine TL.pure (PV.move rfl) rfl (by decide) ?_
    refine TL.call rfl Tb.gofn_89 (fun a w hs => less_ok w n p cap rs (hr.new hs.new) hc hl kn (by omega)) rfl (by decide) (fun h1 hh1 => ?_)
    refine TL.call rfl Tb.gofn_62 (fun a w hs => wholeS w (by have := del_len (rs := rs) (k := kn) (by omega); omega) hh1 (RdsAt.s hs.new (fun yy hyy => by first | exact List.mem_append_left _ hyy | (simp only [List.mem_append, List.mem_cons]; simp [hyy])) hh1) (hv.del (by omega))) rfl (by decide) (fun bF _ => ?_)
    refine TL.pure (PV.assign rfl) rfl (by decide) ?_
    refine TL.nil ?_
    refine TQ.thenC ?_
    refine TC.seq ?_
    refine TC.any Tb.mixed rfl rfl ?_
    refine TA.op (OpOK.pure (PV.move rfl) rfl (by decide)) (by decide) ?_
    refine TA.op (OpOK.pure (PV.fieldAddr rfl Tb.fo_24_1) rfl (by decide)) (by decide) ?_
    refine TA.op (OpOK.pure (PV.load rfl Tb.one_22 (by repeat (first | exact List.Mem.head _ | refine List.Mem.tail _ ?_ | refine List.mem_append_right _ ?_)) rfl) rfl (by decide)) (by decide) ?_
    refine TA.op (OpOK.pure (PV.move rfl) rfl (by decide)) (by decide) ?_
    refine TA.op (OpOK.pure (PV.indexA rfl hqp rfl Tb.elm_22 rfl (by omega)) rfl (by decide)) (by decide) ?_
    refine TA.op (OpOK.pure (PV.fieldAddrA rfl Tb.fo_61_0) rfl (by decide)) (by decide) ?_
    refine TA.op (OpOK.pure (PV.loadOld rfl Tb.one_3 hq0) rfl (by decide)) (by decide) ?_
    refine TA.op (OpOK.pure (PV.index1 rfl rfl Tb.elm_31 (Int.toNat_of_nonneg (by omega)).symm (by omega)) rfl (by decide)) (by decide) ?_
    refine TA.op (OpOK.pure (PV.loadI rfl Tb.one_3 (by repeat (first | exact List.Mem.head _ | refine List.Mem.tail _ ?_ | refine List.mem_append_right _ ?_)) (by omega)) rfl (by decide)) (by decide) ?_
    refine TA.op (OpOK.pure (PV.move rfl) rfl (by decide)) (by decide) ?_
    refine TA.op (OpOK.pure (PV.fieldAddr rfl Tb.fo_24_1) rfl (by decide)) (by decide) ?_
    refine TA.op (OpOK.pure (PV.load rfl Tb.one_22 (by repeat (first | exact List.Mem.head _ | refine List.Mem.tail _ ?_ | refine List.mem_append_right _ ?_)) rfl) rfl (by decide)) (by decide) ?_
    refine TA.op (OpOK.pure (PV.move rfl) rfl (by decide)) (by decide) ?_
    refine TA.op (OpOK.pure (PV.indexA rfl hqp rfl Tb.elm_22 rfl (by omega)) rfl (by decide)) (by decide) ?_
    refine TA.op (OpOK.pure (PV.fieldAddrA rfl Tb.fo_61_1) rfl (by decide)) (by decide) ?_
    refine TA.op (OpOK.pure (PV.loadOld rfl Tb.one_3 hq1) rfl (by decide)) (by decide) ?_
    refine TA.op (OpOK.pure (PV.index1 rfl rfl Tb.elm_31 (Int.toNat_of_nonneg (by omega)).symm (by omega)) rfl (by decide)) (by decide) ?_
    refine TA.op (OpOK.pure (PV.loadI rfl Tb.one_3 (by repeat (first | exact List.Mem.head _ | refine List.Mem.tail _ ?_ | refine List.mem_append_right _ ?_)) (by omega)) rfl (by decide)) (by decide) ?_
    refine TA.op (OpOK.pure (PV.neq rfl rfl) rfl (by decide)) (by decide) ?_
    refine TA.op (OpOK.pure (PV.assign rfl) rfl (by decide)) (by decide) ?_
    refine TA.op (OpOK.pure (PV.assign rfl) rfl (by decide)) (by decide) ?_
    show TQ _ _ _ _ _
    refine TQ.thenC ?_
    refine TC.ret ?_
    refine TQ.retE2 rfl rfl rfl ?_
    exact ⟨(), by rw [hz]; simp only [brB, hz, Int.toNat_natCast, true_and], trivial, List.nil_sublist _⟩

end Go.Proofs.Ytmmgcajegokkoaa

namespace Go.Proofs.Ytmmgcajegokkoaa
open Go.Sx Go.RowKit

theorem parts_count {n : Int} {rs : List Rd} (hv : Valid n rs) {x : HD × List (HD × List Int)} (hx : PF n.toNat (firstsL n rs) n.toNat x) : (x.2.length : Int) + nonroots n.toNat rs = n := by
  have h1 : x.2.length = ((List.range n.toNat).filter fun p => (firstsL n rs).getD p 0 = (p : Int)).length := by
    have := congrArg List.length hx.eq
    simpa [partsK] using this
  have h2 := roots_count n.toNat rs n.toNat
  rw [hv.nat.2] at h2
  rw [h1]
  exact h2
theorem brB_eq {n k : Int} {rs : List Rd} (h : shE n rs k = 0) {x y : HD × List (HD × List Int)} (hx : PF n.toNat (firstsL n (del rs k.toNat)) n.toNat x) (hy : PF n.toNat (firstsL n rs) n.toNat y) :
    brB n rs k = decide ((y.2.length : Int) < x.2.length) := by
  obtain ⟨hv, hk0, hk⟩ := shE_ok h
  have hv' := hv.del hk
  have c1 := parts_count hv' hx
  have c2 := parts_count hv hy
  have b := bridge_parts hv hk
  obtain ⟨i1, i2, _⟩ := rd_in hv hk
  have rf := root_firsts hv'.nat.1 i1 i2
  rw [hv.nat.2] at rf
  unfold brB
  rw [decide_eq_decide]
  constructor
  · rintro ⟨_, hne⟩
    have := b.1 (fun e => hne (rf.1 e))
    omega
  · intro hlt
    exact ⟨h, fun e => (b.2 (by omega)) (rf.2 e)⟩
theorem brB_share {n k : Int} {rs : List Rd} (h : shE n rs k = 0) : brB n rs k = decide (shN n rs k = 1 ∧ shD n rs k = 1) := by
  obtain ⟨hv, hk0, hk⟩ := shE_ok h
  obtain ⟨g, s⟩ := shIs h
  have b := bridge_share hv hk
  obtain ⟨i1, i2, _⟩ := rd_in hv hk
  have rf := root_firsts (hv.del hk).nat.1 i1 i2
  rw [hv.nat.2] at rf
  have hpos := s.pos
  have hnum := s.num
  have hden := s.den
  unfold brB
  rw [decide_eq_decide]
  constructor
  · rintro ⟨_, hne⟩
    have e := b.1 (fun e => hne (rf.1 e))
    have e2 : shN n rs k = shD n rs k := Int.eq_of_mul_eq_mul_right (show g ≠ 0 by omega) (by rw [hnum, hden]; exact e)
    obtain ⟨gg, hg⟩ := rIs hv.nat.1 i1 i2
    have hdp := hg.dpos
    have hc : Int.gcd (shN n rs k) (shD n rs k) = 1 := by
      rw [shN, if_pos h, shD, if_pos h]
      exact low_cop (show 0 < shY n rs k by unfold shY; omega)
    rw [e2, Int.gcd_self] at hc
    have := s.dpos
    omega
  · rintro ⟨e1, e2⟩
    rw [e1] at hnum
    rw [e2] at hden
    exact ⟨h, fun e => (b.2 (by rw [Int.one_mul] at hnum hden; exact hnum.symm.trans hden)) (rf.2 e)⟩

end Go.Proofs.Ytmmgcajegokkoaa

namespace Go.Proofs.Ytmmgcajegokkoaa
open Go.Sx Go.RowKit

theorem rdc_take (rs : List Rd) (k : Nat) : (rdc rs).take (k * 4) = rdc (rs.take k) := by
  induction rs generalizing k with
  | nil => simp [rdc]
  | cons a r ih =>
    cases k with
    | zero => simp [rdc]
    | succ k =>
      have e : rdc (a :: r) = a.cells ++ rdc r := by simp [rdc]
      rw [e, List.take_succ_cons, show rdc (a :: r.take k) = a.cells ++ rdc (r.take k) by simp [rdc], ← ih]
      rw [List.take_append, List.take_of_length_le (by simp; omega)]
      congr 2
      simp; omega
theorem rdc_drop (rs : List Rd) (k : Nat) : (rdc rs).drop (k * 4) = rdc (rs.drop k) := by
  induction rs generalizing k with
  | nil => simp [rdc]
  | cons a r ih =>
    cases k with
    | zero => simp [rdc]
    | succ k =>
      have e : rdc (a :: r) = a.cells ++ rdc r := by simp [rdc]
      rw [e, List.drop_succ_cons, ← ih]
      rw [List.drop_append, List.drop_of_length_le (by simp; omega), List.nil_append]
      congr 1
      simp; omega
def zr : List Value := [.int .i64 0, .int .i64 0, .int .i64 0, .int .i64 0]
theorem del_cells1 {rs : List Rd} {sp : List Value} {k : Nat} (hk : k < rs.length) :
    (rdc rs ++ sp).take (k * 4) ++ rdc (rs.drop (k + 1)) ++ (rdc rs ++ sp).drop (k * 4 + (rdc (rs.drop (k + 1))).length) = rdc (del rs k) ++ (rdc (rs.drop (rs.length - 1)) ++ sp) := by
  have hl := rdc_len rs
  rw [rdc_len, List.length_drop, show k * 4 + (rs.length - (k + 1)) * 4 = (rs.length - 1) * 4 by omega, List.take_append_of_le_length (by omega), List.drop_append_of_le_length (by omega), rdc_take, rdc_drop, ← rdc_app]
  rfl
theorem cells2 {A B sp zs : List Value} {m : Nat} (hA : A.length = m) (hB : B.length = zs.length) : (A ++ (B ++ sp)).take m ++ zs ++ (A ++ (B ++ sp)).drop (m + zs.length) = A ++ (zs ++ sp) := by
  subst hA
  rw [List.take_left, ← List.drop_drop, List.drop_left, ← hB, List.drop_left, List.append_assoc]
theorem del_cells2 {rs : List Rd} {sp : List Value} {k : Nat} (hk : k < rs.length) :
    (rdc (del rs k) ++ (rdc (rs.drop (rs.length - 1)) ++ sp)).take ((rs.length - 1) * 4) ++ zr ++ (rdc (del rs k) ++ (rdc (rs.drop (rs.length - 1)) ++ sp)).drop ((rs.length - 1) * 4 + zr.length) = rdc (del rs k) ++ (zr ++ sp) := by
  have h1 := del_len hk
  refine cells2 (by rw [rdc_len]; omega) ?_
  rw [rdc_len, List.length_drop, show zr.length = 4 from rfl]; omega
theorem del_go2 {rs : List Rd} {b cap : Nat} {sp : List Value} {k : Nat} (hk : k < rs.length) (ho : goS (some (b, cap, sp)) rs) : goS (some (b, cap, zr ++ sp)) (del rs k) := by
  obtain ⟨h1, h2, h3⟩ := ho
  have h4 := del_len hk
  have h5 := rdc_len rs
  have h6 := rdc_len (del rs k)
  refine ⟨h6, ?_, by omega⟩
  simp only [List.length_append, show zr.length = 4 from rfl]
  omega


set_option maxRecDepth 100000 in
set_option maxHeartbeats 1000000 in
theorem delete_ok (w0 w : World) (b cap : Nat) (sp : List Value) (rs : List Rd) (hl : rs.length ≤ 1000) (k : Nat) (hk : k < rs.length) (R : Heap) (ho : goS (some (b, cap, sp)) rs) (hN : New w0 w ((b, .cells (rdc rs ++ sp).toArray 61 (0, 0)) :: R)) :
    Calls Try.prog 102 #[.slice (some ⟨b, 0, none⟩) rs.length cap, .int .i64 k, .int .i64 (k + 1)] w (Post (X := Unit) (fun _ => .slice (some ⟨b, 0, none⟩) (rs.length - 1) cap) (fun _ => True) (fun _ => (b, .cells (rdc (del rs k) ++ (zr ++ sp)).toArray 61 (0, 0)) :: R) w0) := by
  have hcap := ho.2.2
  have hlen := rdc_len rs
  have hlen2 := rdc_len (rs.drop (k + 1))
  have hdl : (rs.drop (k + 1)).length = rs.length - (k + 1) := by simp
  refine callsM hN Try.func102 rfl (n := 33) rfl (by simp) ?_
  refine TC.seq ?_
  refine TC.region ?_
  refine TL.pure (PV.assign rfl) rfl (by decide) ?_
  refine TL.nil ?_
  refine TQ.thenC ?_
  refine TC.seq ?_
  refine TC.region ?_
  refine TL.pure (PV.move rfl) rfl (by decide) ?_
  refine TL.pure (PV.move rfl) rfl (by decide) ?_
  refine TL.pure (PV.move rfl) rfl (by decide) ?_
  refine TL.pure (PV.move rfl) rfl (by decide) ?_
  refine TL.pure (PV.len rfl Tb.sl_22) rfl (by decide) ?_
  refine TL.pure (PV.slice3 (l := k) (h := k + 1) (m := rs.length) rfl rfl rfl rfl Tb.elm_22 rfl rfl rfl (by omega) (by omega) (by omega)) rfl (by decide) ?_
  refine TL.nil ?_
  refine TQ.thenC ?_
  refine TC.seq ?_
  refine TC.seq ?_
  refine TC.region ?_
  refine TL.pure (PV.move rfl) rfl (by decide) ?_
  refine TL.pure (PV.move rfl) rfl (by decide) ?_
  refine TL.pure (PV.eql rfl rfl) rfl (by decide) ?_
  refine TL.nil ?_
  refine TQ.thenC ?_
  first | refine TC.condD rfl (fun h0 => ?_) (fun h0 => ?_) | refine TC.cond rfl (fun h0 => ?_) (fun h0 => ?_)
  · skip
    exfalso; omega
  · skip
    refine TC.skip ?_
    refine TQ.thenC ?_
    refine TC.seq ?_
    refine TC.region ?_
    refine TL.pure (PV.move rfl) rfl (by decide) ?_
    refine TL.pure (PV.len rfl Tb.sl_22) rfl (by decide) ?_
    refine TL.pure (PV.assign rfl) rfl (by decide) ?_
    refine TL.nil ?_
    refine TQ.thenC ?_
    refine TC.seq ?_
    refine TC.draw 6 Tb.mixed (by kernel_rfl) ?_
    simp only [List.take_succ_cons, List.take_zero, List.drop_succ_cons, List.drop_zero]
    refine TS.pure (PV.move rfl) rfl (by decide) ?_
    refine TS.pure (PV.move rfl) rfl (by decide) ?_
    refine TS.pure (PV.sliceHb rfl rfl Tb.elm_22 rfl (by omega)) rfl (by decide) ?_
    refine TS.pure (PV.move rfl) rfl (by decide) ?_
    refine TS.pure (PV.move rfl) rfl (by decide) ?_
    refine TS.pure (PV.sliceL (l := k + 1) rfl rfl Tb.elm_22 rfl (by omega)) rfl (by decide) ?_
    refine TS.nil ?_
    refine TL.appendRoom (cs := rdc rs ++ sp) (news := rdc (rs.drop (k + 1))) (m := rs.length - (k + 1)) rfl rfl Tb.sl_22 Tb.zi_61 (by repeat (first | exact Upd.head _ | apply Upd.tail | apply Upd.appR)) (by simp only [List.length_append]; omega) (by omega) (fun w' hN' => rds_src hdl (RdsAt.back (RdsAt.s hN' (fun yy hyy => by first | exact List.mem_append_left _ hyy | (simp only [List.mem_append, List.mem_cons]; simp [hyy])) ho) hcap (k + 1))) rfl (by decide) ?_
    rw [del_cells1 hk]
    refine TL.pure (PV.assign rfl) rfl (by decide) ?_
    refine TL.nil ?_
    refine TQ.thenC ?_
    refine TC.seq ?_
    refine TC.region ?_
    refine TL.pure (PV.move rfl) rfl (by decide) ?_
    refine TL.pure (PV.move rfl) rfl (by decide) ?_
    refine TL.pure (PV.len rfl Tb.sl_22) rfl (by decide) ?_
    refine TL.pure (PV.move rfl) rfl (by decide) ?_
    refine TL.pure (PV.sliceLHb (l := rs.length - 1) (h := rs.length) rfl rfl rfl Tb.elm_22 (by omega) rfl (by omega) (by omega)) rfl (by decide) ?_
    refine TL.clear1 (cs := rdc (del rs k) ++ (rdc (rs.drop (rs.length - 1)) ++ sp)) (zs := zr) rfl (by omega) Tb.sl_22 Tb.zi_61 (by kernel_rfl) rfl (by repeat (first | exact Upd.head _ | apply Upd.tail | apply Upd.appR)) (by have h4 := del_len hk; have h5 := rdc_len (del rs k); have h6 := rdc_len (rs.drop (rs.length - 1)); simp only [List.length_append, List.length_drop, show zr.length = 4 from rfl] at h6 ⊢; omega) rfl rfl ?_
    rw [del_cells2 hk]
    refine TL.nil ?_
    refine TQ.thenC ?_
    refine TC.seq ?_
    refine TC.region ?_
    refine TL.pure (PV.move rfl) rfl (by decide) ?_
    refine TL.pure (PV.assign rfl) rfl (by decide) ?_
    refine TL.nil ?_
    refine TQ.thenC ?_
    refine TC.ret ?_
    refine TQ.retE1 rfl rfl ?_
    exact ⟨(), by rw [show k + (rs.length - (k + 1)) = rs.length - 1 by omega], trivial, List.Sublist.refl _⟩

theorem TL.callDel {n : Nat} {w0 : World} {E : Env} {G : Heap} {ops : Array Oper} {Q : Exit → Act → World → Prop} {l : List Oper} {ty : TypeId} {pos : String} {aft : Array Edge} {g : Option (Nat × Bool)} {d b cap K k : Nat} {xs : List Operand} {ats : Array TypeId} {sp : List Value} {rs : List Rd} {R : Heap}
    (hx : evs E xs = some [.slice (some ⟨b, 0, none⟩) K cap, .int .i64 k, .int .i64 (k + 1)]) (hK : rs.length = K) (hl : K ≤ 1000) (hk : k < K) (ho : goS (some (b, cap, sp)) rs) (hT : Take b (.cells (rdc rs ++ sp).toArray 61 (0, 0)) G R)
    (hg : wants ops E g = some true) (hd : d < n) (h : TL Try.prog n w0 ops Q l ((d, .slice (some ⟨b, 0, none⟩) (K - 1) cap) :: E) ((b, .cells (rdc (del rs k) ++ (zr ++ sp)).toArray 61 (0, 0)) :: R)) :
    TL Try.prog n w0 ops Q (⟨some d, .call { callee := .value (.func 102), args := xs.toArray, argTypes := ats }, ty, pos, aft, g⟩ :: l) E G := by
  subst hK
  exact TL.callW (fun _ : Unit => .slice (some ⟨b, 0, none⟩) (rs.length - 1) cap) (fun _ => True) (fun _ => (b, .cells (rdc (del rs k) ++ (zr ++ sp)).toArray 61 (0, 0)) :: R) hx Tb.gofn_102
    (fun a w hs => delete_ok w0 w b cap sp rs hl k hk R ho (hs.new.perm hT.perm)) hg hd (fun _ _ => h)

set_option maxRecDepth 100000 in
set_option maxHeartbeats 1000000 in
theorem without_ok (w0 : World) (n : Int) (p : Option Addr) (cap : Nat) (rs : List Rd) (hr : RdsAt w0 p rs) (hl : rs.length ≤ 1000) (k : Nat) (hk : k < rs.length) :
    Calls Try.prog 88 #[sv n p rs.length cap, .int .i64 k] w0 (Post (X := HD) (fun h => .agg #[.int .i64 n, gval h (rs.length - 1)]) (fun h => goS h (del rs k)) (fun h => gbS h (del rs k)) w0) := by
  refine calls Try.func88 rfl (n := 16) rfl (by simp) ?_
  refine TC.seq ?_
  refine TC.region ?_
  refine TL.box rfl rfl (by decide) (fun b0 hb0 => ?_)
  refine TL.alloc Tb.zero_24 rfl (by decide) (fun b1 hb1 => ?_)
  refine TL.nil ?_
  refine TQ.thenC ?_
  refine TC.seq ?_
  refine TC.region ?_
  refine TL.pure (PV.loadBox rfl Tb.agg_24 (by repeat (first | exact List.Mem.head _ | refine List.Mem.tail _ ?_ | refine List.mem_append_right _ ?_)) rfl) rfl (by decide) ?_
  refine TL.call rfl Tb.gofn_90 (fun a w hs => copied_ok w n p cap rs.length rs rfl (hr.new hs.new) (by omega)) rfl (by decide) (fun h1 hh1 => ?_)
  refine TL.alloc Tb.zero_24 rfl (by decide) (fun b2 hb2 => ?_)
  refine TL.storeAgg rfl rfl Tb.cells_24 (by repeat (first | exact Upd.head _ | apply Upd.tail | apply Upd.appR)) rfl rfl (by first | rfl | exact sv_one _ _ _) rfl rfl ?_
  refine TL.nil ?_
  refine TQ.thenC ?_
  refine TC.seq ?_
  obtain _ | ⟨bb, cp, sp⟩ := h1
  · exact absurd hh1.2 (by simp only; omega)
  refine TC.region ?_
  refine TL.pure (PV.fieldAddr rfl Tb.fo_24_1) rfl (by decide) ?_
  refine TL.pure (PV.load rfl Tb.one_22 (by repeat (first | exact List.Mem.head _ | refine List.Mem.tail _ ?_ | refine List.mem_append_right _ ?_)) rfl) rfl (by decide) ?_
  refine TL.pure (PV.move rfl) rfl (by decide) ?_
  refine TL.pure (PV.move rfl) rfl (by decide) ?_
  refine TL.pure (PV.add rfl rfl (by omega)) rfl (by decide) ?_
  refine TL.callDel (sp := sp) (rs := rs) rfl rfl hl hk hh1 (by repeat (first | exact Take.head _ | apply Take.tail | apply Take.appR)) rfl (by decide) ?_
  refine TL.pure (PV.fieldAddr rfl Tb.fo_24_1) rfl (by decide) ?_
  refine TL.store rfl rfl Tb.cells_22 rfl (by repeat (first | exact Upd.head _ | apply Upd.tail | apply Upd.appR)) (by first | decide | (simp; done) | (simp; omega) | omega) rfl rfl ?_
  refine TL.nil ?_
  refine TQ.thenC ?_
  refine TC.seq ?_
  refine TC.region ?_
  refine TL.pure (PV.loadBox rfl Tb.agg_24 (by repeat (first | exact List.Mem.head _ | refine List.Mem.tail _ ?_ | refine List.mem_append_right _ ?_)) rfl) rfl (by decide) ?_
  refine TL.storeAgg rfl rfl Tb.cells_24 (by repeat (first | exact Upd.head _ | apply Upd.tail | apply Upd.appR)) rfl rfl (by first | rfl | exact sv_one _ _ _) rfl rfl ?_
  refine TL.nil ?_
  refine TQ.thenC ?_
  refine TC.ret ?_
  refine TQ.retR rfl (Res.agg rfl Tb.agg_24 (by repeat (first | exact List.Mem.head _ | refine List.Mem.tail _ ?_ | refine List.mem_append_right _ ?_)) rfl Res.nil) ?_
  simp only [tup]
  exact ⟨some (bb, cp, zr ++ sp), rfl, del_go2 hk hh1, by repeat (first | exact List.Sublist.slnil | exact List.nil_sublist _ | exact List.Sublist.refl _ | refine List.Sublist.cons_cons _ ?_ | refine List.Sublist.cons _ ?_ | refine List.Sublist.trans ?_ (List.sublist_append_right _ _))⟩

theorem partsS (w : World) {n : Int} {h : HD} {K : Nat} {rs : List Rd} (hK : rs.length = K) (ho : goS h rs) (hr : RdsAt w (gp h) rs) (hv : Valid n rs) :
    Calls Try.prog 61 #[.agg #[.int .i64 n, gval h K]] w (Post (X := HD × List (HD × List Int)) (fun x => gvP x) (fun x => PF n.toNat (firstsL n rs) n.toNat x) (fun x => gbP x ++ bl x.2) w) := by
  have hc := parts_ok w n (gp h) (gc h) rs hr hv
  rw [gvS_eq ho hK]; subst hK
  exact hc

set_option maxRecDepth 100000 in
set_option maxHeartbeats 1000000 in
theorem isBridge_ok (w0 : World) (n : Int) (p : Option Addr) (cap : Nat) (rs : List Rd) (hr : RdsAt w0 p rs) (hl : rs.length ≤ 1000) (k : Int) :
    Calls Try.prog 48 #[sv n p rs.length cap, .int .i64 k] w0 (Post (X := Unit) (fun _ => .tuple #[.bool (brB n rs k), .int .i64 (shE n rs k)]) (fun _ => True) (fun _ => []) w0) := by
  refine calls Try.func48 rfl (n := 22) rfl (by simp) ?_
  refine TC.seq ?_
  refine TC.region ?_
  refine TL.box rfl rfl (by decide) (fun b0 hb0 => ?_)
  refine TL.pure (PV.assign rfl) rfl (by decide) ?_
  refine TL.pure (PV.assign rfl) rfl (by decide) ?_
  refine TL.nil ?_
  refine TQ.thenC ?_
  refine TC.seq ?_
  refine TC.seq ?_
  refine TC.region ?_
  refine TL.pure (PV.loadBox rfl Tb.agg_24 (by repeat (first | exact List.Mem.head _ | refine List.Mem.tail _ ?_ | refine List.mem_append_right _ ?_)) rfl) rfl (by decide) ?_
  refine TL.pure (PV.move rfl) rfl (by decide) ?_
  refine TL.call rfl Tb.gofn_86 (fun a w hs => validateReading_ok w _ _ _ _ (hr.new hs.new) k) rfl (by decide) (fun _ _ => ?_)
  refine TL.pure (PV.assign rfl) rfl (by decide) ?_
  refine TL.nil ?_
  refine TQ.thenC ?_
  refine TC.seq ?_
  refine TC.region ?_
  refine TL.pure (PV.move rfl) rfl (by decide) ?_
  refine TL.pure (PV.neq rfl rfl) rfl (by decide) ?_
  refine TL.nil ?_
  refine TQ.thenC ?_
  first | refine TC.condD rfl (fun hne => ?_) (fun hne => ?_) | refine TC.cond rfl (fun hne => ?_) (fun hne => ?_)
  · skip
    refine TC.seq ?_
    refine TC.region ?_
    refine TL.pure (PV.move rfl) rfl (by decide) ?_
    refine TL.pure (PV.assign rfl) rfl (by decide) ?_
    refine TL.pure (PV.assign rfl) rfl (by decide) ?_
    refine TL.nil ?_
    refine TQ.thenC ?_
    refine TC.ret ?_
    refine TQ.thenR ?_
    refine TQ.retE2 rfl rfl rfl ?_
    first | exact ⟨(), by rw [show brB n rs k = false from decide_eq_false (fun h => hne h.1)], trivial, List.nil_sublist _⟩ | exact ⟨(), by rw [hz, brB_eq hz (by rw [Int.toNat_natCast]; exact hxa) hxb], trivial, List.nil_sublist _⟩
  · skip
    refine TC.skip ?_
    refine TQ.thenC ?_
    refine TC.seq ?_
    have hz : shE n rs k = 0 := by omega
    obtain ⟨hv, hk0, hkl⟩ := shE_ok hz
    obtain ⟨kn, rfl⟩ : ∃ kn : Nat, k = kn := ⟨k.toNat, by omega⟩
    rw [Int.toNat_natCast] at hkl
    refine TC.mix [true, true, false, false, false, true, false, false, false, false, false] _ 8 Tb.mixed rfl (by kernel_rfl) (by kernel_rfl) (by kernel_rfl) (by kernel_rfl) (List.Sublist.refl _) ?_
    refine TB.op (SOK.pure (PV.loadBox rfl Tb.agg_24 (by repeat (first | exact List.Mem.head _ | refine List.Mem.tail _ ?_ | refine List.mem_append_right _ ?_)) rfl) rfl) (by decide) ?_
    refine TB.op (SOK.pure (PV.move rfl) rfl) (by decide) ?_
    refine TB.no ?_
    refine TB.no ?_
    refine TB.no ?_
    refine TB.op (SOK.pure (PV.loadBox rfl Tb.agg_24 (by repeat (first | exact List.Mem.head _ | refine List.Mem.tail _ ?_ | refine List.mem_append_right _ ?_)) rfl) rfl) (by decide) ?_
    refine TB.no ?_
    refine TB.no ?_
    refine TB.no ?_
    refine TB.no ?_
    refine TB.no ?_
    refine TB.fin ?_
    refine TX.step [2] (by kernel_rfl) (by decide) ⟨⟨_, rfl, ?_⟩, trivial⟩
    refine TL.call rfl Tb.gofn_88 (fun a w hs => without_ok w n p cap rs (hr.new hs.new) hl kn (by omega)) rfl (by decide) (fun h1 hh1 => ?_)
    refine TL.nil ?_
    refine TX.next (.inl (by repeat (first | exact List.Sublist.slnil | exact List.nil_sublist _ | exact List.Sublist.refl _ | refine List.Sublist.cons_cons _ ?_ | refine List.Sublist.cons _ ?_ | refine List.Sublist.trans ?_ (List.sublist_append_right _ _)))) ?_
    refine TX.step [3] (by kernel_rfl) (by decide) ⟨⟨_, rfl, ?_⟩, trivial⟩
    refine TL.call rfl Tb.gofn_61 (fun a w hs => partsS w (by have := del_len (rs := rs) (k := kn) (by omega); omega) hh1 (RdsAt.s hs.new (fun yy hyy => by first | exact List.mem_append_left _ hyy | (simp only [List.mem_append, List.mem_cons]; simp [hyy])) hh1) (hv.del (by omega))) rfl (by decide) (fun xa hxa => ?_)
    refine TL.nil ?_
    refine TX.next (.inl (by repeat (first | exact List.Sublist.slnil | exact List.nil_sublist _ | exact List.Sublist.refl _ | refine List.Sublist.cons_cons _ ?_ | refine List.Sublist.cons _ ?_ | refine List.Sublist.trans ?_ (List.sublist_append_right _ _)))) ?_
    refine TX.step [4, 6] (by kernel_rfl) (by decide) ⟨⟨_, rfl, ?_⟩, ⟨_, rfl, ?_⟩, trivial⟩
    · skip
      refine TL.pure (PV.lenG rfl hxa.ok Tb.sl_27) rfl (by decide) ?_
      refine TL.nil ?_
      refine TX.next (.inl (by repeat (first | exact List.Sublist.slnil | exact List.nil_sublist _ | exact List.Sublist.refl _ | refine List.Sublist.cons_cons _ ?_ | refine List.Sublist.cons _ ?_ | refine List.Sublist.trans ?_ (List.sublist_append_right _ _)))) ?_
      refine TX.step [6] (by kernel_rfl) (by decide) ⟨⟨_, rfl, ?_⟩, trivial⟩
      refine TL.call rfl Tb.gofn_61 (fun a w hs => parts_ok w n p cap rs (hr.new hs.new) hv) rfl (by decide) (fun xb hxb => ?_)
      refine TL.nil ?_
      refine TX.next (.inl (by repeat (first | exact List.Sublist.slnil | exact List.nil_sublist _ | exact List.Sublist.refl _ | refine List.Sublist.cons_cons _ ?_ | refine List.Sublist.cons _ ?_ | refine List.Sublist.trans ?_ (List.sublist_append_right _ _)))) ?_
      refine TX.step [7] (by kernel_rfl) (by decide) ⟨⟨_, rfl, ?_⟩, trivial⟩
      refine TL.pure (PV.lenG rfl hxb.ok Tb.sl_27) rfl (by decide) ?_
      refine TL.nil ?_
      refine TX.next (.inl (by repeat (first | exact List.Sublist.slnil | exact List.nil_sublist _ | exact List.Sublist.refl _ | refine List.Sublist.cons_cons _ ?_ | refine List.Sublist.cons _ ?_ | refine List.Sublist.trans ?_ (List.sublist_append_right _ _)))) ?_
      refine TX.step [8] (by kernel_rfl) (by decide) ⟨⟨_, rfl, ?_⟩, trivial⟩
      refine TL.pure (PV.gtr rfl rfl) rfl (by decide) ?_
      refine TL.nil ?_
      refine TX.next (.inl (by repeat (first | exact List.Sublist.slnil | exact List.nil_sublist _ | exact List.Sublist.refl _ | refine List.Sublist.cons_cons _ ?_ | refine List.Sublist.cons _ ?_ | refine List.Sublist.trans ?_ (List.sublist_append_right _ _)))) ?_
      refine TX.step [9] (by kernel_rfl) (by decide) ⟨⟨_, rfl, ?_⟩, trivial⟩
      refine TL.pure (PV.assign rfl) rfl (by decide) ?_
      refine TL.nil ?_
      refine TX.next (.inr (by kernel_rfl)) ?_
      refine TX.step [10] (by kernel_rfl) (by decide) ⟨⟨_, rfl, ?_⟩, trivial⟩
      refine TL.pure (PV.assign rfl) rfl (by decide) ?_
      refine TL.nil ?_
      refine TX.next (.inr (by kernel_rfl)) ?_
      refine TX.done (by kernel_rfl) ?_
      refine TQ.thenC ?_
      refine TC.ret ?_
      refine TQ.retE2 rfl rfl rfl ?_
      first | exact ⟨(), by rw [show brB n rs k = false from decide_eq_false (fun h => hne h.1)], trivial, List.nil_sublist _⟩ | exact ⟨(), by rw [hz, brB_eq hz (by rw [Int.toNat_natCast]; exact hxa) hxb], trivial, List.nil_sublist _⟩
    · skip
      refine TL.call rfl Tb.gofn_61 (fun a w hs => parts_ok w n p cap rs (hr.new hs.new) hv) rfl (by decide) (fun xb hxb => ?_)
      refine TL.nil ?_
      refine TX.next (.inl (by repeat (first | exact List.Sublist.slnil | exact List.nil_sublist _ | exact List.Sublist.refl _ | refine List.Sublist.cons_cons _ ?_ | refine List.Sublist.cons _ ?_ | refine List.Sublist.trans ?_ (List.sublist_append_right _ _)))) ?_
      refine TX.step [4, 7] (by kernel_rfl) (by decide) ⟨⟨_, rfl, ?_⟩, ⟨_, rfl, ?_⟩, trivial⟩
      · skip
        refine TL.pure (PV.lenG rfl hxa.ok Tb.sl_27) rfl (by decide) ?_
        refine TL.nil ?_
        refine TX.next (.inl (by repeat (first | exact List.Sublist.slnil | exact List.nil_sublist _ | exact List.Sublist.refl _ | refine List.Sublist.cons_cons _ ?_ | refine List.Sublist.cons _ ?_ | refine List.Sublist.trans ?_ (List.sublist_append_right _ _)))) ?_
        refine TX.step [7] (by kernel_rfl) (by decide) ⟨⟨_, rfl, ?_⟩, trivial⟩
        refine TL.pure (PV.lenG rfl hxb.ok Tb.sl_27) rfl (by decide) ?_
        refine TL.nil ?_
        refine TX.next (.inl (by repeat (first | exact List.Sublist.slnil | exact List.nil_sublist _ | exact List.Sublist.refl _ | refine List.Sublist.cons_cons _ ?_ | refine List.Sublist.cons _ ?_ | refine List.Sublist.trans ?_ (List.sublist_append_right _ _)))) ?_
        refine TX.step [8] (by kernel_rfl) (by decide) ⟨⟨_, rfl, ?_⟩, trivial⟩
        refine TL.pure (PV.gtr rfl rfl) rfl (by decide) ?_
        refine TL.nil ?_
        refine TX.next (.inl (by repeat (first | exact List.Sublist.slnil | exact List.nil_sublist _ | exact List.Sublist.refl _ | refine List.Sublist.cons_cons _ ?_ | refine List.Sublist.cons _ ?_ | refine List.Sublist.trans ?_ (List.sublist_append_right _ _)))) ?_
        refine TX.step [9] (by kernel_rfl) (by decide) ⟨⟨_, rfl, ?_⟩, trivial⟩
        refine TL.pure (PV.assign rfl) rfl (by decide) ?_
        refine TL.nil ?_
        refine TX.next (.inr (by kernel_rfl)) ?_
        refine TX.step [10] (by kernel_rfl) (by decide) ⟨⟨_, rfl, ?_⟩, trivial⟩
        refine TL.pure (PV.assign rfl) rfl (by decide) ?_
        refine TL.nil ?_
        refine TX.next (.inr (by kernel_rfl)) ?_
        refine TX.done (by kernel_rfl) ?_
        refine TQ.thenC ?_
        refine TC.ret ?_
        refine TQ.retE2 rfl rfl rfl ?_
        first | exact ⟨(), by rw [show brB n rs k = false from decide_eq_false (fun h => hne h.1)], trivial, List.nil_sublist _⟩ | exact ⟨(), by rw [hz, brB_eq hz (by rw [Int.toNat_natCast]; exact hxa) hxb], trivial, List.nil_sublist _⟩
      · skip
        refine TL.pure (PV.lenG rfl hxb.ok Tb.sl_27) rfl (by decide) ?_
        refine TL.nil ?_
        refine TX.next (.inl (by repeat (first | exact List.Sublist.slnil | exact List.nil_sublist _ | exact List.Sublist.refl _ | refine List.Sublist.cons_cons _ ?_ | refine List.Sublist.cons _ ?_ | refine List.Sublist.trans ?_ (List.sublist_append_right _ _)))) ?_
        refine TX.step [4] (by kernel_rfl) (by decide) ⟨⟨_, rfl, ?_⟩, trivial⟩
        refine TL.pure (PV.lenG rfl hxa.ok Tb.sl_27) rfl (by decide) ?_
        refine TL.nil ?_
        refine TX.next (.inl (by repeat (first | exact List.Sublist.slnil | exact List.nil_sublist _ | exact List.Sublist.refl _ | refine List.Sublist.cons_cons _ ?_ | refine List.Sublist.cons _ ?_ | refine List.Sublist.trans ?_ (List.sublist_append_right _ _)))) ?_
        refine TX.step [8] (by kernel_rfl) (by decide) ⟨⟨_, rfl, ?_⟩, trivial⟩
        refine TL.pure (PV.gtr rfl rfl) rfl (by decide) ?_
        refine TL.nil ?_
        refine TX.next (.inl (by repeat (first | exact List.Sublist.slnil | exact List.nil_sublist _ | exact List.Sublist.refl _ | refine List.Sublist.cons_cons _ ?_ | refine List.Sublist.cons _ ?_ | refine List.Sublist.trans ?_ (List.sublist_append_right _ _)))) ?_
        refine TX.step [9] (by kernel_rfl) (by decide) ⟨⟨_, rfl, ?_⟩, trivial⟩
        refine TL.pure (PV.assign rfl) rfl (by decide) ?_
        refine TL.nil ?_
        refine TX.next (.inr (by kernel_rfl)) ?_
        refine TX.step [10] (by kernel_rfl) (by decide) ⟨⟨_, rfl, ?_⟩, trivial⟩
        refine TL.pure (PV.assign rfl) rfl (by decide) ?_
        refine TL.nil ?_
        refine TX.next (.inr (by kernel_rfl)) ?_
        refine TX.done (by kernel_rfl) ?_
        refine TQ.thenC ?_
        refine TC.ret ?_
        refine TQ.retE2 rfl rfl rfl ?_
        first | exact ⟨(), by rw [show brB n rs k = false from decide_eq_false (fun h => hne h.1)], trivial, List.nil_sublist _⟩ | exact ⟨(), by rw [hz, brB_eq hz (by rw [Int.toNat_natCast]; exact hxa) hxb], trivial, List.nil_sublist _⟩

end Go.Proofs.Ytmmgcajegokkoaa

namespace Go.Proofs.Ytmmgcajegokkoaa
open Go.Sx Go.RowKit

/-- A block of readings, turned where it lies. -/
inductive PutH : HD → List Value → List Value → Heap → Heap → Prop
  | here (h : HD) (ys ys' : List Value) (G : Heap) : PutH h ys ys' (gblk h 61 ys ++ G) (gblk h 61 ys' ++ G)
  | tail (p : Nat × Obj) {h : HD} {ys ys' : List Value} {G R : Heap} (t : PutH h ys ys' G R) : PutH h ys ys' (p :: G) (p :: R)
  | app (A : Heap) {h : HD} {ys ys' : List Value} {G R : Heap} (t : PutH h ys ys' G R) : PutH h ys ys' (A ++ G) (A ++ R)
theorem PutH.upd {b cap : Nat} {sp ys ys' : List Value} {G R : Heap} : PutH (some (b, cap, sp)) ys ys' G R → Upd b (.cells (ys ++ sp).toArray 61 (0, 0)) (.cells (ys' ++ sp).toArray 61 (0, 0)) G R := by
  intro t
  generalize hh : (some (b, cap, sp) : HD) = h at t
  induction t with
  | here => subst hh; exact Upd.head _
  | tail p t ih => exact (ih hh).tail p
  | app A t ih => exact (ih hh).appR A
theorem goS_len {h : HD} {l l' : List Rd} (ho : goS h l) (e : l'.length = l.length) : goS h l' := by
  obtain ⟨h1, h2⟩ := ho
  refine ⟨by rw [rdc_len], ?_⟩
  cases h with
  | none => simpa [e] using h2
  | some hh => obtain ⟨b, cap, sp⟩ := hh; simpa [rdc_len, e] using h2
theorem TL.putF {n : Nat} {w0 : World} {E : Env} {G : Heap} {ty : TypeId} {pos : String} {aft : Array Edge} {g : Option (Nat × Bool)} {ops : Array Oper} {Q : Exit → Act → World → Prop} {l : List Oper}
    {dd : Option Nat} {x y : Operand} {h : HD} {l0 : List Rd} {j f t : Nat} {v : Int} {G' : Heap} (hx : evo E x = some (.pointer (some ⟨(h.map (·.1)).getD 0, j * 4 + f, none⟩))) (hy : evo E y = some (.int .i64 v))
    (hsz : cellsN Try.prog t = some 1) (hok : goS h l0) (hT : PutH h (rdc l0) (rdc (l0.set j (setF (l0.getD j default) f v))) G G') (hj : j < l0.length) (hf : f < 4) (hg : wants ops E g = some true) (hdd : dd = none)
    (hk : TL Try.prog n w0 ops Q l E G') : TL Try.prog n w0 ops Q (⟨dd, .store t x y, ty, pos, aft, g⟩ :: l) E G := by
  cases h with
  | none => exact absurd hok.2 (by simp only; omega)
  | some hh =>
    obtain ⟨b, cap, sp⟩ := hh
    have hl := rdc_len l0
    have e : (rdc l0 ++ sp).toArray.setIfInBounds (j * 4 + f) (.int .i64 v) = (rdc (l0.set j (setF (l0.getD j default) f v)) ++ sp).toArray := by
      rw [← rdc_setF hf v hj]
      simp only [List.setIfInBounds_toArray]
      rw [List.set_append_left _ _ (by omega)]
    exact TL.store (cs := (rdc l0 ++ sp).toArray) (b := b) (off := j * 4 + f) (v := .int .i64 v) (e := 61) hx hy hsz rfl (by rw [e]; exact hT.upd) (by simp; omega) hg hdd hk
/-- What comes of a change: the survey, or nothing. -/
structure ChF (e n : Int) (L : List Rd) (x : Int × HD × List Rd) : Prop where
  num : x.1 = if e = 0 then n else 0
  eq : x.2.2 = if e = 0 then L else []
  ok : goS x.2.1 x.2.2
theorem ChF.bad {e n : Int} {L : List Rd} (h : e ≠ 0) : ChF e n L (0, none, []) := ⟨by rw [if_neg h], by rw [if_neg h], ⟨rfl, rfl⟩⟩
theorem ChF.good {e n : Int} {L : List Rd} {h : HD} (he : e = 0) (ho : goS h L) : ChF e n L (n, h, L) := ⟨by rw [if_pos he], by rw [if_pos he], ho⟩
theorem ChF.same {e n : Int} {L : List Rd} {x y : Int × HD × List Rd} (hx : ChF e n L x) (hy : ChF e n L y) : x.1 = y.1 ∧ x.2.2 = y.2.2 := ⟨hx.num.trans hy.num.symm, hx.eq.trans hy.eq.symm⟩
theorem ChF.len {e n : Int} {L : List Rd} {x : Int × HD × List Rd} (hx : ChF e n L x) : x.2.2.length ≤ L.length := by
  rw [hx.eq]; split
  · exact Nat.le_refl _
  · simp
/-- A reading the other way round. -/
def turnR (r : Rd) : Rd := ⟨r.to, r.fr, -r.rise, r.wt⟩
def tn (rs : List Rd) (k : Nat) : List Rd := rs.set k (turnR (rs.getD k default))
theorem turnR_turnR (r : Rd) : turnR (turnR r) = r := by
  obtain ⟨a, b, c, d⟩ := r
  simp [turnR]
theorem tn_tn {rs : List Rd} {k : Nat} (hk : k < rs.length) : tn (tn rs k) k = rs := by
  unfold tn
  have e : (rs.set k (turnR (rs.getD k default))).getD k default = turnR (rs.getD k default) := by simp [List.getD, hk]
  rw [e, turnR_turnR, List.set_set]
  have e2 : rs.getD k default = rs[k] := by simp [List.getD, hk]
  rw [e2, List.set_getElem_self]
theorem turnR_is {n : Int} {r : Rd} (h : isReadingB n r = true) : isReadingB n (turnR r) = true := by
  obtain ⟨h1, h2, h3, h4, h5⟩ := reading_spec h
  show (isPointB n r.to && isPointB n r.fr && decide (r.to ≠ r.fr) && isWithinB (-r.rise) 1000 && decide (1 ≤ r.wt ∧ r.wt ≤ 3)) = true
  simp only [isPointB, isWithinB, Bool.and_eq_true, decide_eq_true_eq]
  exact ⟨⟨⟨⟨h2, h1⟩, Ne.symm h3⟩, by omega⟩, h5⟩
theorem tn_valid {n : Int} {rs : List Rd} (hv : Valid n rs) {k : Nat} (hk : k < rs.length) : Valid n (tn rs k) := by
  have h1 := hv.pts
  have h2 := hv.len
  have h3 : (tn rs k).all (isReadingB n) = true := List.all_eq_true.2 fun r hr => by
    rcases List.mem_or_eq_of_mem_set hr with h | h
    · exact List.all_eq_true.1 hv.all r h
    · rw [h]; exact turnR_is (all_at hv.all hk)
  unfold Valid validateI
  rw [if_neg (by omega), if_neg (by unfold tn; simp; omega), if_pos h3]
theorem shE_of {n : Int} {rs : List Rd} (hv : Valid n rs) {k : Int} (h0 : 0 ≤ k) (hk : k.toNat < rs.length) : shE n rs k = 0 := by
  unfold shE
  rw [if_neg (not_not_intro (show validateI n rs = 0 from hv)), if_neg (by omega)]
theorem tn_shE {n : Int} {rs : List Rd} {k : Int} (h : shE n rs k = 0) : shE n (tn rs k.toNat) k = 0 := by
  obtain ⟨hv, hk0, hk⟩ := shE_ok h
  exact shE_of (tn_valid hv hk) hk0 (by unfold tn; simpa using hk)
theorem sameM {w : World} {n1 n2 : Int} {h1 : HD} {p2 : Option Addr} {K1 c2 : Nat} {rs1 rs2 : List Rd} (hK1 : rs1.length = K1) (ho1 : goS h1 rs1) (hr1 : RdsAt w (gp h1) rs1) (hr2 : RdsAt w p2 rs2) (hl : rs1.length ≤ 100000) (hl2 : rs2.length ≤ 100000) :
    Calls Try.prog 53 #[.agg #[.int .i64 n1, gval h1 K1], sv n2 p2 rs2.length c2] w (Post (X := Unit) (fun _ => .bool (sameB n1 n2 rs1 rs2)) (fun _ => True) (fun _ => []) w) := by
  have hc := Same_ok w n1 n2 (gp h1) p2 (gc h1) c2 rs1 rs2 hr1 hr2 hl hl2
  rw [gvS_eq ho1 hK1]; subst hK1
  exact hc


set_option maxRecDepth 100000 in
theorem turned_ok (w0 : World) (r : Rd) (hb : -1000 ≤ r.rise ∧ r.rise ≤ 1000) :
    Calls Try.prog 92 #[r.val] w0 (Post (X := Unit) (fun _ => (turnR r).val) (fun _ => True) (fun _ => []) w0) := by
  refine calls Try.func92 rfl (n := 13) rfl (by simp) ?_
  refine TC.seq ?_
  refine TC.region ?_
  refine TL.box rfl rfl (by decide) (fun b0 hb0 => ?_)
  refine TL.alloc Tb.zero_61 rfl (by decide) (fun b1 hb1 => ?_)
  refine TL.nil ?_
  refine TQ.thenC ?_
  refine TC.seq ?_
  refine TC.region ?_
  refine TL.pure (PV.fieldAddr rfl Tb.fo_61_1) rfl (by decide) ?_
  refine TL.pure (PV.load rfl Tb.one_3 (by repeat (first | exact List.Mem.head _ | refine List.Mem.tail _ ?_ | refine List.mem_append_right _ ?_)) rfl) rfl (by decide) ?_
  refine TL.pure (PV.fieldAddr rfl Tb.fo_61_0) rfl (by decide) ?_
  refine TL.pure (PV.load rfl Tb.one_3 (by repeat (first | exact List.Mem.head _ | refine List.Mem.tail _ ?_ | refine List.mem_append_right _ ?_)) rfl) rfl (by decide) ?_
  refine TL.pure (PV.fieldAddr rfl Tb.fo_61_2) rfl (by decide) ?_
  refine TL.pure (PV.load rfl Tb.one_3 (by repeat (first | exact List.Mem.head _ | refine List.Mem.tail _ ?_ | refine List.mem_append_right _ ?_)) rfl) rfl (by decide) ?_
  refine TL.pure (PV.neg rfl (by omega)) rfl (by decide) ?_
  refine TL.pure (PV.fieldAddr rfl Tb.fo_61_3) rfl (by decide) ?_
  refine TL.pure (PV.load rfl Tb.one_3 (by repeat (first | exact List.Mem.head _ | refine List.Mem.tail _ ?_ | refine List.mem_append_right _ ?_)) rfl) rfl (by decide) ?_
  refine TL.pure (PV.build (cs := (turnR r).cells.toArray) rfl Tb.zero_61 Tb.pl_61 rfl) rfl (by decide) ?_
  refine TL.storeAgg rfl rfl Tb.cells_61 (by repeat (first | exact Upd.head _ | apply Upd.tail | apply Upd.appR)) rfl rfl rfl rfl rfl ?_
  refine TL.nil ?_
  refine TQ.thenC ?_
  refine TC.ret ?_
  refine TQ.retR rfl (Res.agg rfl Tb.agg_61 (by repeat (first | exact List.Mem.head _ | refine List.Mem.tail _ ?_ | refine List.mem_append_right _ ?_)) rfl Res.nil) ?_
  simp only [tup]
  first | exact ⟨(), rfl, trivial, List.nil_sublist _⟩ | exact ⟨(), trivial, trivial, List.nil_sublist _⟩

set_option maxRecDepth 100000 in
set_option maxHeartbeats 1000000 in
theorem without2_ok (w0 : World) (n : Int) (p : Option Addr) (cap : Nat) (rs : List Rd) (hr : RdsAt w0 p rs) (hl : rs.length ≤ 1000) (k : Int) :
    Calls Try.prog 55 #[sv n p rs.length cap, .int .i64 k] w0 (Post (X := (Int × HD × List Rd)) (fun x => .tuple #[.agg #[.int .i64 x.1, gval x.2.1 x.2.2.length], .int .i64 (shE n rs k)]) (ChF (shE n rs k) n (del rs k.toNat)) (fun x => gbS x.2.1 x.2.2) w0) := by
  refine calls Try.func55 rfl (n := 17) rfl (by simp) ?_
  refine TC.seq ?_
  refine TC.region ?_
  refine TL.box rfl rfl (by decide) (fun b0 hb0 => ?_)
  refine TL.alloc Tb.zero_24 rfl (by decide) (fun b1 hb1 => ?_)
  refine TL.pure (PV.assign rfl) rfl (by decide) ?_
  refine TL.nil ?_
  refine TQ.thenC ?_
  refine TC.seq ?_
  refine TC.seq ?_
  refine TC.region ?_
  refine TL.pure (PV.loadBox rfl Tb.agg_24 (by repeat (first | exact List.Mem.head _ | refine List.Mem.tail _ ?_ | refine List.mem_append_right _ ?_)) rfl) rfl (by decide) ?_
  refine TL.pure (PV.move rfl) rfl (by decide) ?_
  refine TL.call rfl Tb.gofn_86 (fun a w hs => validateReading_ok w _ _ _ _ (hr.new hs.new) k) rfl (by decide) (fun _ _ => ?_)
  refine TL.pure (PV.assign rfl) rfl (by decide) ?_
  refine TL.nil ?_
  refine TQ.thenC ?_
  refine TC.seq ?_
  refine TC.region ?_
  refine TL.pure (PV.move rfl) rfl (by decide) ?_
  refine TL.pure (PV.neq rfl rfl) rfl (by decide) ?_
  refine TL.nil ?_
  refine TQ.thenC ?_
  first | refine TC.condD rfl (fun hne => ?_) (fun hne => ?_) | refine TC.cond rfl (fun hne => ?_) (fun hne => ?_)
  · skip
    refine TC.seq ?_
    refine TC.region ?_
    refine TL.pure (PV.build rfl Tb.zero_24 Tb.pl_24 rfl) rfl (by decide) ?_
    refine TL.pure (PV.move rfl) rfl (by decide) ?_
    refine TL.storeAgg rfl rfl Tb.cells_24 (by repeat (first | exact Upd.head _ | apply Upd.tail | apply Upd.appR)) rfl rfl (by first | rfl | exact sv_one _ _ _) rfl rfl ?_
    refine TL.pure (PV.assign rfl) rfl (by decide) ?_
    refine TL.nil ?_
    refine TQ.thenC ?_
    refine TC.ret ?_
    refine TQ.thenR ?_
    refine TQ.retR rfl (Res.agg rfl Tb.agg_24 (by repeat (first | exact List.Mem.head _ | refine List.Mem.tail _ ?_ | refine List.mem_append_right _ ?_)) rfl (Res.tmp rfl Res.nil)) ?_
    simp only [tup]
    exact ⟨(0, none, []), rfl, ChF.bad hne, List.nil_sublist _⟩
  · skip
    refine TC.skip ?_
    refine TQ.thenC ?_
    refine TC.seq ?_
    have hz : shE n rs k = 0 := by omega
    obtain ⟨hv, hk0, hkl⟩ := shE_ok hz
    obtain ⟨kn, rfl⟩ : ∃ kn : Nat, k = kn := ⟨k.toNat, by omega⟩
    rw [Int.toNat_natCast] at hkl
    refine TC.region ?_
    refine TL.pure (PV.loadBox rfl Tb.agg_24 (by repeat (first | exact List.Mem.head _ | refine List.Mem.tail _ ?_ | refine List.mem_append_right _ ?_)) rfl) rfl (by decide) ?_
    refine TL.pure (PV.move rfl) rfl (by decide) ?_
    refine TL.call rfl Tb.gofn_88 (fun a w hs => without_ok w n p cap rs (hr.new hs.new) hl kn (by omega)) rfl (by decide) (fun h1 hh1 => ?_)
    refine TL.storeAgg rfl rfl Tb.cells_24 (by repeat (first | exact Upd.head _ | apply Upd.tail | apply Upd.appR)) rfl rfl (by first | rfl | exact sv_one _ _ _) rfl rfl ?_
    refine TL.pure (PV.assign rfl) rfl (by decide) ?_
    refine TL.nil ?_
    refine TQ.thenC ?_
    refine TC.ret ?_
    refine TQ.retR rfl (Res.agg rfl Tb.agg_24 (by repeat (first | exact List.Mem.head _ | refine List.Mem.tail _ ?_ | refine List.mem_append_right _ ?_)) rfl (Res.tmp rfl Res.nil)) ?_
    simp only [tup]
    exact ⟨(n, h1, del rs kn), by rw [hz, show (del rs kn).length = rs.length - 1 by have := del_len (rs := rs) (k := kn) (by omega); omega], ChF.good hz hh1, (by repeat (first | exact List.Sublist.slnil | exact List.nil_sublist _ | exact List.Sublist.refl _ | exact List.sublist_append_left _ _ | refine List.Sublist.cons_cons _ ?_ | refine List.Sublist.cons _ ?_ | refine List.Sublist.trans ?_ (List.sublist_append_right _ _)))⟩

theorem without2S (w : World) (n : Int) (h : HD) (K : Nat) (rs : List Rd) (hK : rs.length = K) (ho : goS h rs) (hr : RdsAt w (gp h) rs) (hl : K ≤ 1000) (k : Int) :
    Calls Try.prog 55 #[.agg #[.int .i64 n, gval h K], .int .i64 k] w (Post (X := (Int × HD × List Rd)) (fun x => .tuple #[.agg #[.int .i64 x.1, gval x.2.1 x.2.2.length], .int .i64 (shE n rs k)]) (ChF (shE n rs k) n (del rs k.toNat)) (fun x => gbS x.2.1 x.2.2) w) := by
  have hc := without2_ok w n (gp h) (gc h) rs hr (by omega) k
  rw [gvS_eq ho hK]; subst hK
  exact hc

set_option maxRecDepth 100000 in
set_option maxHeartbeats 1000000 in
theorem rWithout_ok (w0 : World) (n : Int) (p : Option Addr) (cap : Nat) (rs : List Rd) (hr : RdsAt w0 p rs) (hc : rs.length ≤ cap) (hl : rs.length ≤ 1000) (k : Int) :
    Calls Try.prog 56 #[sv n p rs.length cap, .int .i64 k] w0 (Post (X := (Int × HD × List Rd)) (fun x => .tuple #[.agg #[.int .i64 x.1, gval x.2.1 x.2.2.length], .int .i64 (shE n rs k)]) (ChF (shE n rs k) n (del rs k.toNat)) (fun x => gbS x.2.1 x.2.2) w0) := by
  refine calls Try.func56 rfl (n := 17) rfl (by simp) ?_
  refine TC.seq ?_
  refine TC.region ?_
  refine TL.box rfl rfl (by decide) (fun b0 hb0 => ?_)
  refine TL.alloc Tb.zero_24 rfl (by decide) (fun b1 hb1 => ?_)
  refine TL.pure (PV.assign rfl) rfl (by decide) ?_
  refine TL.nil ?_
  refine TQ.thenC ?_
  refine TC.seq ?_
  refine TC.seq ?_
  refine TC.region ?_
  refine TL.pure (PV.loadBox rfl Tb.agg_24 (by repeat (first | exact List.Mem.head _ | refine List.Mem.tail _ ?_ | refine List.mem_append_right _ ?_)) rfl) rfl (by decide) ?_
  refine TL.pure (PV.move rfl) rfl (by decide) ?_
  refine TL.call rfl Tb.gofn_87 (fun a w hs => numbered_ok w _ _ _ _ (hr.new hs.new) (by omega) k) rfl (by decide) (fun _ _ => ?_)
  refine TL.pure (PV.assign rfl) rfl (by decide) ?_
  refine TL.nil ?_
  refine TQ.thenC ?_
  refine TC.seq ?_
  refine TC.region ?_
  refine TL.pure (PV.move rfl) rfl (by decide) ?_
  refine TL.pure (PV.neq rfl rfl) rfl (by decide) ?_
  refine TL.nil ?_
  refine TQ.thenC ?_
  first | refine TC.condD rfl (fun hne => ?_) (fun hne => ?_) | refine TC.cond rfl (fun hne => ?_) (fun hne => ?_)
  · skip
    refine TC.seq ?_
    refine TC.region ?_
    refine TL.pure (PV.build rfl Tb.zero_24 Tb.pl_24 rfl) rfl (by decide) ?_
    refine TL.pure (PV.move rfl) rfl (by decide) ?_
    refine TL.storeAgg rfl rfl Tb.cells_24 (by repeat (first | exact Upd.head _ | apply Upd.tail | apply Upd.appR)) rfl rfl (by first | rfl | exact sv_one _ _ _) rfl rfl ?_
    refine TL.pure (PV.assign rfl) rfl (by decide) ?_
    refine TL.nil ?_
    refine TQ.thenC ?_
    refine TC.ret ?_
    refine TQ.thenR ?_
    refine TQ.retR rfl (Res.agg rfl Tb.agg_24 (by repeat (first | exact List.Mem.head _ | refine List.Mem.tail _ ?_ | refine List.mem_append_right _ ?_)) rfl (Res.tmp rfl Res.nil)) ?_
    simp only [tup]
    exact ⟨(0, none, []), rfl, ChF.bad hne, List.nil_sublist _⟩
  · skip
    refine TC.skip ?_
    refine TQ.thenC ?_
    refine TC.seq ?_
    have hz : shE n rs k = 0 := by omega
    obtain ⟨hv, hk0, hkl⟩ := shE_ok hz
    obtain ⟨kn, rfl⟩ : ∃ kn : Nat, k = kn := ⟨k.toNat, by omega⟩
    rw [Int.toNat_natCast] at hkl
    refine TC.region ?_
    refine TL.pure (PV.loadBox rfl Tb.agg_24 (by repeat (first | exact List.Mem.head _ | refine List.Mem.tail _ ?_ | refine List.mem_append_right _ ?_)) rfl) rfl (by decide) ?_
    refine TL.pure (PV.move rfl) rfl (by decide) ?_
    refine TL.call rfl Tb.gofn_89 (fun a w hs => less_ok w n p cap rs (hr.new hs.new) hc hl kn (by omega)) rfl (by decide) (fun h1 hh1 => ?_)
    refine TL.storeAgg rfl rfl Tb.cells_24 (by repeat (first | exact Upd.head _ | apply Upd.tail | apply Upd.appR)) rfl rfl (by first | rfl | exact sv_one _ _ _) rfl rfl ?_
    refine TL.pure (PV.assign rfl) rfl (by decide) ?_
    refine TL.nil ?_
    refine TQ.thenC ?_
    refine TC.ret ?_
    refine TQ.retR rfl (Res.agg rfl Tb.agg_24 (by repeat (first | exact List.Mem.head _ | refine List.Mem.tail _ ?_ | refine List.mem_append_right _ ?_)) rfl (Res.tmp rfl Res.nil)) ?_
    simp only [tup]
    exact ⟨(n, h1, del rs kn), by rw [hz, show (del rs kn).length = rs.length - 1 by have := del_len (rs := rs) (k := kn) (by omega); omega], ChF.good hz hh1, (by repeat (first | exact List.Sublist.slnil | exact List.nil_sublist _ | exact List.Sublist.refl _ | exact List.sublist_append_left _ _ | refine List.Sublist.cons_cons _ ?_ | refine List.Sublist.cons _ ?_ | refine List.Sublist.trans ?_ (List.sublist_append_right _ _)))⟩

set_option maxRecDepth 100000 in
set_option maxHeartbeats 1000000 in
theorem turn_ok (w0 : World) (n : Int) (p : Option Addr) (cap : Nat) (rs : List Rd) (hr : RdsAt w0 p rs) (hl : rs.length ≤ 1000) (k : Int) :
    Calls Try.prog 57 #[sv n p rs.length cap, .int .i64 k] w0 (Post (X := (Int × HD × List Rd)) (fun x => .tuple #[.agg #[.int .i64 x.1, gval x.2.1 x.2.2.length], .int .i64 (shE n rs k)]) (ChF (shE n rs k) n (tn rs k.toNat)) (fun x => gbS x.2.1 x.2.2) w0) := by
  refine calls Try.func57 rfl (n := 28) rfl (by simp) ?_
  refine TC.seq ?_
  refine TC.region ?_
  refine TL.box rfl rfl (by decide) (fun b0 hb0 => ?_)
  refine TL.alloc Tb.zero_24 rfl (by decide) (fun b1 hb1 => ?_)
  refine TL.pure (PV.assign rfl) rfl (by decide) ?_
  refine TL.nil ?_
  refine TQ.thenC ?_
  refine TC.seq ?_
  refine TC.seq ?_
  refine TC.region ?_
  refine TL.pure (PV.loadBox rfl Tb.agg_24 (by repeat (first | exact List.Mem.head _ | refine List.Mem.tail _ ?_ | refine List.mem_append_right _ ?_)) rfl) rfl (by decide) ?_
  refine TL.pure (PV.move rfl) rfl (by decide) ?_
  refine TL.call rfl Tb.gofn_86 (fun a w hs => validateReading_ok w _ _ _ _ (hr.new hs.new) k) rfl (by decide) (fun _ _ => ?_)
  refine TL.pure (PV.assign rfl) rfl (by decide) ?_
  refine TL.nil ?_
  refine TQ.thenC ?_
  refine TC.seq ?_
  refine TC.region ?_
  refine TL.pure (PV.move rfl) rfl (by decide) ?_
  refine TL.pure (PV.neq rfl rfl) rfl (by decide) ?_
  refine TL.nil ?_
  refine TQ.thenC ?_
  first | refine TC.condD rfl (fun hne => ?_) (fun hne => ?_) | refine TC.cond rfl (fun hne => ?_) (fun hne => ?_)
  · skip
    refine TC.seq ?_
    refine TC.region ?_
    refine TL.pure (PV.build rfl Tb.zero_24 Tb.pl_24 rfl) rfl (by decide) ?_
    refine TL.pure (PV.move rfl) rfl (by decide) ?_
    refine TL.storeAgg rfl rfl Tb.cells_24 (by repeat (first | exact Upd.head _ | apply Upd.tail | apply Upd.appR)) rfl rfl (by first | rfl | exact sv_one _ _ _) rfl rfl ?_
    refine TL.pure (PV.assign rfl) rfl (by decide) ?_
    refine TL.nil ?_
    refine TQ.thenC ?_
    refine TC.ret ?_
    refine TQ.thenR ?_
    refine TQ.retR rfl (Res.agg rfl Tb.agg_24 (by repeat (first | exact List.Mem.head _ | refine List.Mem.tail _ ?_ | refine List.mem_append_right _ ?_)) rfl (Res.tmp rfl Res.nil)) ?_
    simp only [tup]
    exact ⟨(0, none, []), rfl, ChF.bad hne, List.nil_sublist _⟩
  · skip
    refine TC.skip ?_
    refine TQ.thenC ?_
    refine TC.seq ?_
    have hz : shE n rs k = 0 := by omega
    obtain ⟨hv, hk0, hkl⟩ := shE_ok hz
    obtain ⟨kn, rfl⟩ : ∃ kn : Nat, k = kn := ⟨k.toNat, by omega⟩
    rw [Int.toNat_natCast] at hkl
    refine TC.region ?_
    refine TL.pure (PV.loadBox rfl Tb.agg_24 (by repeat (first | exact List.Mem.head _ | refine List.Mem.tail _ ?_ | refine List.mem_append_right _ ?_)) rfl) rfl (by decide) ?_
    refine TL.call rfl Tb.gofn_90 (fun a w hs => copied_ok w n p cap rs.length rs rfl (hr.new hs.new) (by omega)) rfl (by decide) (fun h1 hh1 => ?_)
    refine TL.alloc Tb.zero_24 rfl (by decide) (fun b2 hb2 => ?_)
    refine TL.storeAgg rfl rfl Tb.cells_24 (by repeat (first | exact Upd.head _ | apply Upd.tail | apply Upd.appR)) rfl rfl (by first | rfl | exact sv_one _ _ _) rfl rfl ?_
    refine TL.nil ?_
    refine TQ.thenC ?_
    refine TC.seq ?_
    obtain ⟨q, hqp, hqa⟩ := hr kn hkl
    have hat := hv.at hkl
    refine TC.mix [true, true, true, true, true, true, true, true, false, false, false] _ 3 Tb.mixed rfl (by kernel_rfl) (by kernel_rfl) (by kernel_rfl) (by kernel_rfl) (List.Sublist.refl _) ?_
    refine TB.op (SOK.pure (PV.fieldAddr rfl Tb.fo_24_1) rfl) (by decide) ?_
    refine TB.op (SOK.pure (PV.load rfl Tb.one_22 (by repeat (first | exact List.Mem.head _ | refine List.Mem.tail _ ?_ | refine List.mem_append_right _ ?_)) rfl) rfl) (by decide) ?_
    refine TB.op (SOK.pure (PV.move rfl) rfl) (by decide) ?_
    refine TB.op (SOK.pure (PV.fieldAddr rfl Tb.fo_24_1) rfl) (by decide) ?_
    refine TB.op (SOK.pure (PV.load rfl Tb.one_22 (by repeat (first | exact List.Mem.head _ | refine List.Mem.tail _ ?_ | refine List.mem_append_right _ ?_)) rfl) rfl) (by decide) ?_
    refine TB.op (SOK.pure (PV.move rfl) rfl) (by decide) ?_
    refine TB.op (SOK.pure (PV.indexA rfl hqp rfl Tb.elm_22 rfl (by omega)) rfl) (by decide) ?_
    refine TB.op (SOK.pure (PV.loadAggA rfl Tb.agg_61 rfl hqa) rfl) (by decide) ?_
    refine TB.no ?_
    refine TB.no ?_
    refine TB.no ?_
    refine TB.fin ?_
    refine TX.step [8] (by kernel_rfl) (by decide) ⟨⟨_, rfl, ?_⟩, trivial⟩
    refine TL.call rfl Tb.gofn_92 (fun a w hs => turned_ok w (rs.getD kn default) hat.2.2.2.1) rfl (by decide) (fun _ _ => ?_)
    refine TL.nil ?_
    refine TX.next (.inl (by repeat (first | exact List.Sublist.slnil | exact List.nil_sublist _ | exact List.Sublist.refl _ | refine List.Sublist.cons_cons _ ?_ | refine List.Sublist.cons _ ?_ | refine List.Sublist.trans ?_ (List.sublist_append_right _ _)))) ?_
    refine TX.step [9] (by kernel_rfl) (by decide) ⟨⟨_, rfl, ?_⟩, trivial⟩
    refine TL.pure (PV.indexG rfl rfl hh1 Tb.elm_22 rfl (by omega)) rfl (by decide) ?_
    refine TL.nil ?_
    refine TX.next (.inr (by kernel_rfl)) ?_
    refine TX.step [10] (by kernel_rfl) (by decide) ⟨⟨_, rfl, ?_⟩, trivial⟩
    refine TL.storeE (r := turnR (rs.getD kn default)) (j := kn) rfl rfl Tb.cells_61 hh1 (by repeat (first | exact TakeH.here _ _ _ _ | apply TakeH.tail | apply TakeH.app)) (by omega) rfl rfl ?_
    refine TL.nil ?_
    refine TX.next (.inr (by kernel_rfl)) ?_
    refine TX.done (by kernel_rfl) ?_
    refine TQ.thenC ?_
    refine TC.seq ?_
    refine TC.region ?_
    refine TL.pure (PV.loadBox rfl Tb.agg_24 (by repeat (first | exact List.Mem.head _ | refine List.Mem.tail _ ?_ | refine List.mem_append_right _ ?_)) rfl) rfl (by decide) ?_
    refine TL.storeAgg rfl rfl Tb.cells_24 (by repeat (first | exact Upd.head _ | apply Upd.tail | apply Upd.appR)) rfl rfl (by first | rfl | exact sv_one _ _ _) rfl rfl ?_
    refine TL.pure (PV.assign rfl) rfl (by decide) ?_
    refine TL.nil ?_
    refine TQ.thenC ?_
    refine TC.ret ?_
    refine TQ.retR rfl (Res.agg rfl Tb.agg_24 (by repeat (first | exact List.Mem.head _ | refine List.Mem.tail _ ?_ | refine List.mem_append_right _ ?_)) rfl (Res.tmp rfl Res.nil)) ?_
    simp only [tup]
    exact ⟨(n, h1, tn rs kn), by rw [hz, show (tn rs kn).length = rs.length by unfold tn; simp], ChF.good hz (goS_set hh1 _ _), (by repeat (first | exact List.Sublist.slnil | exact List.nil_sublist _ | exact List.Sublist.refl _ | exact List.sublist_append_left _ _ | refine List.Sublist.cons_cons _ ?_ | refine List.Sublist.cons _ ?_ | refine List.Sublist.trans ?_ (List.sublist_append_right _ _)))⟩

theorem turnS (w : World) (n : Int) (h : HD) (K : Nat) (rs : List Rd) (hK : rs.length = K) (ho : goS h rs) (hr : RdsAt w (gp h) rs) (hl : K ≤ 1000) (k : Int) :
    Calls Try.prog 57 #[.agg #[.int .i64 n, gval h K], .int .i64 k] w (Post (X := (Int × HD × List Rd)) (fun x => .tuple #[.agg #[.int .i64 x.1, gval x.2.1 x.2.2.length], .int .i64 (shE n rs k)]) (ChF (shE n rs k) n (tn rs k.toNat)) (fun x => gbS x.2.1 x.2.2) w) := by
  have hc := turn_ok w n (gp h) (gc h) rs hr (by omega) k
  rw [gvS_eq ho hK]; subst hK
  exact hc

set_option maxRecDepth 100000 in
set_option maxHeartbeats 1000000 in
theorem rTurn_ok (w0 : World) (n : Int) (p : Option Addr) (cap : Nat) (rs : List Rd) (hr : RdsAt w0 p rs) (hl : rs.length ≤ 1000) (k : Int) :
    Calls Try.prog 58 #[sv n p rs.length cap, .int .i64 k] w0 (Post (X := (Int × HD × List Rd)) (fun x => .tuple #[.agg #[.int .i64 x.1, gval x.2.1 x.2.2.length], .int .i64 (shE n rs k)]) (ChF (shE n rs k) n (tn rs k.toNat)) (fun x => gbS x.2.1 x.2.2) w0) := by
  refine calls Try.func58 rfl (n := 38) rfl (by simp) ?_
  refine TC.seq ?_
  refine TC.region ?_
  refine TL.box rfl rfl (by decide) (fun b0 hb0 => ?_)
  refine TL.alloc Tb.zero_24 rfl (by decide) (fun b1 hb1 => ?_)
  refine TL.pure (PV.assign rfl) rfl (by decide) ?_
  refine TL.nil ?_
  refine TQ.thenC ?_
  refine TC.seq ?_
  refine TC.seq ?_
  refine TC.region ?_
  refine TL.pure (PV.loadBox rfl Tb.agg_24 (by repeat (first | exact List.Mem.head _ | refine List.Mem.tail _ ?_ | refine List.mem_append_right _ ?_)) rfl) rfl (by decide) ?_
  refine TL.pure (PV.move rfl) rfl (by decide) ?_
  refine TL.call rfl Tb.gofn_87 (fun a w hs => numbered_ok w _ _ _ _ (hr.new hs.new) (by omega) k) rfl (by decide) (fun _ _ => ?_)
  refine TL.pure (PV.assign rfl) rfl (by decide) ?_
  refine TL.nil ?_
  refine TQ.thenC ?_
  refine TC.seq ?_
  refine TC.region ?_
  refine TL.pure (PV.move rfl) rfl (by decide) ?_
  refine TL.pure (PV.neq rfl rfl) rfl (by decide) ?_
  refine TL.nil ?_
  refine TQ.thenC ?_
  first | refine TC.condD rfl (fun hne => ?_) (fun hne => ?_) | refine TC.cond rfl (fun hne => ?_) (fun hne => ?_)
  · skip
    refine TC.seq ?_
    refine TC.region ?_
    refine TL.pure (PV.build rfl Tb.zero_24 Tb.pl_24 rfl) rfl (by decide) ?_
    refine TL.pure (PV.move rfl) rfl (by decide) ?_
    refine TL.storeAgg rfl rfl Tb.cells_24 (by repeat (first | exact Upd.head _ | apply Upd.tail | apply Upd.appR)) rfl rfl (by first | rfl | exact sv_one _ _ _) rfl rfl ?_
    refine TL.pure (PV.assign rfl) rfl (by decide) ?_
    refine TL.nil ?_
    refine TQ.thenC ?_
    refine TC.ret ?_
    refine TQ.thenR ?_
    refine TQ.retR rfl (Res.agg rfl Tb.agg_24 (by repeat (first | exact List.Mem.head _ | refine List.Mem.tail _ ?_ | refine List.mem_append_right _ ?_)) rfl (Res.tmp rfl Res.nil)) ?_
    simp only [tup]
    exact ⟨(0, none, []), rfl, ChF.bad hne, List.nil_sublist _⟩
  · skip
    refine TC.skip ?_
    refine TQ.thenC ?_
    refine TC.seq ?_
    have hz : shE n rs k = 0 := by omega
    obtain ⟨hv, hk0, hkl⟩ := shE_ok hz
    obtain ⟨kn, rfl⟩ : ∃ kn : Nat, k = kn := ⟨k.toNat, by omega⟩
    rw [Int.toNat_natCast] at hkl
    refine TC.region ?_
    refine TL.pure (PV.loadBox rfl Tb.agg_24 (by repeat (first | exact List.Mem.head _ | refine List.Mem.tail _ ?_ | refine List.mem_append_right _ ?_)) rfl) rfl (by decide) ?_
    refine TL.call rfl Tb.gofn_54 (fun a w hs => Copy_ok w n p cap rs.length rs rfl (hr.new hs.new) (by omega)) rfl (by decide) (fun h1 hh1 => ?_)
    refine TL.alloc Tb.zero_24 rfl (by decide) (fun b2 hb2 => ?_)
    refine TL.storeAgg rfl rfl Tb.cells_24 (by repeat (first | exact Upd.head _ | apply Upd.tail | apply Upd.appR)) rfl rfl (by first | rfl | exact sv_one _ _ _) rfl rfl ?_
    refine TL.nil ?_
    refine TQ.thenC ?_
    refine TC.seq ?_
    obtain ⟨q, hqp, hqa⟩ := hr kn hkl
    have hat := hv.at hkl
    refine TC.region ?_
    refine TL.pure (PV.fieldAddr rfl Tb.fo_24_1) rfl (by decide) ?_
    refine TL.pure (PV.load rfl Tb.one_22 (by repeat (first | exact List.Mem.head _ | refine List.Mem.tail _ ?_ | refine List.mem_append_right _ ?_)) rfl) rfl (by decide) ?_
    refine TL.pure (PV.move rfl) rfl (by decide) ?_
    refine TL.pure (PV.indexA rfl hqp rfl Tb.elm_22 rfl (by omega)) rfl (by decide) ?_
    refine TL.pure (PV.loadAggA rfl Tb.agg_61 rfl hqa) rfl (by decide) ?_
    refine TL.alloc Tb.zero_61 rfl (by decide) (fun b3 hb3 => ?_)
    refine TL.storeAgg rfl rfl Tb.cells_61 (by repeat (first | exact Upd.head _ | apply Upd.tail | apply Upd.appR)) rfl rfl rfl rfl rfl ?_
    refine TL.nil ?_
    refine TQ.thenC ?_
    refine TC.seq ?_
    refine TC.region ?_
    refine TL.pure (PV.fieldAddr rfl Tb.fo_24_1) rfl (by decide) ?_
    refine TL.pure (PV.load rfl Tb.one_22 (by repeat (first | exact List.Mem.head _ | refine List.Mem.tail _ ?_ | refine List.mem_append_right _ ?_)) rfl) rfl (by decide) ?_
    refine TL.pure (PV.move rfl) rfl (by decide) ?_
    refine TL.pure (PV.fieldAddr rfl Tb.fo_61_1) rfl (by decide) ?_
    refine TL.pure (PV.load rfl Tb.one_3 (by repeat (first | exact List.Mem.head _ | refine List.Mem.tail _ ?_ | refine List.mem_append_right _ ?_)) rfl) rfl (by decide) ?_
    refine TL.pure (PV.fieldAddr rfl Tb.fo_61_0) rfl (by decide) ?_
    refine TL.pure (PV.load rfl Tb.one_3 (by repeat (first | exact List.Mem.head _ | refine List.Mem.tail _ ?_ | refine List.mem_append_right _ ?_)) rfl) rfl (by decide) ?_
    refine TL.pure (PV.fieldAddr rfl Tb.fo_61_2) rfl (by decide) ?_
    refine TL.pure (PV.load rfl Tb.one_3 (by repeat (first | exact List.Mem.head _ | refine List.Mem.tail _ ?_ | refine List.mem_append_right _ ?_)) rfl) rfl (by decide) ?_
    refine TL.pure (PV.neg rfl (by omega)) rfl (by decide) ?_
    refine TL.pure (PV.fieldAddr rfl Tb.fo_61_3) rfl (by decide) ?_
    refine TL.pure (PV.load rfl Tb.one_3 (by repeat (first | exact List.Mem.head _ | refine List.Mem.tail _ ?_ | refine List.mem_append_right _ ?_)) rfl) rfl (by decide) ?_
    refine TL.pure (PV.build (cs := (turnR (rs.getD kn default)).cells.toArray) rfl Tb.zero_61 Tb.pl_61 rfl) rfl (by decide) ?_
    refine TL.pure (PV.indexG rfl rfl hh1 Tb.elm_22 rfl (by omega)) rfl (by decide) ?_
    refine TL.storeE (r := turnR (rs.getD kn default)) (j := kn) rfl rfl Tb.cells_61 hh1 (by repeat (first | exact TakeH.here _ _ _ _ | apply TakeH.tail | apply TakeH.app)) (by omega) rfl rfl ?_
    refine TL.nil ?_
    refine TQ.thenC ?_
    refine TC.seq ?_
    refine TC.region ?_
    refine TL.pure (PV.loadBox rfl Tb.agg_24 (by repeat (first | exact List.Mem.head _ | refine List.Mem.tail _ ?_ | refine List.mem_append_right _ ?_)) rfl) rfl (by decide) ?_
    refine TL.storeAgg rfl rfl Tb.cells_24 (by repeat (first | exact Upd.head _ | apply Upd.tail | apply Upd.appR)) rfl rfl (by first | rfl | exact sv_one _ _ _) rfl rfl ?_
    refine TL.pure (PV.assign rfl) rfl (by decide) ?_
    refine TL.nil ?_
    refine TQ.thenC ?_
    refine TC.ret ?_
    refine TQ.retR rfl (Res.agg rfl Tb.agg_24 (by repeat (first | exact List.Mem.head _ | refine List.Mem.tail _ ?_ | refine List.mem_append_right _ ?_)) rfl (Res.tmp rfl Res.nil)) ?_
    simp only [tup]
    exact ⟨(n, h1, tn rs kn), by rw [hz, show (tn rs kn).length = rs.length by unfold tn; simp], ChF.good hz (goS_set hh1 _ _), (by repeat (first | exact List.Sublist.slnil | exact List.nil_sublist _ | exact List.Sublist.refl _ | exact List.sublist_append_left _ _ | refine List.Sublist.cons_cons _ ?_ | refine List.Sublist.cons _ ?_ | refine List.Sublist.trans ?_ (List.sublist_append_right _ _)))⟩

end Go.Proofs.Ytmmgcajegokkoaa

namespace Go.Proofs.Ytmmgcajegokkoaa
open Go.Sx Go.RowKit



set_option maxRecDepth 100000 in
set_option maxHeartbeats 2000000 in
theorem levelChanges_ok (w0 : World) (n : Int) (p : Option Addr) (cap : Nat) (rs : List Rd) (hr : RdsAt w0 p rs) (hc : rs.length ≤ cap) (k : Int) :
    Calls Try.prog 14 #[sv n p rs.length cap, .int .i64 k] w0 (Post (X := Unit) (fun _ => .bool true) (fun _ => True) (fun _ => []) w0) := by
  refine calls Try.func14 rfl (n := 118) rfl (by simp) ?_
  refine TC.seq ?_
  refine TC.region ?_
  refine TL.box rfl rfl (by decide) (fun b0 hb0 => ?_)
  refine TL.pure (PV.assign rfl) rfl (by decide) ?_
  refine TL.nil ?_
  refine TQ.thenC ?_
  refine TC.seq ?_
  refine TC.seq ?_
  refine TC.region ?_
  refine TL.pure (PV.loadBox rfl Tb.agg_24 (by repeat (first | exact List.Mem.head _ | refine List.Mem.tail _ ?_ | refine List.mem_append_right _ ?_)) rfl) rfl (by decide) ?_
  refine TL.call rfl Tb.gofn_17 (fun a w hs => long_ok w _ _ _ _) rfl (by decide) (fun _ _ => ?_)
  refine TL.nil ?_
  refine TQ.thenC ?_
  first | refine TC.condD rfl (fun hlong => ?_) (fun hlong => ?_) | refine TC.cond rfl (fun hlong => ?_) (fun hlong => ?_)
  · skip
    refine TC.seq ?_
    refine TC.region ?_
    refine TL.call rfl Tb.gofn_18 (fun a w hs => known_ok w) rfl (by decide) (fun _ _ => ?_)
    refine TL.pure (PV.assign rfl) rfl (by decide) ?_
    refine TL.nil ?_
    refine TQ.thenC ?_
    refine TC.ret ?_
    refine TQ.thenR ?_
    refine TQ.retE1 rfl rfl ?_
    first | exact ⟨(), rfl, trivial, List.nil_sublist _⟩ | (exfalso; simp_all; done)
  · skip
    refine TC.skip ?_
    refine TQ.thenC ?_
    refine TC.seq ?_
    refine TC.region ?_
    refine TL.pure (PV.loadBox rfl Tb.agg_24 (by repeat (first | exact List.Mem.head _ | refine List.Mem.tail _ ?_ | refine List.mem_append_right _ ?_)) rfl) rfl (by decide) ?_
    refine TL.call rfl Tb.gofn_54 (fun a w hs => Copy_ok w n p cap rs.length rs rfl (hr.new hs.new) (by omega)) rfl (by decide) (fun h0 hh0 => ?_)
    refine TL.alloc Tb.zero_24 rfl (by decide) (fun b1 hb1 => ?_)
    refine TL.storeAgg rfl rfl Tb.cells_24 (by repeat (first | exact Upd.head _ | apply Upd.tail | apply Upd.appR)) rfl rfl (by first | rfl | exact sv_one _ _ _) rfl rfl ?_
    refine TL.nil ?_
    refine TQ.thenC ?_
    refine TC.seq ?_
    refine TC.region ?_
    refine TL.pure (PV.loadBox rfl Tb.agg_24 (by repeat (first | exact List.Mem.head _ | refine List.Mem.tail _ ?_ | refine List.mem_append_right _ ?_)) rfl) rfl (by decide) ?_
    refine TL.pure (PV.move rfl) rfl (by decide) ?_
    refine TL.call rfl Tb.gofn_55 (fun a w hs => without2S w n h0 rs.length rs rfl hh0 (RdsAt.s hs.new (fun yy hyy => by first | exact List.mem_append_left _ hyy | (simp only [List.mem_append, List.mem_cons]; simp [hyy])) hh0) (by omega) k) rfl (by decide) (fun xa hxa => ?_)
    refine TL.pure (PV.move rfl) rfl (by decide) ?_
    refine TL.pure (PV.extract rfl rfl) rfl (by decide) ?_
    refine TL.pure (PV.extract rfl rfl) rfl (by decide) ?_
    refine TL.alloc Tb.zero_24 rfl (by decide) (fun b2 hb2 => ?_)
    refine TL.storeAgg rfl rfl Tb.cells_24 (by repeat (first | exact Upd.head _ | apply Upd.tail | apply Upd.appR)) rfl rfl (by first | rfl | exact sv_one _ _ _) rfl rfl ?_
    refine TL.pure (PV.assign rfl) rfl (by decide) ?_
    refine TL.nil ?_
    refine TQ.thenC ?_
    refine TC.seq ?_
    refine TC.region ?_
    refine TL.pure (PV.loadBox rfl Tb.agg_24 (by repeat (first | exact List.Mem.head _ | refine List.Mem.tail _ ?_ | refine List.mem_append_right _ ?_)) rfl) rfl (by decide) ?_
    refine TL.pure (PV.move rfl) rfl (by decide) ?_
    refine TL.call rfl Tb.gofn_56 (fun a w hs => rWithout_ok w n p cap rs (hr.new hs.new) hc (by omega) k) rfl (by decide) (fun ya hya => ?_)
    refine TL.pure (PV.move rfl) rfl (by decide) ?_
    refine TL.pure (PV.extract rfl rfl) rfl (by decide) ?_
    refine TL.pure (PV.extract rfl rfl) rfl (by decide) ?_
    refine TL.alloc Tb.zero_24 rfl (by decide) (fun b3 hb3 => ?_)
    refine TL.storeAgg rfl rfl Tb.cells_24 (by repeat (first | exact Upd.head _ | apply Upd.tail | apply Upd.appR)) rfl rfl (by first | rfl | exact sv_one _ _ _) rfl rfl ?_
    refine TL.pure (PV.assign rfl) rfl (by decide) ?_
    refine TL.nil ?_
    refine TQ.thenC ?_
    refine TC.seq ?_
    refine TC.region ?_
    refine TL.pure (PV.loadBox rfl Tb.agg_24 (by repeat (first | exact List.Mem.head _ | refine List.Mem.tail _ ?_ | refine List.mem_append_right _ ?_)) rfl) rfl (by decide) ?_
    refine TL.pure (PV.move rfl) rfl (by decide) ?_
    refine TL.call rfl Tb.gofn_57 (fun a w hs => turnS w n h0 rs.length rs rfl hh0 (RdsAt.s hs.new (fun yy hyy => by first | exact List.mem_append_left _ hyy | (simp only [List.mem_append, List.mem_cons]; simp [hyy])) hh0) (by omega) k) rfl (by decide) (fun za hza => ?_)
    refine TL.pure (PV.move rfl) rfl (by decide) ?_
    refine TL.pure (PV.extract rfl rfl) rfl (by decide) ?_
    refine TL.pure (PV.extract rfl rfl) rfl (by decide) ?_
    refine TL.alloc Tb.zero_24 rfl (by decide) (fun b4 hb4 => ?_)
    refine TL.storeAgg rfl rfl Tb.cells_24 (by repeat (first | exact Upd.head _ | apply Upd.tail | apply Upd.appR)) rfl rfl (by first | rfl | exact sv_one _ _ _) rfl rfl ?_
    refine TL.pure (PV.assign rfl) rfl (by decide) ?_
    refine TL.nil ?_
    refine TQ.thenC ?_
    refine TC.seq ?_
    refine TC.region ?_
    refine TL.pure (PV.loadBox rfl Tb.agg_24 (by repeat (first | exact List.Mem.head _ | refine List.Mem.tail _ ?_ | refine List.mem_append_right _ ?_)) rfl) rfl (by decide) ?_
    refine TL.pure (PV.move rfl) rfl (by decide) ?_
    refine TL.call rfl Tb.gofn_58 (fun a w hs => rTurn_ok w n p cap rs (hr.new hs.new) (by omega) k) rfl (by decide) (fun wa hwa => ?_)
    refine TL.pure (PV.move rfl) rfl (by decide) ?_
    refine TL.pure (PV.extract rfl rfl) rfl (by decide) ?_
    refine TL.pure (PV.extract rfl rfl) rfl (by decide) ?_
    refine TL.alloc Tb.zero_24 rfl (by decide) (fun b5 hb5 => ?_)
    refine TL.storeAgg rfl rfl Tb.cells_24 (by repeat (first | exact Upd.head _ | apply Upd.tail | apply Upd.appR)) rfl rfl (by first | rfl | exact sv_one _ _ _) rfl rfl ?_
    refine TL.pure (PV.assign rfl) rfl (by decide) ?_
    refine TL.nil ?_
    refine TQ.thenC ?_
    refine TC.seq ?_
    refine TC.seq ?_
    have lx := hxa.len
    have ly := hya.len
    have lz := hza.len
    have lw := hwa.len
    have ld : (del rs k.toNat).length ≤ rs.length := by unfold del; simp; omega
    have lt : (tn rs k.toNat).length = rs.length := by unfold tn; simp
    refine TC.region ?_
    refine TL.pure (PV.loadBox rfl Tb.agg_24 (by repeat (first | exact List.Mem.head _ | refine List.Mem.tail _ ?_ | refine List.mem_append_right _ ?_)) rfl) rfl (by decide) ?_
    refine TL.pure (PV.loadBox rfl Tb.agg_24 (by repeat (first | exact List.Mem.head _ | refine List.Mem.tail _ ?_ | refine List.mem_append_right _ ?_)) rfl) rfl (by decide) ?_
    refine TL.call rfl Tb.gofn_53 (fun a w hs => sameS rfl rfl hxa.ok hya.ok (RdsAt.s hs.new (fun yy hyy => by first | exact List.mem_append_left _ hyy | (simp only [List.mem_append, List.mem_cons]; simp [hyy])) hxa.ok) (RdsAt.s hs.new (fun yy hyy => by first | exact List.mem_append_left _ hyy | (simp only [List.mem_append, List.mem_cons]; simp [hyy])) hya.ok) (by omega) (by omega)) rfl (by decide) (fun _ _ => ?_)
    refine TL.pure ((by first | exact PV.notD rfl | exact PV.not rfl)) rfl (by decide) ?_
    refine TL.pure (PV.move rfl) rfl (by decide) ?_
    first | refine TL.splitD 52 rfl (fun g0 => ?_) (fun g0 => ?_) | refine TL.split 52 rfl (fun g0 => ?_) (fun g0 => ?_)
    · skip
      exact (g0 (ChF.same hxa hya)).elim
    · skip
      refine TL.pure (PV.move rfl) rfl (by decide) ?_
      refine TL.pure (PV.move rfl) rfl (by decide) ?_
      refine TL.pure (PV.neq rfl rfl) rfl (by decide) ?_
      refine TL.pure (PV.pickF rfl rfl) rfl (by decide) ?_
      refine TL.pure (PV.move rfl) rfl (by decide) ?_
      first | refine TL.splitD 57 rfl (fun g1 => ?_) (fun g1 => ?_) | refine TL.split 57 rfl (fun g1 => ?_) (fun g1 => ?_)
      · skip
        exact (g1 rfl).elim
      · skip
        refine TL.pure (PV.loadBox rfl Tb.agg_24 (by repeat (first | exact List.Mem.head _ | refine List.Mem.tail _ ?_ | refine List.mem_append_right _ ?_)) rfl) rfl (by decide) ?_
        refine TL.pure (PV.loadBox rfl Tb.agg_24 (by repeat (first | exact List.Mem.head _ | refine List.Mem.tail _ ?_ | refine List.mem_append_right _ ?_)) rfl) rfl (by decide) ?_
        refine TL.call rfl Tb.gofn_53 (fun a w hs => sameS rfl rfl hza.ok hwa.ok (RdsAt.s hs.new (fun yy hyy => by first | exact List.mem_append_left _ hyy | (simp only [List.mem_append, List.mem_cons]; simp [hyy])) hza.ok) (RdsAt.s hs.new (fun yy hyy => by first | exact List.mem_append_left _ hyy | (simp only [List.mem_append, List.mem_cons]; simp [hyy])) hwa.ok) (by omega) (by omega)) rfl (by decide) (fun _ _ => ?_)
        refine TL.pure ((by first | exact PV.notD rfl | exact PV.not rfl)) rfl (by decide) ?_
        refine TL.pure (PV.pickF rfl rfl) rfl (by decide) ?_
        refine TL.pure (PV.move rfl) rfl (by decide) ?_
        first | refine TL.splitD 63 rfl (fun g2 => ?_) (fun g2 => ?_) | refine TL.split 63 rfl (fun g2 => ?_) (fun g2 => ?_)
        · skip
          exact (g2 (ChF.same hza hwa)).elim
        · skip
          refine TL.pure (PV.move rfl) rfl (by decide) ?_
          refine TL.pure (PV.move rfl) rfl (by decide) ?_
          refine TL.pure (PV.neq rfl rfl) rfl (by decide) ?_
          refine TL.pure (PV.pickF rfl rfl) rfl (by decide) ?_
          refine TL.nil ?_
          refine TQ.thenC ?_
          first | refine TC.condD rfl (fun g3 => ?_) (fun g3 => ?_) | refine TC.cond rfl (fun g3 => ?_) (fun g3 => ?_)
          · skip
            exact (g3 rfl).elim
          · skip
            refine TC.skip ?_
            refine TQ.thenC ?_
            refine TC.seq ?_
            refine TC.region ?_
            refine TL.pure (PV.loadBox rfl Tb.agg_24 (by repeat (first | exact List.Mem.head _ | refine List.Mem.tail _ ?_ | refine List.mem_append_right _ ?_)) rfl) rfl (by decide) ?_
            refine TL.pure (PV.move rfl) rfl (by decide) ?_
            refine TL.call rfl Tb.gofn_57 (fun a w hs => turnS w za.1 za.2.1 za.2.2.length za.2.2 rfl hza.ok (RdsAt.s hs.new (fun yy hyy => by first | exact List.mem_append_left _ hyy | (simp only [List.mem_append, List.mem_cons]; simp [hyy])) hza.ok) (by omega) k) rfl (by decide) (fun ua hua => ?_)
            refine TL.pure (PV.move rfl) rfl (by decide) ?_
            refine TL.pure (PV.extract rfl rfl) rfl (by decide) ?_
            refine TL.pure (PV.extract rfl rfl) rfl (by decide) ?_
            refine TL.alloc Tb.zero_24 rfl (by decide) (fun b6 hb6 => ?_)
            refine TL.storeAgg rfl rfl Tb.cells_24 (by repeat (first | exact Upd.head _ | apply Upd.tail | apply Upd.appR)) rfl rfl (by first | rfl | exact sv_one _ _ _) rfl rfl ?_
            refine TL.pure (PV.assign rfl) rfl (by decide) ?_
            refine TL.nil ?_
            refine TQ.thenC ?_
            refine TC.seqK [2, 4, 5, 6, 10] (X := Unit) (fun x => True) (fun x => [(16, .bool true)]) (fun x => (b4, .cells #[.int .i64 za.1, gval za.2.1 za.2.2.length] 24 (0, 0)) :: (gbS za.2.1 za.2.2 ++ ((b2, .cells #[.int .i64 xa.1, gval xa.2.1 xa.2.2.length] 24 (0, 0)) :: (gbS xa.2.1 xa.2.2 ++ ((b1, .cells #[.int .i64 n, gval h0 rs.length] 24 (0, 0)) :: (gbS h0 rs ++ [(b0, .cells #[.int .i64 n, .slice p rs.length cap] 24 (0, 0))])))))) ?_ ?_
            · skip
              refine TC.region ?_
              refine TL.pure (PV.move rfl) rfl (by decide) ?_
              refine TL.pure (PV.neq rfl rfl) rfl (by decide) ?_
              refine TL.pure (PV.move rfl) rfl (by decide) ?_
              have lu := hua.len
              have lt2 : (tn za.2.2 k.toNat).length = za.2.2.length := by unfold tn; simp
              first | refine TL.splitD 76 rfl (fun g4 => ?_) (fun g4 => ?_) | refine TL.split 76 rfl (fun g4 => ?_) (fun g4 => ?_)
              · skip
                have lu := hua.len
                have lt2 : (tn za.2.2 k.toNat).length = za.2.2.length := by unfold tn; simp
                refine TL.skip rfl (fun k hk => by cases hk; decide) ?_
                refine TL.skip rfl (fun k hk => by cases hk; decide) ?_
                refine TL.skip rfl (fun k hk => by cases hk; decide) ?_
                try have hz : shE n rs k = 0 := by omega
                try have z1 : za.1 = n := by rw [hza.num, if_pos hz]
                try have z2 : za.2.2 = tn rs k.toNat := by rw [hza.eq, if_pos hz]
                try have hback : shE za.1 za.2.2 k = 0 := by rw [z1, z2]; exact tn_shE hz
                refine TL.skipU rfl (fun k hk => by cases hk; decide) ?_
                refine TL.skipU rfl (fun k hk => by cases hk; decide) ?_
                refine TL.skipU rfl (fun k hk => by cases hk; decide) ?_
                first | (refine TL.split 82 rfl (fun gs => ?_) (fun gs => (by exfalso; obtain ⟨hv9, hk9, hl9⟩ := shE_ok hz; have q1 : ua.1 = n := by { rw [hua.num, if_pos hback]; exact z1 }; have q2 : ua.2.2 = rs := by { rw [hua.eq, if_pos hback, z2]; exact tn_tn hl9 }; exact absurd (show sameB ua.1 n ua.2.2 rs = true from decide_eq_true ⟨q1, q2⟩) (by rw [gs]; simp)))) | skip
                refine TL.skip rfl (fun k hk => by cases hk; decide) ?_
                refine TL.pure (PV.pickT rfl rfl) rfl (by decide) ?_
                refine TL.pure (PV.assign rfl) rfl (by decide) ?_
                refine TL.nil ?_
                refine TQ.thenN ?_
                refine TQ.midK () (by repeat (first | exact True.intro | refine And.intro rfl ?_)) (by repeat (first | exact True.intro | refine And.intro rfl ?_)) (by repeat (first | exact List.Sublist.slnil | exact List.nil_sublist _ | exact List.Sublist.refl _ | refine List.Sublist.cons_cons _ ?_ | refine (List.append_sublist_append_left _).2 ?_ | refine List.Sublist.cons _ ?_ | refine List.Sublist.trans ?_ (List.sublist_append_right _ _))) (by first | trivial | omega)
              · skip
                have lu := hua.len
                have lt2 : (tn za.2.2 k.toNat).length = za.2.2.length := by unfold tn; simp
                refine TL.pure (PV.move rfl) rfl (by decide) ?_
                refine TL.pure (PV.eql rfl rfl) rfl (by decide) ?_
                refine TL.pure (PV.move rfl) rfl (by decide) ?_
                try have hz : shE n rs k = 0 := by omega
                try have z1 : za.1 = n := by rw [hza.num, if_pos hz]
                try have z2 : za.2.2 = tn rs k.toNat := by rw [hza.eq, if_pos hz]
                try have hback : shE za.1 za.2.2 k = 0 := by rw [z1, z2]; exact tn_shE hz
                first | refine TL.splitD 79 rfl (fun g5 => ?_) (fun g5 => ?_) | refine TL.split 79 rfl (fun g5 => ?_) (fun g5 => ?_)
                · skip
                  try have hz : shE n rs k = 0 := by omega
                  try have z1 : za.1 = n := by rw [hza.num, if_pos hz]
                  try have z2 : za.2.2 = tn rs k.toNat := by rw [hza.eq, if_pos hz]
                  try have hback : shE za.1 za.2.2 k = 0 := by rw [z1, z2]; exact tn_shE hz
                  refine TL.pure (PV.loadBox rfl Tb.agg_24 (by repeat (first | exact List.Mem.head _ | refine List.Mem.tail _ ?_ | refine List.mem_append_right _ ?_)) rfl) rfl (by decide) ?_
                  refine TL.pure (PV.loadBox rfl Tb.agg_24 (by repeat (first | exact List.Mem.head _ | refine List.Mem.tail _ ?_ | refine List.mem_append_right _ ?_)) rfl) rfl (by decide) ?_
                  refine TL.call rfl Tb.gofn_53 (fun a w hs => sameM rfl hua.ok (RdsAt.s hs.new (fun yy hyy => by first | exact List.mem_append_left _ hyy | (simp only [List.mem_append, List.mem_cons]; simp [hyy])) hua.ok) (hr.new hs.new) (by omega) (by omega)) rfl (by decide) (fun _ _ => ?_)
                  first | (refine TL.split 82 rfl (fun gs => ?_) (fun gs => (by exfalso; obtain ⟨hv9, hk9, hl9⟩ := shE_ok hz; have q1 : ua.1 = n := by { rw [hua.num, if_pos hback]; exact z1 }; have q2 : ua.2.2 = rs := by { rw [hua.eq, if_pos hback, z2]; exact tn_tn hl9 }; exact absurd (show sameB ua.1 n ua.2.2 rs = true from decide_eq_true ⟨q1, q2⟩) (by rw [gs]; simp)))) | skip
                  refine TL.pure (PV.pickT rfl rfl) rfl (by decide) ?_
                  refine TL.pure (PV.pickF rfl rfl) rfl (by decide) ?_
                  refine TL.pure (PV.assign rfl) rfl (by decide) ?_
                  refine TL.nil ?_
                  refine TQ.thenN ?_
                  refine TQ.midK () (by repeat (first | exact True.intro | refine And.intro rfl ?_)) (by repeat (first | exact True.intro | refine And.intro rfl ?_)) (by repeat (first | exact List.Sublist.slnil | exact List.nil_sublist _ | exact List.Sublist.refl _ | refine List.Sublist.cons_cons _ ?_ | refine (List.append_sublist_append_left _).2 ?_ | refine List.Sublist.cons _ ?_ | refine List.Sublist.trans ?_ (List.sublist_append_right _ _))) (by first | trivial | omega)
                · skip
                  exact (g5 hback).elim
            · skip
              intro _ _
              refine TC.seq ?_
              refine TC.seq ?_
              refine TC.region ?_
              refine TL.pure (PV.assign rfl) rfl (by decide) ?_
              refine TL.nil ?_
              refine TQ.thenC ?_
              refine TC.block ?_
              refine TC.loopK [2, 4, 5, 6, 10, 16] (X := Nat × List Rd) (fun v => v.1 ≤ xa.2.2.length ∧ v.2.length = xa.2.2.length) (fun v => [(17, .int .i64 v.1)]) (fun v => (b4, .cells #[.int .i64 za.1, gval za.2.1 za.2.2.length] 24 (0, 0)) :: (gbS za.2.1 za.2.2 ++ ((b2, .cells #[.int .i64 xa.1, gval xa.2.1 xa.2.2.length] 24 (0, 0)) :: (gbS xa.2.1 v.2 ++ ((b1, .cells #[.int .i64 n, gval h0 rs.length] 24 (0, 0)) :: (gbS h0 rs ++ [(b0, .cells #[.int .i64 n, .slice p rs.length cap] 24 (0, 0))])))))) (fun v => xa.2.2.length - v.1) (0, xa.2.2) ⟨Nat.zero_le _, rfl⟩ (by repeat (first | exact True.intro | refine And.intro rfl ?_)) (by repeat (first | exact List.Sublist.slnil | exact List.nil_sublist _ | exact List.Sublist.refl _ | refine List.Sublist.cons_cons _ ?_ | refine List.Sublist.cons _ ?_ | refine List.Sublist.trans ?_ (List.sublist_append_right _ _))) ?_
              intro v hv
              refine TC.seq ?_
              refine TC.seq ?_
              refine TC.region ?_
              refine TL.pure (PV.move rfl) rfl (by decide) ?_
              refine TL.pure (PV.fieldAddr rfl Tb.fo_24_1) rfl (by decide) ?_
              refine TL.pure (PV.load rfl Tb.one_22 (by repeat (first | exact List.Mem.head _ | refine List.Mem.tail _ ?_ | refine List.mem_append_right _ ?_)) rfl) rfl (by decide) ?_
              refine TL.pure (PV.lenG rfl hxa.ok Tb.sl_22) rfl (by decide) ?_
              refine TL.pure (PV.lss rfl rfl) rfl (by decide) ?_
              refine TL.nil ?_
              refine TQ.thenC ?_
              first | refine TC.condD rfl (fun h7 => ?_) (fun h7 => ?_) | refine TC.cond rfl (fun h7 => ?_) (fun h7 => ?_)
              · skip
                refine TC.skip ?_
                refine TQ.thenC ?_
                refine TC.seq ?_
                refine TC.block ?_
                refine TC.region ?_
                refine TL.pure (PV.fieldAddr rfl Tb.fo_24_1) rfl (by decide) ?_
                refine TL.pure (PV.load rfl Tb.one_22 (by repeat (first | exact List.Mem.head _ | refine List.Mem.tail _ ?_ | refine List.mem_append_right _ ?_)) rfl) rfl (by decide) ?_
                refine TL.pure (PV.move rfl) rfl (by decide) ?_
                refine TL.pure (PV.indexG (j := v.1) rfl rfl hxa.ok Tb.elm_22 rfl (by omega)) rfl (by decide) ?_
                refine TL.pure (PV.fieldAddr rfl Tb.fo_61_3) rfl (by decide) ?_
                refine TL.putF (h := xa.2.1) (l0 := v.2) (j := v.1) (f := 3) (v := -1) rfl rfl Tb.cells_3 (goS_len hxa.ok hv.2) (by repeat (first | exact PutH.here _ _ _ _ | apply PutH.tail | apply PutH.app)) (by omega) (by decide) rfl rfl ?_
                refine TL.nil ?_
                refine TQ.blkN ?_
                refine TQ.thenC ?_
                refine TC.region ?_
                refine TL.pure (PV.move rfl) rfl (by decide) ?_
                refine TL.pure (PV.add rfl rfl (by omega)) rfl (by decide) ?_
                refine TL.pure (PV.assign rfl) rfl (by decide) ?_
                refine TL.nil ?_
                refine TQ.thenN ?_
                refine TQ.backK (v.1 + 1, v.2.set v.1 (setF (v.2.getD v.1 default) 3 (-1))) (by repeat (first | exact True.intro | refine And.intro rfl ?_)) (by repeat (first | exact True.intro | refine And.intro rfl ?_)) (by repeat (first | exact List.Sublist.slnil | exact List.nil_sublist _ | exact List.Sublist.refl _ | refine List.Sublist.cons_cons _ ?_ | refine List.Sublist.cons _ ?_ | refine List.Sublist.trans ?_ (List.sublist_append_right _ _))) ⟨by simp only; omega, by simp only [List.length_set]; exact hv.2⟩ (by simp only; omega)
              · skip
                refine TC.exit ?_
                refine TQ.thenE ?_
                refine TQ.thenE ?_
                refine TQ.blkS ?_
                refine TQ.thenC ?_
                refine TC.seq ?_
                refine TC.seq ?_
                refine TC.region ?_
                refine TL.pure (PV.assign rfl) rfl (by decide) ?_
                refine TL.nil ?_
                refine TQ.thenC ?_
                refine TC.block ?_
                refine TC.loopK [2, 4, 5, 10, 16] (X := Nat × List Rd) (fun u => u.1 ≤ za.2.2.length ∧ u.2.length = za.2.2.length) (fun u => [(18, .int .i64 u.1)]) (fun u => (b4, .cells #[.int .i64 za.1, gval za.2.1 za.2.2.length] 24 (0, 0)) :: (gbS za.2.1 u.2 ++ ((b2, .cells #[.int .i64 xa.1, gval xa.2.1 xa.2.2.length] 24 (0, 0)) :: (gbS xa.2.1 v.2 ++ ((b1, .cells #[.int .i64 n, gval h0 rs.length] 24 (0, 0)) :: (gbS h0 rs ++ [(b0, .cells #[.int .i64 n, .slice p rs.length cap] 24 (0, 0))])))))) (fun u => za.2.2.length - u.1) (0, za.2.2) ⟨Nat.zero_le _, rfl⟩ (by repeat (first | exact True.intro | refine And.intro rfl ?_)) (by repeat (first | exact List.Sublist.slnil | exact List.nil_sublist _ | exact List.Sublist.refl _ | refine List.Sublist.cons_cons _ ?_ | refine List.Sublist.cons _ ?_ | refine List.Sublist.trans ?_ (List.sublist_append_right _ _))) ?_
                intro u hu
                refine TC.seq ?_
                refine TC.seq ?_
                refine TC.region ?_
                refine TL.pure (PV.move rfl) rfl (by decide) ?_
                refine TL.pure (PV.fieldAddr rfl Tb.fo_24_1) rfl (by decide) ?_
                refine TL.pure (PV.load rfl Tb.one_22 (by repeat (first | exact List.Mem.head _ | refine List.Mem.tail _ ?_ | refine List.mem_append_right _ ?_)) rfl) rfl (by decide) ?_
                refine TL.pure (PV.lenG rfl hza.ok Tb.sl_22) rfl (by decide) ?_
                refine TL.pure (PV.lss rfl rfl) rfl (by decide) ?_
                refine TL.nil ?_
                refine TQ.thenC ?_
                first | refine TC.condD rfl (fun h8 => ?_) (fun h8 => ?_) | refine TC.cond rfl (fun h8 => ?_) (fun h8 => ?_)
                · skip
                  refine TC.skip ?_
                  refine TQ.thenC ?_
                  refine TC.seq ?_
                  refine TC.block ?_
                  refine TC.region ?_
                  refine TL.pure (PV.fieldAddr rfl Tb.fo_24_1) rfl (by decide) ?_
                  refine TL.pure (PV.load rfl Tb.one_22 (by repeat (first | exact List.Mem.head _ | refine List.Mem.tail _ ?_ | refine List.mem_append_right _ ?_)) rfl) rfl (by decide) ?_
                  refine TL.pure (PV.move rfl) rfl (by decide) ?_
                  refine TL.pure (PV.indexG (j := u.1) rfl rfl hza.ok Tb.elm_22 rfl (by omega)) rfl (by decide) ?_
                  refine TL.pure (PV.fieldAddr rfl Tb.fo_61_3) rfl (by decide) ?_
                  refine TL.putF (h := za.2.1) (l0 := u.2) (j := u.1) (f := 3) (v := -1) rfl rfl Tb.cells_3 (goS_len hza.ok hu.2) (by repeat (first | exact PutH.here _ _ _ _ | apply PutH.tail | apply PutH.app)) (by omega) (by decide) rfl rfl ?_
                  refine TL.nil ?_
                  refine TQ.blkN ?_
                  refine TQ.thenC ?_
                  refine TC.region ?_
                  refine TL.pure (PV.move rfl) rfl (by decide) ?_
                  refine TL.pure (PV.add rfl rfl (by omega)) rfl (by decide) ?_
                  refine TL.pure (PV.assign rfl) rfl (by decide) ?_
                  refine TL.nil ?_
                  refine TQ.thenN ?_
                  refine TQ.backK (u.1 + 1, u.2.set u.1 (setF (u.2.getD u.1 default) 3 (-1))) (by repeat (first | exact True.intro | refine And.intro rfl ?_)) (by repeat (first | exact True.intro | refine And.intro rfl ?_)) (by repeat (first | exact List.Sublist.slnil | exact List.nil_sublist _ | exact List.Sublist.refl _ | refine List.Sublist.cons_cons _ ?_ | refine List.Sublist.cons _ ?_ | refine List.Sublist.trans ?_ (List.sublist_append_right _ _))) ⟨by simp only; omega, by simp only [List.length_set]; exact hu.2⟩ (by simp only; omega)
                · skip
                  refine TC.exit ?_
                  refine TQ.thenE ?_
                  refine TQ.thenE ?_
                  refine TQ.blkS ?_
                  refine TQ.thenC ?_
                  refine TC.seq ?_
                  refine TC.region ?_
                  refine TL.pure (PV.move rfl) rfl (by decide) ?_
                  refine TL.pure (PV.move rfl) rfl (by decide) ?_
                  first | refine TL.splitD 110 rfl (fun g6 => ?_) (fun g6 => ?_) | refine TL.split 110 rfl (fun g6 => ?_) (fun g6 => ?_)
                  · skip
                    refine TL.pure (PV.loadBox rfl Tb.agg_24 (by repeat (first | exact List.Mem.head _ | refine List.Mem.tail _ ?_ | refine List.mem_append_right _ ?_)) rfl) rfl (by decide) ?_
                    refine TL.pure (PV.loadBox rfl Tb.agg_24 (by repeat (first | exact List.Mem.head _ | refine List.Mem.tail _ ?_ | refine List.mem_append_right _ ?_)) rfl) rfl (by decide) ?_
                    refine TL.call rfl Tb.gofn_53 (fun a w hs => sameM rfl hh0 (RdsAt.s hs.new (fun yy hyy => by first | exact List.mem_append_left _ hyy | (simp only [List.mem_append, List.mem_cons]; simp [hyy])) hh0) (hr.new hs.new) (by omega) (by omega)) rfl (by decide) (fun _ _ => ?_)
                    refine TL.pure (PV.pickT rfl rfl) rfl (by decide) ?_
                    refine TL.pure (PV.move rfl) rfl (by decide) ?_
                    first | refine TL.splitD 115 rfl (fun g7 => ?_) (fun g7 => ?_) | refine TL.split 115 rfl (fun g7 => ?_) (fun g7 => ?_)
                    · skip
                      refine TL.call rfl Tb.gofn_18 (fun a w hs => known_ok w) rfl (by decide) (fun _ _ => ?_)
                      refine TL.pure (PV.pickT rfl rfl) rfl (by decide) ?_
                      refine TL.pure (PV.assign rfl) rfl (by decide) ?_
                      refine TL.nil ?_
                      refine TQ.thenC ?_
                      refine TC.ret ?_
                      refine TQ.retE1 rfl rfl ?_
                      first | exact ⟨(), rfl, trivial, List.nil_sublist _⟩ | (exfalso; simp_all; done)
                    · skip
                      exact (g7 ⟨rfl, rfl⟩).elim
                  · skip
                    refine TL.skip rfl (fun k hk => by cases hk; decide) ?_
                    refine TL.skip rfl (fun k hk => by cases hk; decide) ?_
                    refine TL.skip rfl (fun k hk => by cases hk; decide) ?_
                    refine TL.pure (PV.pickF rfl rfl) rfl (by decide) ?_
                    refine TL.pure (PV.move rfl) rfl (by decide) ?_
                    refine TL.skip rfl (fun k hk => by cases hk; decide) ?_
                    refine TL.pure (PV.pickF rfl rfl) rfl (by decide) ?_
                    refine TL.pure (PV.assign rfl) rfl (by decide) ?_
                    refine TL.nil ?_
                    refine TQ.thenC ?_
                    refine TC.ret ?_
                    refine TQ.retE1 rfl rfl ?_
                    first | exact ⟨(), rfl, trivial, List.nil_sublist _⟩ | (exfalso; simp_all; done)

theorem levelChanges_all (w0 : World) (n : Int) (p : Option Addr) (cap : Nat) (rs : List Rd) (hr : RdsAt w0 p rs) (hc : rs.length ≤ cap) (k : Int) (_ : I64 k) :
    Calls Try.prog 14 #[sv n p rs.length cap, .int .i64 k] w0 (Post (X := Unit) (fun _ => .bool true) (fun _ => True) (fun _ => []) w0) := levelChanges_ok w0 n p cap rs hr hc k
end Go.Proofs.Ytmmgcajegokkoaa

/- Shares of readings: contracts. -/
import Derived.Test.YtmmgcajegokkoaaU1
namespace Go.Proofs.Ytmmgcajegokkoaa
open Go.Sx Go.RowKit

theorem Valid.nat {n : Int} {rs : List Rd} (hv : Valid n rs) : Valid (n.toNat : Int) rs ∧ ((n.toNat : Nat) : Int) = n := by
  have hp := hv.pts
  have e : ((n.toNat : Nat) : Int) = n := by omega
  exact ⟨by rw [e]; exact hv, e⟩
/-- An error's numbers, in lowest terms. -/
def rA (N : Nat) (rs : List Rd) (i j : Nat) : Int := (RR N rs i j).tdiv (lowG (RR N rs i j) (denO N rs))
def rB (N : Nat) (rs : List Rd) (i j : Nat) : Int := (denO N rs).tdiv (lowG (RR N rs i j) (denO N rs))
theorem resV_eq {N : Nat} {rs : List Rd} {i j : Nat} (hv : Valid (N : Int) rs) (hi : i < N) (hj : j < N) : resV N rs (i : Int) (j : Int) = .agg #[.int .i64 (rA N rs i j), .int .i64 (rB N rs i j)] := by
  rw [resV, lowV, solD_eq hv, Int.toNat_natCast, Int.toNat_natCast, solZ_get _ _ _ hi, solZ_get _ _ _ hj]
  rfl
theorem resistance_any (w0 : World) (n : Int) (p : Option Addr) (cap : Nat) (rs : List Rd) (hr : RdsAt w0 p rs) (hv : Valid n rs) (i j : Int) (hi : 0 ≤ i ∧ i < n) (hj : 0 ≤ j ∧ j < n) :
    Calls Try.prog 83 #[sv n p rs.length cap, .int .i64 i, .int .i64 j] w0 (Post (X := Unit) (fun _ => .agg #[.int .i64 (rA n.toNat rs i.toNat j.toNat), .int .i64 (rB n.toNat rs i.toNat j.toNat)]) (fun _ => True) (fun _ => []) w0) := by
  have h := resistance_ok w0 n p cap rs hr hv i j hi hj (solved (N := n.toNat) hv.nat.1 (resL_48 _ i j)).sound
  have e := resV_eq (i := i.toNat) (j := j.toNat) hv.nat.1 (by omega) (by omega)
  rw [show ((i.toNat : Nat) : Int) = i by omega, show ((j.toNat : Nat) : Int) = j by omega] at e
  rw [e] at h
  exact h
structure RIs (N : Nat) (rs : List Rd) (i j : Nat) (g : Int) : Prop where
  pos : 0 < g
  num : rA N rs i j * g = RR N rs i j
  den : rB N rs i j * g = denO N rs
  dpos : 1 ≤ rB N rs i j
  dle : rB N rs i j ≤ 331776
  nb : Bn (rA N rs i j) 1327104
theorem low_pos {num den : Int} (h : 0 < den) : 1 ≤ den.tdiv (lowG num den) := by
  have hg := low_bound (num := num) h
  have hc := (low_cut num den).2
  rcases Int.lt_or_le 0 (den.tdiv (lowG num den)) with h1 | h1
  · omega
  · have := Int.mul_nonpos_of_nonpos_of_nonneg h1 (show 0 ≤ lowG num den by omega)
    omega
theorem rIs {N : Nat} {rs : List Rd} {i j : Nat} (hv : Valid (N : Int) rs) (hi : i < N) (hj : j < N) : ∃ g, RIs N rs i j g := by
  have hd := denO_pos hv
  have hb := RR_bn hv hi hj
  have hc := low_cut (RR N rs i j) (denO N rs)
  exact ⟨lowG (RR N rs i j) (denO N rs), low_bound (by omega), hc.1, hc.2, low_pos (by omega),
    by have := tdiv_bound (g := lowG (RR N rs i j) (denO N rs)) (a := denO N rs) (B := 331776) (by omega) (by omega) (by omega); unfold rB; omega,
    tdiv_bound hb.1 hb.2 (by omega)⟩
/-- The three results of asking for a share. -/
def shE (n : Int) (rs : List Rd) (k : Int) : Int := if validateI n rs ≠ 0 then validateI n rs else if ¬ (0 ≤ k ∧ k < rs.length) then 4 else 0
def shX (n : Int) (rs : List Rd) (k : Int) : Int := (rs.getD k.toNat default).wt * rA n.toNat rs (rs.getD k.toNat default).f (rs.getD k.toNat default).t
def shY (n : Int) (rs : List Rd) (k : Int) : Int := rB n.toNat rs (rs.getD k.toNat default).f (rs.getD k.toNat default).t
def shN (n : Int) (rs : List Rd) (k : Int) : Int := if shE n rs k = 0 then (shX n rs k).tdiv (lowG (shX n rs k) (shY n rs k)) else 0
def shD (n : Int) (rs : List Rd) (k : Int) : Int := if shE n rs k = 0 then (shY n rs k).tdiv (lowG (shX n rs k) (shY n rs k)) else 0
theorem shE_ok {n : Int} {rs : List Rd} {k : Int} (h : shE n rs k = 0) : Valid n rs ∧ 0 ≤ k ∧ k.toNat < rs.length := by
  unfold shE at h
  split at h
  · omega
  · next h1 =>
    split at h
    · omega
    · next h2 =>
      have := Decidable.of_not_not h2
      exact ⟨Decidable.of_not_not (p := validateI n rs = 0) h1, this.1, by omega⟩
theorem rd_in {n : Int} {rs : List Rd} (hv : Valid n rs) {k : Nat} (hk : k < rs.length) : (rs.getD k default).f < n.toNat ∧ (rs.getD k default).t < n.toNat ∧ (rs.getD k default) ∈ rs := by
  have h := hv.at hk
  refine ⟨by unfold Rd.f; omega, by unfold Rd.t; omega, by simp [List.getD, hk]⟩
structure ShIs (n : Int) (rs : List Rd) (k g : Int) : Prop where
  pos : 0 < g
  num : shN n rs k * g = (rs.getD k.toNat default).wt * RR n.toNat rs (rs.getD k.toNat default).f (rs.getD k.toNat default).t
  den : shD n rs k * g = denO n.toNat rs
  dpos : 1 ≤ shD n rs k
  dle : shD n rs k ≤ 331776
  nb : Bn (shN n rs k) 3981312
theorem shIs {n : Int} {rs : List Rd} {k : Int} (h : shE n rs k = 0) : ∃ g, ShIs n rs k g := by
  obtain ⟨hv, h0, h1⟩ := shE_ok h
  obtain ⟨i1, i2, i3⟩ := rd_in hv h1
  obtain ⟨g, hg⟩ := rIs hv.nat.1 i1 i2
  have hd := hg.dpos
  have hw := hv.nat.1.wt _ i3
  have hxb : Bn (shX n rs k) 3981312 := ((show Bn (rs.getD k.toNat default).wt 3 from ⟨by omega, by omega⟩).mul hg.nb).mono (by omega)
  have hyd : 1 ≤ shY n rs k ∧ shY n rs k ≤ 331776 := ⟨hg.dpos, hg.dle⟩
  have hp2 := low_bound (num := shX n rs k) (den := shY n rs k) (by omega)
  have hc := low_cut (shX n rs k) (shY n rs k)
  refine ⟨lowG (shX n rs k) (shY n rs k) * g, Int.mul_pos hp2 hg.pos, ?_, ?_, ?_, ?_, ?_⟩
  · rw [shN, if_pos h, ← Int.mul_assoc, hc.1, shX, Int.mul_assoc, hg.num]
  · rw [shD, if_pos h, ← Int.mul_assoc, hc.2, shY, hg.den]
  · rw [shD, if_pos h]; exact low_pos (by omega)
  · rw [shD, if_pos h]
    have := tdiv_bound (g := lowG (shX n rs k) (shY n rs k)) (a := shY n rs k) (B := 331776) (by omega) (by omega) (by omega)
    omega
  · rw [shN, if_pos h]; exact tdiv_bound hxb.1 hxb.2 (by omega)


set_option maxRecDepth 100000 in
theorem validateReading_ok (w0 : World) (n : Int) (p : Option Addr) (cap : Nat) (rs : List Rd) (hr : RdsAt w0 p rs) (k : Int) :
    Calls Try.prog 86 #[sv n p rs.length cap, .int .i64 k] w0 (Post (X := Unit) (fun _ => .int .i64 (shE n rs k)) (fun _ => True) (fun _ => []) w0) := by
  refine calls Try.func86 rfl (n := 20) rfl (by simp) ?_
  refine TC.seq ?_
  refine TC.region ?_
  refine TL.box rfl rfl (by decide) (fun b0 hb0 => ?_)
  refine TL.pure (PV.assign rfl) rfl (by decide) ?_
  refine TL.nil ?_
  refine TQ.thenC ?_
  refine TC.seq ?_
  refine TC.seq ?_
  refine TC.region ?_
  refine TL.pure (PV.loadBox rfl Tb.agg_24 (by repeat (first | exact List.Mem.head _ | refine List.Mem.tail _ ?_ | refine List.mem_append_right _ ?_)) rfl) rfl (by decide) ?_
  refine TL.call rfl Tb.gofn_23 (fun a w hs => validate_ok w _ _ _ _ (hr.new hs.new)) rfl (by decide) (fun _ _ => ?_)
  refine TL.pure (PV.assign rfl) rfl (by decide) ?_
  refine TL.nil ?_
  refine TQ.thenC ?_
  refine TC.seq ?_
  refine TC.region ?_
  refine TL.pure (PV.move rfl) rfl (by decide) ?_
  refine TL.pure (PV.neq rfl rfl) rfl (by decide) ?_
  refine TL.nil ?_
  refine TQ.thenC ?_
  first | refine TC.condD rfl (fun hne => ?_) (fun hne => ?_) | refine TC.cond rfl (fun hne => ?_) (fun hne => ?_)
  · skip
    refine TC.seq ?_
    refine TC.region ?_
    refine TL.pure (PV.move rfl) rfl (by decide) ?_
    refine TL.pure (PV.assign rfl) rfl (by decide) ?_
    refine TL.nil ?_
    refine TQ.thenC ?_
    refine TC.ret ?_
    refine TQ.thenR ?_
    refine TQ.retE1 rfl rfl ?_
    first | exact ⟨(), by rw [shE, if_pos hne], trivial, List.nil_sublist _⟩ | (refine ⟨(), ?_, trivial, List.nil_sublist _⟩; rw [shE, if_neg hne, if_pos (by first | omega | (simp_all; done) | (simp_all; omega))]; done) | (refine ⟨(), ?_, trivial, List.nil_sublist _⟩; rw [shE, if_neg hne, if_neg (not_not_intro (by first | omega | (simp_all; done) | (simp_all; omega)))]; done)
  · skip
    refine TC.skip ?_
    refine TQ.thenC ?_
    refine TC.seq ?_
    refine TC.seq ?_
    refine TC.region ?_
    refine TL.pure (PV.move rfl) rfl (by decide) ?_
    refine TL.pure (PV.lss rfl rfl) rfl (by decide) ?_
    refine TL.pure (PV.move rfl) rfl (by decide) ?_
    first | refine TL.splitD 13 rfl (fun h1 => ?_) (fun h1 => ?_) | refine TL.split 13 rfl (fun h1 => ?_) (fun h1 => ?_)
    · skip
      refine TL.skip rfl (fun k hk => by cases hk; decide) ?_
      refine TL.skip rfl (fun k hk => by cases hk; decide) ?_
      refine TL.skip rfl (fun k hk => by cases hk; decide) ?_
      refine TL.skip rfl (fun k hk => by cases hk; decide) ?_
      refine TL.skip rfl (fun k hk => by cases hk; decide) ?_
      refine TL.pure (PV.pickT rfl rfl) rfl (by decide) ?_
      refine TL.nil ?_
      refine TQ.thenC ?_
      refine TC.condT rfl ?_
      refine TC.seq ?_
      refine TC.region ?_
      refine TL.pure (PV.assign rfl) rfl (by decide) ?_
      refine TL.nil ?_
      refine TQ.thenC ?_
      refine TC.ret ?_
      refine TQ.thenR ?_
      refine TQ.retE1 rfl rfl ?_
      first | exact ⟨(), by rw [shE, if_pos hne], trivial, List.nil_sublist _⟩ | (refine ⟨(), ?_, trivial, List.nil_sublist _⟩; rw [shE, if_neg hne, if_pos (by first | omega | (simp_all; done) | (simp_all; omega))]; done) | (refine ⟨(), ?_, trivial, List.nil_sublist _⟩; rw [shE, if_neg hne, if_neg (not_not_intro (by first | omega | (simp_all; done) | (simp_all; omega)))]; done)
    · skip
      refine TL.pure (PV.move rfl) rfl (by decide) ?_
      refine TL.pure (PV.fieldAddr rfl Tb.fo_24_1) rfl (by decide) ?_
      refine TL.pure (PV.load rfl Tb.one_22 (by repeat (first | exact List.Mem.head _ | refine List.Mem.tail _ ?_ | refine List.mem_append_right _ ?_)) rfl) rfl (by decide) ?_
      refine TL.pure (PV.len rfl Tb.sl_22) rfl (by decide) ?_
      refine TL.pure (PV.geq rfl rfl) rfl (by decide) ?_
      refine TL.pure (PV.pickF rfl rfl) rfl (by decide) ?_
      refine TL.nil ?_
      refine TQ.thenC ?_
      first | refine TC.condD rfl (fun hk => ?_) (fun hk => ?_) | refine TC.cond rfl (fun hk => ?_) (fun hk => ?_)
      · skip
        refine TC.seq ?_
        refine TC.region ?_
        refine TL.pure (PV.assign rfl) rfl (by decide) ?_
        refine TL.nil ?_
        refine TQ.thenC ?_
        refine TC.ret ?_
        refine TQ.thenR ?_
        refine TQ.retE1 rfl rfl ?_
        first | exact ⟨(), by rw [shE, if_pos hne], trivial, List.nil_sublist _⟩ | (refine ⟨(), ?_, trivial, List.nil_sublist _⟩; rw [shE, if_neg hne, if_pos (by first | omega | (simp_all; done) | (simp_all; omega))]; done) | (refine ⟨(), ?_, trivial, List.nil_sublist _⟩; rw [shE, if_neg hne, if_neg (not_not_intro (by first | omega | (simp_all; done) | (simp_all; omega)))]; done)
      · skip
        refine TC.skip ?_
        refine TQ.thenC ?_
        refine TC.seq ?_
        refine TC.region ?_
        refine TL.pure (PV.assign rfl) rfl (by decide) ?_
        refine TL.nil ?_
        refine TQ.thenC ?_
        refine TC.ret ?_
        refine TQ.retE1 rfl rfl ?_
        first | exact ⟨(), by rw [shE, if_pos hne], trivial, List.nil_sublist _⟩ | (refine ⟨(), ?_, trivial, List.nil_sublist _⟩; rw [shE, if_neg hne, if_pos (by first | omega | (simp_all; done) | (simp_all; omega))]; done) | (refine ⟨(), ?_, trivial, List.nil_sublist _⟩; rw [shE, if_neg hne, if_neg (not_not_intro (by first | omega | (simp_all; done) | (simp_all; omega)))]; done)

set_option maxRecDepth 100000 in
set_option maxHeartbeats 1000000 in
theorem share_ok (w0 : World) (n : Int) (p : Option Addr) (cap : Nat) (rs : List Rd) (hr : RdsAt w0 p rs) (k : Int) :
    Calls Try.prog 46 #[sv n p rs.length cap, .int .i64 k] w0 (Post (X := Unit) (fun _ => .tuple #[.agg #[.int .i64 (shN n rs k), .int .i64 (shD n rs k)], .int .i64 (shE n rs k)]) (fun _ => True) (fun _ => []) w0) := by
  refine calls Try.func46 rfl (n := 35) rfl (by simp) ?_
  refine TC.seq ?_
  refine TC.region ?_
  refine TL.box rfl rfl (by decide) (fun b0 hb0 => ?_)
  refine TL.alloc Tb.zero_46 rfl (by decide) (fun b1 hb1 => ?_)
  refine TL.pure (PV.assign rfl) rfl (by decide) ?_
  refine TL.nil ?_
  refine TQ.thenC ?_
  refine TC.seq ?_
  refine TC.seq ?_
  refine TC.region ?_
  refine TL.pure (PV.loadBox rfl Tb.agg_24 (by repeat (first | exact List.Mem.head _ | refine List.Mem.tail _ ?_ | refine List.mem_append_right _ ?_)) rfl) rfl (by decide) ?_
  refine TL.pure (PV.move rfl) rfl (by decide) ?_
  refine TL.call rfl Tb.gofn_86 (fun a w hs => validateReading_ok w _ _ _ _ (hr.new hs.new) k) rfl (by decide) (fun _ _ => ?_)
  refine TL.pure (PV.assign rfl) rfl (by decide) ?_
  refine TL.nil ?_
  refine TQ.thenC ?_
  refine TC.seq ?_
  refine TC.region ?_
  refine TL.pure (PV.move rfl) rfl (by decide) ?_
  refine TL.pure (PV.neq rfl rfl) rfl (by decide) ?_
  refine TL.nil ?_
  refine TQ.thenC ?_
  first | refine TC.condD rfl (fun hne => ?_) (fun hne => ?_) | refine TC.cond rfl (fun hne => ?_) (fun hne => ?_)
  · skip
    refine TC.seq ?_
    refine TC.region ?_
    refine TL.pure (PV.build rfl Tb.zero_46 Tb.pl_46 rfl) rfl (by decide) ?_
    refine TL.pure (PV.move rfl) rfl (by decide) ?_
    refine TL.storeAgg rfl rfl Tb.cells_46 (by repeat (first | exact Upd.head _ | apply Upd.tail | apply Upd.appR)) rfl rfl rfl rfl rfl ?_
    refine TL.pure (PV.assign rfl) rfl (by decide) ?_
    refine TL.nil ?_
    refine TQ.thenC ?_
    refine TC.ret ?_
    refine TQ.thenR ?_
    refine TQ.retR rfl (Res.agg rfl Tb.agg_46 (by repeat (first | exact List.Mem.head _ | refine List.Mem.tail _ ?_ | refine List.mem_append_right _ ?_)) rfl (Res.tmp rfl Res.nil)) ?_
    simp only [tup]
    exact ⟨(), by rw [shN, if_neg hne, shD, if_neg hne], trivial, List.nil_sublist _⟩
  · skip
    refine TC.skip ?_
    refine TQ.thenC ?_
    refine TC.seq ?_
    have hz : shE n rs k = 0 := by omega
    obtain ⟨hv, hk0, hkl⟩ := shE_ok hz
    obtain ⟨q, rfl, hq⟩ := hr k.toNat hkl
    have hat := hv.at hkl
    obtain ⟨gg, hg⟩ := rIs (i := (rs.getD k.toNat default).f) (j := (rs.getD k.toNat default).t) hv.nat.1 (rd_in hv hkl).1 (rd_in hv hkl).2.1
    have hd1 := hg.dpos
    have hd2 := hg.dle
    have hxb : Bn (shX n rs k) 3981312 := ((show Bn (rs.getD k.toNat default).wt 3 from ⟨by omega, by omega⟩).mul hg.nb).mono (by omega)
    have hyd : 1 ≤ shY n rs k ∧ shY n rs k ≤ 331776 := ⟨hg.dpos, hg.dle⟩
    refine TC.region ?_
    refine TL.pure (PV.fieldAddr rfl Tb.fo_24_1) rfl (by decide) ?_
    refine TL.pure (PV.load rfl Tb.one_22 (by repeat (first | exact List.Mem.head _ | refine List.Mem.tail _ ?_ | refine List.mem_append_right _ ?_)) rfl) rfl (by decide) ?_
    refine TL.pure (PV.move rfl) rfl (by decide) ?_
    refine TL.pure (PV.indexA rfl rfl rfl Tb.elm_22 (Int.toNat_of_nonneg (by omega)).symm (by omega)) rfl (by decide) ?_
    refine TL.pure (PV.loadAggA rfl Tb.agg_61 rfl hq) rfl (by decide) ?_
    refine TL.alloc Tb.zero_61 rfl (by decide) (fun b2 hb2 => ?_)
    refine TL.storeAgg rfl rfl Tb.cells_61 (by repeat (first | exact Upd.head _ | apply Upd.tail | apply Upd.appR)) rfl rfl rfl rfl rfl ?_
    refine TL.nil ?_
    refine TQ.thenC ?_
    refine TC.seq ?_
    refine TC.region ?_
    refine TL.pure (PV.loadBox rfl Tb.agg_24 (by repeat (first | exact List.Mem.head _ | refine List.Mem.tail _ ?_ | refine List.mem_append_right _ ?_)) rfl) rfl (by decide) ?_
    refine TL.pure (PV.fieldAddr rfl Tb.fo_61_0) rfl (by decide) ?_
    refine TL.pure (PV.load rfl Tb.one_3 (by repeat (first | exact List.Mem.head _ | refine List.Mem.tail _ ?_ | refine List.mem_append_right _ ?_)) rfl) rfl (by decide) ?_
    refine TL.pure (PV.fieldAddr rfl Tb.fo_61_1) rfl (by decide) ?_
    refine TL.pure (PV.load rfl Tb.one_3 (by repeat (first | exact List.Mem.head _ | refine List.Mem.tail _ ?_ | refine List.mem_append_right _ ?_)) rfl) rfl (by decide) ?_
    refine TL.call rfl Tb.gofn_83 (fun a w hs => resistance_any w _ _ _ _ (hr.new hs.new) hv _ _ hat.1 hat.2.1) rfl (by decide) (fun _ _ => ?_)
    refine TL.alloc Tb.zero_46 rfl (by decide) (fun b3 hb3 => ?_)
    refine TL.storeAgg rfl rfl Tb.cells_46 (by repeat (first | exact Upd.head _ | apply Upd.tail | apply Upd.appR)) rfl rfl rfl rfl rfl ?_
    refine TL.nil ?_
    refine TQ.thenC ?_
    refine TC.seq ?_
    refine TC.region ?_
    refine TL.pure (PV.fieldAddr rfl Tb.fo_61_3) rfl (by decide) ?_
    refine TL.pure (PV.load rfl Tb.one_3 (by repeat (first | exact List.Mem.head _ | refine List.Mem.tail _ ?_ | refine List.mem_append_right _ ?_)) rfl) rfl (by decide) ?_
    refine TL.pure (PV.fieldAddr rfl Tb.fo_46_0) rfl (by decide) ?_
    refine TL.pure (PV.load rfl Tb.one_3 (by repeat (first | exact List.Mem.head _ | refine List.Mem.tail _ ?_ | refine List.mem_append_right _ ?_)) rfl) rfl (by decide) ?_
    refine TL.pure (PV.mul rfl rfl (by have hxb2 : Bn ((rs.getD k.toNat default).wt * rA n.toNat rs (rs.getD k.toNat default).fr.toNat (rs.getD k.toNat default).to.toNat) 3981312 := hxb; unfold Bn at hxb2; omega)) rfl (by decide) ?_
    refine TL.pure (PV.fieldAddr rfl Tb.fo_46_1) rfl (by decide) ?_
    refine TL.pure (PV.load rfl Tb.one_3 (by repeat (first | exact List.Mem.head _ | refine List.Mem.tail _ ?_ | refine List.mem_append_right _ ?_)) rfl) rfl (by decide) ?_
    refine TL.call rfl Tb.gofn_79 (fun a w hs => lowest_ok w (shX n rs k) (shY n rs k) (by omega) (by omega) (by unfold Bn at hxb; omega)) rfl (by decide) (fun _ _ => ?_)
    refine TL.storeAgg rfl rfl Tb.cells_46 (by repeat (first | exact Upd.head _ | apply Upd.tail | apply Upd.appR)) rfl rfl rfl rfl rfl ?_
    refine TL.pure (PV.assign rfl) rfl (by decide) ?_
    refine TL.nil ?_
    refine TQ.thenC ?_
    refine TC.ret ?_
    refine TQ.retR rfl (Res.agg rfl Tb.agg_46 (by repeat (first | exact List.Mem.head _ | refine List.Mem.tail _ ?_ | refine List.mem_append_right _ ?_)) rfl (Res.tmp rfl Res.nil)) ?_
    simp only [tup]
    exact ⟨(), by rw [shN, if_pos hz, shD, if_pos hz, hz], trivial, List.nil_sublist _⟩

end Go.Proofs.Ytmmgcajegokkoaa

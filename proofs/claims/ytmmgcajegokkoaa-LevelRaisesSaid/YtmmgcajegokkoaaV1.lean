/- All shares add up to the points minus the parts: the statement's own function. -/
import Derived.Test.YtmmgcajegokkoaaMg
import Derived.Test.YtmmgcajegokkoaaM1
namespace Go.Proofs.Ytmmgcajegokkoaa
open Go.Sx Go.RowKit

def sN (N : Nat) (rs : List Rd) (k : Nat) : Int := (shS N rs k).tdiv (lowG (shS N rs k) (denO N rs))
def sD (N : Nat) (rs : List Rd) (k : Nat) : Int := (denO N rs).tdiv (lowG (shS N rs k) (denO N rs))
theorem one_low (m : Int) : m.tdiv (lowG m 1) = m ∧ (1 : Int).tdiv (lowG m 1) = 1 := by
  have : lowG m 1 = 1 := by unfold lowG; simp
  rw [this]; simp
theorem s_zero {N : Nat} {rs : List Rd} (hv : Valid (N : Int) rs) : sN N rs 0 = 0 ∧ sD N rs 0 = 1 := by
  have hd := denO_pos hv
  have h := low_eq (a := 0) (b := denO N rs) (c := 0) (d := 1) (by omega) (by omega) (by omega)
  have := one_low 0
  rw [this.1, this.2] at h
  exact h
theorem s_end {N : Nat} {rs : List Rd} (hv : Valid (N : Int) rs) : sN N rs rs.length = nonroots N rs ∧ sD N rs rs.length = 1 := by
  have hd := denO_pos hv
  have h := low_eq (a := shS N rs rs.length) (b := denO N rs) (c := nonroots N rs) (d := 1) (by omega) (by omega) (by rw [shS_all hv]; grind)
  have := one_low (nonroots N rs)
  rw [this.1, this.2] at h
  exact h
structure SIs (N : Nat) (rs : List Rd) (k : Nat) (g : Int) : Prop where
  pos : 0 < g
  num : sN N rs k * g = shS N rs k
  den : sD N rs k * g = denO N rs
  dpos : 1 ≤ sD N rs k
  dle : sD N rs k ≤ 331776
  nb : Bn (sN N rs k) 31850496
theorem sIs {N : Nat} {rs : List Rd} (hv : Valid (N : Int) rs) {k : Nat} (hk : k ≤ rs.length) : ∃ g, SIs N rs k g := by
  have hd := denO_pos hv
  have hl := hv.len
  have hb := (shS_bn hv k hk).mono (B := 31850496) (by omega)
  have hc := low_cut (shS N rs k) (denO N rs)
  exact ⟨lowG (shS N rs k) (denO N rs), low_bound (by omega), hc.1, hc.2, low_pos (by omega),
    by have := tdiv_bound (g := lowG (shS N rs k) (denO N rs)) (a := denO N rs) (B := 331776) (by omega) (by omega) (by omega); unfold sD; omega,
    tdiv_bound hb.1 hb.2 (by omega)⟩
theorem shE_at {n : Int} {rs : List Rd} (hv : Valid n rs) {k : Nat} (hk : k < rs.length) : shE n rs (k : Int) = 0 := by
  rw [shE, if_neg (not_not_intro (show validateI n rs = 0 from hv)), if_neg (not_not_intro (by omega))]
theorem sum_step (w : World) (n : Int) (rs : List Rd) (hv : Valid n rs) (k : Nat) (hk : k < rs.length) :
    Calls Try.prog 50 #[.int .i64 (sN n.toNat rs k * shD n rs (k : Int) + shN n rs (k : Int) * sD n.toNat rs k), .int .i64 (sD n.toNat rs k * shD n rs (k : Int))] w
      (Post (X := Unit) (fun _ => .agg #[.int .i64 (sN n.toNat rs (k + 1)), .int .i64 (sD n.toNat rs (k + 1))]) (fun _ => True) (fun _ => []) w) := by
  obtain ⟨g, hg⟩ := shIs (shE_at hv hk)
  obtain ⟨h, hh⟩ := sIs hv.nat.1 (k := k) (by omega)
  have hd := denO_pos hv.nat.1
  have b1 := hh.nb.mul (show Bn (shD n rs (k : Int)) 331776 from ⟨by have := hg.dpos; omega, hg.dle⟩)
  have b2 := hg.nb.mul (show Bn (sD n.toNat rs k) 331776 from ⟨by have := hh.dpos; omega, hh.dle⟩)
  have b3 := (show Bn (sD n.toNat rs k) 331776 from ⟨by have := hh.dpos; omega, hh.dle⟩).mul (show Bn (shD n rs (k : Int)) 331776 from ⟨by have := hg.dpos; omega, hg.dle⟩)
  have b4 : 0 < sD n.toNat rs k * shD n rs (k : Int) := Int.mul_pos (by have := hh.dpos; omega) (by have := hg.dpos; omega)
  unfold Bn at b1 b2 b3
  have hr := ratio_ok w (sN n.toNat rs k * shD n rs (k : Int) + shN n rs (k : Int) * sD n.toNat rs k) (sD n.toNat rs k * shD n rs (k : Int)) (by omega) (by omega)
  rw [lowV_eq (c := shS n.toNat rs (k + 1)) (d := denO n.toNat rs) b4 (by omega) ?_] at hr
  · exact hr
  · have e1 := hg.num
    have e2 := hg.den
    rw [Int.toNat_natCast] at e1
    have e3 : shS n.toNat rs (k + 1) = shS n.toNat rs k + (rs.getD k default).wt * RR n.toNat rs (rs.getD k default).f (rs.getD k default).t := rfl
    rw [e3, ← e1, ← hh.num]
    have e4 := hh.den
    have e5 : (sN n.toNat rs k * shD n rs (k : Int)) * denO n.toNat rs = (sN n.toNat rs k * h) * (sD n.toNat rs k * shD n rs (k : Int)) := by rw [← e4]; grind
    have e6 : (shN n rs (k : Int) * sD n.toNat rs k) * denO n.toNat rs = (shN n rs (k : Int) * g) * (sD n.toNat rs k * shD n rs (k : Int)) := by rw [← e2]; grind
    rw [Int.add_mul, Int.add_mul, e5, e6]
theorem PG.count {n : Int} {rs : List Rd} {x : HD × List (HD × List Int)} (h : PG n rs x) (hv : Valid n rs) : (x.2.length : Int) + nonroots n.toNat rs = n := by
  have e : x.2.length = (x.2.map (·.2)).length := by simp
  have h1 := roots_count n.toNat rs n.toNat
  rw [e, h.eq, if_pos (show validateI n rs = 0 from hv), partsK, List.length_map]
  rw [hv.nat.2] at h1
  exact h1
theorem sumN_nn {g : Nat → Int} : ∀ {n : Nat}, (∀ p, p < n → 0 ≤ g p) → 0 ≤ sumN n g
  | 0, _ => Int.le_refl _
  | n + 1, h => by
    have h1 := sumN_nn (fun p hp => h p (by omega) : ∀ p, p < n → 0 ≤ g p)
    have h2 := h n (by omega)
    rw [sumN]; omega
theorem nonroots_nn (N : Nat) (rs : List Rd) : 0 ≤ nonroots N rs := sumN_nn fun p _ => by split <;> omega
theorem fill_r (a b : Int) : Instr.fill ([(0, 1), (1, 1)][·]?) #[(Value.int .i64 0), .int .i64 0] [(0, Value.int .i64 a), (1, .int .i64 b)] = some #[.int .i64 a, .int .i64 b] := by kernel_rfl


set_option maxRecDepth 100000 in
set_option maxHeartbeats 2000000 in
theorem levelSums_ok (w0 : World) (n : Int) (p : Option Addr) (cap : Nat) (rs : List Rd) (hr : RdsAt w0 p rs) :
    Calls Try.prog 11 #[sv n p rs.length cap] w0 (Post (X := Unit) (fun _ => .bool true) (fun _ => True) (fun _ => []) w0) := by
  refine calls Try.func11 rfl (n := 79) rfl (by simp) ?_
  refine TC.seq ?_
  refine TC.region ?_
  refine TL.box rfl rfl (by decide) (fun b0 hb0 => ?_)
  refine TL.pure (PV.assign rfl) rfl (by decide) ?_
  refine TL.nil ?_
  refine TQ.thenC ?_
  refine TC.seq ?_
  refine TC.seq ?_
  refine TC.region ?_
  refine TL.pure (PV.loadBox rfl Tb.agg_24 (by repeat (first | exact List.Mem.head _ | refine List.Mem.tail _ ?_ | refine List.mem_append_right _ ?_)) rfl) rfl (by decide) ?_
  refine TL.call rfl Tb.gofn_17 (fun a w hs => long_ok w _ _ _ _) rfl (by decide) (fun _ _ => ?_)
  refine TL.nil ?_
  refine TQ.thenC ?_
  first | refine TC.condD rfl (fun h0 => ?_) (fun h0 => ?_) | refine TC.cond rfl (fun h0 => ?_) (fun h0 => ?_)
  · skip
    refine TC.seq ?_
    refine TC.region ?_
    refine TL.call rfl Tb.gofn_18 (fun a w hs => known_ok w) rfl (by decide) (fun _ _ => ?_)
    refine TL.pure (PV.assign rfl) rfl (by decide) ?_
    refine TL.nil ?_
    refine TQ.thenC ?_
    refine TC.ret ?_
    refine TQ.thenR ?_
    refine TQ.retE1 rfl rfl ?_
    first | exact ⟨(), rfl, trivial, List.nil_sublist _⟩ | (exfalso; omega) | (exfalso; simp_all; done) | (exfalso; simp_all; omega)
  · skip
    refine TC.skip ?_
    refine TQ.thenC ?_
    refine TC.seq ?_
    refine TC.region ?_
    refine TL.pure (PV.loadBox rfl Tb.agg_24 (by repeat (first | exact List.Mem.head _ | refine List.Mem.tail _ ?_ | refine List.mem_append_right _ ?_)) rfl) rfl (by decide) ?_
    refine TL.call rfl Tb.gofn_19 (fun a w hs => Parts_ok w _ _ _ _ (hr.new hs.new)) rfl (by decide) (fun x hx => ?_)
    refine TL.pure (PV.move rfl) rfl (by decide) ?_
    refine TL.pure (PV.extract rfl rfl) rfl (by decide) ?_
    refine TL.pure (PV.extract rfl rfl) rfl (by decide) ?_
    refine TL.pure (PV.assign rfl) rfl (by decide) ?_
    refine TL.pure (PV.assign rfl) rfl (by decide) ?_
    refine TL.nil ?_
    refine TQ.thenC ?_
    refine TC.seq ?_
    refine TC.seq ?_
    refine TC.region ?_
    refine TL.pure (PV.move rfl) rfl (by decide) ?_
    refine TL.pure (PV.neq rfl rfl) rfl (by decide) ?_
    refine TL.nil ?_
    refine TQ.thenC ?_
    first | refine TC.condD rfl (fun hbad => ?_) (fun hbad => ?_) | refine TC.cond rfl (fun hbad => ?_) (fun hbad => ?_)
    · skip
      refine TC.seq ?_
      refine TC.region ?_
      refine TL.call rfl Tb.gofn_18 (fun a w hs => known_ok w) rfl (by decide) (fun _ _ => ?_)
      refine TL.pure (PV.assign rfl) rfl (by decide) ?_
      refine TL.nil ?_
      refine TQ.thenC ?_
      refine TC.ret ?_
      refine TQ.thenR ?_
      refine TQ.retE1 rfl rfl ?_
      first | exact ⟨(), rfl, trivial, List.nil_sublist _⟩ | (exfalso; omega) | (exfalso; simp_all; done) | (exfalso; simp_all; omega)
    · skip
      refine TC.skip ?_
      refine TQ.thenC ?_
      refine TC.seq ?_
      have hv : Valid n rs := Decidable.of_not_not (p := validateI n rs = 0) (by simpa using hbad)
      have hcnt := hx.count hv
      have hnr := nonroots_nn n.toNat rs
      have hz := s_zero hv.nat.1
      have hp := hv.pts
      have hll := hv.len
      refine TC.region ?_
      refine TL.pure (PV.build rfl Tb.zero_46 Tb.pl_46 (fill_r _ _)) rfl (by decide) ?_
      refine TL.alloc Tb.zero_46 rfl (by decide) (fun b1 hb1 => ?_)
      refine TL.storeAgg rfl rfl Tb.cells_46 (by repeat (first | exact Upd.head _ | apply Upd.tail | apply Upd.appR)) rfl rfl rfl rfl rfl ?_
      refine TL.nil ?_
      refine TQ.thenC ?_
      refine TC.seq ?_
      refine TC.seq ?_
      refine TC.region ?_
      refine TL.pure (PV.assign rfl) rfl (by decide) ?_
      refine TL.nil ?_
      refine TQ.thenC ?_
      refine TC.block ?_
      -- live and written in the loop, not told: [2]
      refine TC.loopK [1, 3, 5] (X := Nat) (fun k => k ≤ rs.length) (fun k => [(6, .int .i64 k)]) (fun k => (b1, Obj.cells #[.int .i64 (sN n.toNat rs k), .int .i64 (sD n.toNat rs k)] 46 (0, 0)) :: (gbP x ++ (bl x.2 ++ [(b0, .cells #[.int .i64 n, .slice p rs.length cap] 24 (0, 0))]))) (fun k => rs.length - k) 0 (Nat.zero_le _) (by repeat (first | exact True.intro | refine And.intro rfl ?_)) (by rw [hz.1, hz.2]; refine List.Sublist.cons_cons _ ?_; simp only [List.append_assoc, List.nil_append]; exact List.Sublist.refl _) ?_
      intro k hk
      refine TC.seq ?_
      refine TC.seq ?_
      refine TC.region ?_
      refine TL.pure (PV.move rfl) rfl (by decide) ?_
      refine TL.pure (PV.fieldAddr rfl Tb.fo_24_1) rfl (by decide) ?_
      refine TL.pure (PV.load rfl Tb.one_22 (by repeat (first | exact List.Mem.head _ | refine List.Mem.tail _ ?_ | refine List.mem_append_right _ ?_)) rfl) rfl (by decide) ?_
      refine TL.pure (PV.len rfl Tb.sl_22) rfl (by decide) ?_
      refine TL.pure (PV.lss rfl rfl) rfl (by decide) ?_
      refine TL.nil ?_
      refine TQ.thenC ?_
      first | refine TC.condD rfl (fun hlt => ?_) (fun hlt => ?_) | refine TC.cond rfl (fun hlt => ?_) (fun hlt => ?_)
      · skip
        refine TC.skip ?_
        refine TQ.thenC ?_
        refine TC.seq ?_
        refine TC.block ?_
        refine TC.seq ?_
        have hkl : k < rs.length := by omega
        have hE := shE_at hv hkl
        obtain ⟨ga, a⟩ := shIs hE
        obtain ⟨gb, b⟩ := sIs hv.nat.1 (k := k) (by omega)
        have a1 := a.dpos
        have a2 := a.dle
        have b1_ := b.dpos
        have b2_ := b.dle
        have m1 := b.nb.mul (show Bn (shD n rs (k : Int)) 331776 from ⟨by omega, by omega⟩)
        have m2 := a.nb.mul (show Bn (sD n.toNat rs k) 331776 from ⟨by omega, by omega⟩)
        have m3 := (show Bn (sD n.toNat rs k) 331776 from ⟨by omega, by omega⟩).mul (show Bn (shD n rs (k : Int)) 331776 from ⟨by omega, by omega⟩)
        unfold Bn at m1 m2 m3
        refine TC.region ?_
        refine TL.pure (PV.loadBox rfl Tb.agg_24 (by repeat (first | exact List.Mem.head _ | refine List.Mem.tail _ ?_ | refine List.mem_append_right _ ?_)) rfl) rfl (by decide) ?_
        refine TL.pure (PV.move rfl) rfl (by decide) ?_
        refine TL.call rfl Tb.gofn_46 (fun a w hs => share_ok w _ _ _ _ (hr.new hs.new) _) rfl (by decide) (fun _ _ => ?_)
        refine TL.pure (PV.move rfl) rfl (by decide) ?_
        refine TL.pure (PV.extract rfl rfl) rfl (by decide) ?_
        refine TL.pure (PV.extract rfl rfl) rfl (by decide) ?_
        refine TL.alloc Tb.zero_46 rfl (by decide) (fun b2 hb2 => ?_)
        refine TL.storeAgg rfl rfl Tb.cells_46 (by repeat (first | exact Upd.head _ | apply Upd.tail | apply Upd.appR)) rfl rfl rfl rfl rfl ?_
        refine TL.pure (PV.assign rfl) rfl (by decide) ?_
        refine TL.nil ?_
        refine TQ.thenC ?_
        refine TC.seq ?_
        refine TC.seq ?_
        refine TC.region ?_
        refine TL.pure (PV.move rfl) rfl (by decide) ?_
        refine TL.pure (PV.neq rfl rfl) rfl (by decide) ?_
        refine TL.pure (PV.move rfl) rfl (by decide) ?_
        first | refine TL.splitD 36 rfl (fun h3 => ?_) (fun h3 => ?_) | refine TL.split 36 rfl (fun h3 => ?_) (fun h3 => ?_)
        · skip
          refine TL.skip rfl (fun k hk => by cases hk; decide) ?_
          refine TL.skip rfl (fun k hk => by cases hk; decide) ?_
          refine TL.skip rfl (fun k hk => by cases hk; decide) ?_
          refine TL.pure (PV.pickT rfl rfl) rfl (by decide) ?_
          refine TL.pure (PV.move rfl) rfl (by decide) ?_
          refine TL.skip rfl (fun k hk => by cases hk; decide) ?_
          refine TL.skip rfl (fun k hk => by cases hk; decide) ?_
          refine TL.skip rfl (fun k hk => by cases hk; decide) ?_
          refine TL.pure (PV.pickT rfl rfl) rfl (by decide) ?_
          refine TL.pure (PV.move rfl) rfl (by decide) ?_
          refine TL.skip rfl (fun k hk => by cases hk; decide) ?_
          refine TL.skip rfl (fun k hk => by cases hk; decide) ?_
          refine TL.skip rfl (fun k hk => by cases hk; decide) ?_
          refine TL.pure (PV.pickT rfl rfl) rfl (by decide) ?_
          refine TL.nil ?_
          refine TQ.thenC ?_
          refine TC.condT rfl ?_
          refine TC.seq ?_
          refine TC.region ?_
          refine TL.pure (PV.assign rfl) rfl (by decide) ?_
          refine TL.nil ?_
          refine TQ.thenC ?_
          refine TC.ret ?_
          refine TQ.thenR ?_
          refine TQ.blkR ?_
          refine TQ.thenR ?_
          refine TQ.thenR ?_
          refine TQ.blkR ?_
          refine TQ.thenR ?_
          refine TQ.retE1 rfl rfl ?_
          first | exact ⟨(), rfl, trivial, List.nil_sublist _⟩ | (exfalso; omega) | (exfalso; simp_all; done) | (exfalso; simp_all; omega)
        · skip
          refine TL.pure (PV.fieldAddr rfl Tb.fo_46_1) rfl (by decide) ?_
          refine TL.pure (PV.load rfl Tb.one_3 (by repeat (first | exact List.Mem.head _ | refine List.Mem.tail _ ?_ | refine List.mem_append_right _ ?_)) rfl) rfl (by decide) ?_
          refine TL.pure (PV.lss rfl rfl) rfl (by decide) ?_
          refine TL.pure (PV.pickF rfl rfl) rfl (by decide) ?_
          refine TL.pure (PV.move rfl) rfl (by decide) ?_
          first | refine TL.splitD 41 rfl (fun h4 => ?_) (fun h4 => ?_) | refine TL.split 41 rfl (fun h4 => ?_) (fun h4 => ?_)
          · skip
            refine TL.skip rfl (fun k hk => by cases hk; decide) ?_
            refine TL.skip rfl (fun k hk => by cases hk; decide) ?_
            refine TL.skip rfl (fun k hk => by cases hk; decide) ?_
            refine TL.pure (PV.pickT rfl rfl) rfl (by decide) ?_
            refine TL.pure (PV.move rfl) rfl (by decide) ?_
            refine TL.skip rfl (fun k hk => by cases hk; decide) ?_
            refine TL.skip rfl (fun k hk => by cases hk; decide) ?_
            refine TL.skip rfl (fun k hk => by cases hk; decide) ?_
            refine TL.pure (PV.pickT rfl rfl) rfl (by decide) ?_
            refine TL.nil ?_
            refine TQ.thenC ?_
            refine TC.condT rfl ?_
            refine TC.seq ?_
            refine TC.region ?_
            refine TL.pure (PV.assign rfl) rfl (by decide) ?_
            refine TL.nil ?_
            refine TQ.thenC ?_
            refine TC.ret ?_
            refine TQ.thenR ?_
            refine TQ.blkR ?_
            refine TQ.thenR ?_
            refine TQ.thenR ?_
            refine TQ.blkR ?_
            refine TQ.thenR ?_
            refine TQ.retE1 rfl rfl ?_
            first | exact ⟨(), rfl, trivial, List.nil_sublist _⟩ | (exfalso; omega) | (exfalso; simp_all; done) | (exfalso; simp_all; omega)
          · skip
            refine TL.pure (PV.fieldAddr rfl Tb.fo_46_1) rfl (by decide) ?_
            refine TL.pure (PV.load rfl Tb.one_3 (by repeat (first | exact List.Mem.head _ | refine List.Mem.tail _ ?_ | refine List.mem_append_right _ ?_)) rfl) rfl (by decide) ?_
            refine TL.pure (PV.gtr rfl rfl) rfl (by decide) ?_
            refine TL.pure (PV.pickF rfl rfl) rfl (by decide) ?_
            refine TL.pure (PV.move rfl) rfl (by decide) ?_
            first | refine TL.splitD 46 rfl (fun h5 => ?_) (fun h5 => ?_) | refine TL.split 46 rfl (fun h5 => ?_) (fun h5 => ?_)
            · skip
              refine TL.skip rfl (fun k hk => by cases hk; decide) ?_
              refine TL.skip rfl (fun k hk => by cases hk; decide) ?_
              refine TL.skip rfl (fun k hk => by cases hk; decide) ?_
              refine TL.pure (PV.pickT rfl rfl) rfl (by decide) ?_
              refine TL.nil ?_
              refine TQ.thenC ?_
              refine TC.condT rfl ?_
              refine TC.seq ?_
              refine TC.region ?_
              refine TL.pure (PV.assign rfl) rfl (by decide) ?_
              refine TL.nil ?_
              refine TQ.thenC ?_
              refine TC.ret ?_
              refine TQ.thenR ?_
              refine TQ.blkR ?_
              refine TQ.thenR ?_
              refine TQ.thenR ?_
              refine TQ.blkR ?_
              refine TQ.thenR ?_
              refine TQ.retE1 rfl rfl ?_
              first | exact ⟨(), rfl, trivial, List.nil_sublist _⟩ | (exfalso; omega) | (exfalso; simp_all; done) | (exfalso; simp_all; omega)
            · skip
              refine TL.pure (PV.fieldAddr rfl Tb.fo_46_1) rfl (by decide) ?_
              refine TL.pure (PV.load rfl Tb.one_3 (by repeat (first | exact List.Mem.head _ | refine List.Mem.tail _ ?_ | refine List.mem_append_right _ ?_)) rfl) rfl (by decide) ?_
              refine TL.pure (PV.gtr rfl rfl) rfl (by decide) ?_
              refine TL.pure (PV.pickF rfl rfl) rfl (by decide) ?_
              refine TL.nil ?_
              refine TQ.thenC ?_
              first | refine TC.condD rfl (fun h6 => ?_) (fun h6 => ?_) | refine TC.cond rfl (fun h6 => ?_) (fun h6 => ?_)
              · skip
                refine TC.seq ?_
                refine TC.region ?_
                refine TL.pure (PV.assign rfl) rfl (by decide) ?_
                refine TL.nil ?_
                refine TQ.thenC ?_
                refine TC.ret ?_
                refine TQ.thenR ?_
                refine TQ.blkR ?_
                refine TQ.thenR ?_
                refine TQ.thenR ?_
                refine TQ.blkR ?_
                refine TQ.thenR ?_
                refine TQ.retE1 rfl rfl ?_
                first | exact ⟨(), rfl, trivial, List.nil_sublist _⟩ | (exfalso; omega) | (exfalso; simp_all; done) | (exfalso; simp_all; omega)
              · skip
                refine TC.skip ?_
                refine TQ.thenC ?_
                refine TC.region ?_
                refine TL.pure (PV.fieldAddr rfl Tb.fo_46_0) rfl (by decide) ?_
                refine TL.pure (PV.load rfl Tb.one_3 (by repeat (first | exact List.Mem.head _ | refine List.Mem.tail _ ?_ | refine List.mem_append_right _ ?_)) rfl) rfl (by decide) ?_
                refine TL.pure (PV.fieldAddr rfl Tb.fo_46_1) rfl (by decide) ?_
                refine TL.pure (PV.load rfl Tb.one_3 (by repeat (first | exact List.Mem.head _ | refine List.Mem.tail _ ?_ | refine List.mem_append_right _ ?_)) rfl) rfl (by decide) ?_
                refine TL.pure (PV.mul rfl rfl (by omega)) rfl (by decide) ?_
                refine TL.pure (PV.fieldAddr rfl Tb.fo_46_0) rfl (by decide) ?_
                refine TL.pure (PV.load rfl Tb.one_3 (by repeat (first | exact List.Mem.head _ | refine List.Mem.tail _ ?_ | refine List.mem_append_right _ ?_)) rfl) rfl (by decide) ?_
                refine TL.pure (PV.fieldAddr rfl Tb.fo_46_1) rfl (by decide) ?_
                refine TL.pure (PV.load rfl Tb.one_3 (by repeat (first | exact List.Mem.head _ | refine List.Mem.tail _ ?_ | refine List.mem_append_right _ ?_)) rfl) rfl (by decide) ?_
                refine TL.pure (PV.mul rfl rfl (by omega)) rfl (by decide) ?_
                refine TL.pure (PV.add rfl rfl (by omega)) rfl (by decide) ?_
                refine TL.pure (PV.fieldAddr rfl Tb.fo_46_1) rfl (by decide) ?_
                refine TL.pure (PV.load rfl Tb.one_3 (by repeat (first | exact List.Mem.head _ | refine List.Mem.tail _ ?_ | refine List.mem_append_right _ ?_)) rfl) rfl (by decide) ?_
                refine TL.pure (PV.fieldAddr rfl Tb.fo_46_1) rfl (by decide) ?_
                refine TL.pure (PV.load rfl Tb.one_3 (by repeat (first | exact List.Mem.head _ | refine List.Mem.tail _ ?_ | refine List.mem_append_right _ ?_)) rfl) rfl (by decide) ?_
                refine TL.pure (PV.mul rfl rfl (by omega)) rfl (by decide) ?_
                refine TL.call rfl Tb.gofn_50 (fun a w hs => sum_step w n rs hv k (by omega)) rfl (by decide) (fun _ _ => ?_)
                refine TL.storeAgg rfl rfl Tb.cells_46 (by repeat (first | exact Upd.head _ | apply Upd.tail | apply Upd.appR)) rfl rfl rfl rfl rfl ?_
                refine TL.nil ?_
                refine TQ.blkN ?_
                refine TQ.thenC ?_
                refine TC.region ?_
                refine TL.pure (PV.move rfl) rfl (by decide) ?_
                refine TL.pure (PV.add rfl rfl (by omega)) rfl (by decide) ?_
                refine TL.pure (PV.assign rfl) rfl (by decide) ?_
                refine TL.nil ?_
                refine TQ.thenN ?_
                refine TQ.backK (k + 1) (by repeat (first | exact True.intro | refine And.intro rfl ?_)) (by repeat (first | exact True.intro | refine And.intro rfl ?_)) (by repeat (first | exact List.Sublist.refl _ | refine List.Sublist.cons_cons _ ?_ | refine List.Sublist.cons _ ?_)) (by omega) (by omega)
      · skip
        refine TC.exit ?_
        refine TQ.thenE ?_
        refine TQ.thenE ?_
        refine TQ.blkS ?_
        refine TQ.thenC ?_
        refine TC.seq ?_
        have hend := s_end hv.nat.1
        have hkk : k = rs.length := by omega
        subst hkk
        refine TC.region ?_
        refine TL.pure (PV.loadBox rfl Tb.agg_46 (by repeat (first | exact List.Mem.head _ | refine List.Mem.tail _ ?_ | refine List.mem_append_right _ ?_)) rfl) rfl (by decide) ?_
        refine TL.pure (PV.fieldAddr rfl Tb.fo_24_0) rfl (by decide) ?_
        refine TL.pure (PV.load rfl Tb.one_3 (by repeat (first | exact List.Mem.head _ | refine List.Mem.tail _ ?_ | refine List.mem_append_right _ ?_)) rfl) rfl (by decide) ?_
        refine TL.pure (PV.move rfl) rfl (by decide) ?_
        refine TL.pure (PV.lenG rfl hx.ok Tb.sl_27) rfl (by decide) ?_
        refine TL.pure (PV.sub rfl rfl (by omega)) rfl (by decide) ?_
        refine TL.pure (PV.build rfl Tb.zero_46 Tb.pl_46 (fill_r _ _)) rfl (by decide) ?_
        refine TL.pure (PV.cmp rfl rfl (eq46_guard _ _ _ _ _ _) (eq46 _ _ _ _)) rfl (by decide) ?_
        refine TL.pure (PV.move rfl) rfl (by decide) ?_
        first | refine TL.splitD 76 rfl (fun h7 => ?_) (fun h7 => ?_) | refine TL.split 76 rfl (fun h7 => ?_) (fun h7 => ?_)
        · skip
          refine TL.call rfl Tb.gofn_18 (fun a w hs => known_ok w) rfl (by decide) (fun _ _ => ?_)
          refine TL.pure (PV.pickT rfl rfl) rfl (by decide) ?_
          refine TL.pure (PV.assign rfl) rfl (by decide) ?_
          refine TL.nil ?_
          refine TQ.thenC ?_
          refine TC.ret ?_
          refine TQ.retE1 rfl rfl ?_
          first | exact ⟨(), rfl, trivial, List.nil_sublist _⟩ | (exfalso; omega) | (exfalso; simp_all; done) | (exfalso; simp_all; omega)
        · skip
          refine TL.skip rfl (fun k hk => by cases hk; decide) ?_
          refine TL.pure (PV.pickF rfl rfl) rfl (by decide) ?_
          refine TL.pure (PV.assign rfl) rfl (by decide) ?_
          refine TL.nil ?_
          refine TQ.thenC ?_
          refine TC.ret ?_
          refine TQ.retE1 rfl rfl ?_
          first | exact ⟨(), rfl, trivial, List.nil_sublist _⟩ | (exfalso; omega) | (exfalso; simp_all; done) | (exfalso; simp_all; omega)

end Go.Proofs.Ytmmgcajegokkoaa

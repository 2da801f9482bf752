/- A core whose dates are shifted: the statement's own function. -/
import Derived.Test.YtenalmddoljhoaaVJ
namespace Go.Proofs.Ytenalmddoljhoaa
open Go.Sx Go.RowKit

def addK (ds bs : List Int) (k : Nat) : List Int := (List.range k).map fun i => ds.getD i 0 + bs.getD i 0
theorem addK_len (ds bs : List Int) (k : Nat) : (addK ds bs k).length = k := by simp [addK]
theorem addK_succ (ds bs : List Int) (k : Nat) : addK ds bs (k + 1) = addK ds bs k ++ [ds.getD k 0 + bs.getD k 0] := by simp [addK, List.range_succ]
theorem addK_get {ds bs : List Int} {k j : Nat} (hj : j < k) : (addK ds bs k).getD j 0 = ds.getD j 0 + bs.getD j 0 := by simp [addK, List.getD, hj]
structure NS (ds bs : List Int) (k : Nat) (y : HD × List Int) : Prop where
  le : k ≤ ds.length
  eq : y.2 = addK ds bs k
  ok : goI y
theorem NS.zero (ds bs : List Int) : NS ds bs 0 (none, []) := ⟨Nat.zero_le _, rfl, ⟨rfl, rfl⟩⟩
theorem NS.len {ds bs : List Int} {k : Nat} {y : HD × List Int} (h : NS ds bs k y) : y.2.length = k := by rw [h.eq, addK_len]
theorem NS.step {ds bs : List Int} {k : Nat} {y : HD × List Int} {h' : HD} (h : NS ds bs k y) (hk : k < ds.length) (ho : goI (h', y.2 ++ [ds.getD k 0 + bs.getD k 0])) : NS ds bs (k + 1) (h', y.2 ++ [ds.getD k 0 + bs.getD k 0]) :=
  ⟨hk, by show y.2 ++ _ = _; rw [h.eq, addK_succ], ho⟩
theorem sh_is {n : Int} {rs : List Bd} {bs : List Int} (h : shI n rs bs = 0) : vdI n rs bs = 0 ∧ Valid n (rs.map (shB bs)) := by
  unfold shI at h
  by_cases h1 : vdI n rs bs ≠ 0
  · rw [if_pos h1] at h; exact absurd h h1
  · rw [if_neg h1] at h; exact ⟨Decidable.of_not_not h1, h⟩
theorem keep_shift {n : Int} {rs : List Bd} {bs ds : List Int} (hv : Valid n rs) (hl : (ds.length : Int) = n) {r : Bd} (hr : r ∈ rs) : keepB (addK ds bs ds.length) (shB bs r) = keepB ds r := by
  have h1 := ok_spec (List.all_eq_true.1 hv.all r hr)
  show decide ((addK ds bs ds.length).getD r.b.toNat 0 - (addK ds bs ds.length).getD r.a.toNat 0 ≤ r.m + (bs.getD r.b.toNat 0 - bs.getD r.a.toNat 0)) = decide (ds.getD r.b.toNat 0 - ds.getD r.a.toNat 0 ≤ r.m)
  rw [addK_get (by omega), addK_get (by omega), decide_eq_decide]
  omega
theorem shift_check {n : Int} {rs : List Bd} {bs ds : List Int} (hs : shI n rs bs = 0) (hx : checkI n rs ds = 0 ∨ checkI n rs ds = 7) :
    checkI n (rs.map (shB bs)) (addK ds bs ds.length) = checkI n rs ds ∨ checkI n (rs.map (shB bs)) (addK ds bs ds.length) = 1 := by
  have h1 := check_vd hx
  obtain ⟨hv, hd⟩ := vdI_is h1
  have hl := (datesOk_spec hd).1
  obtain ⟨_, hv2⟩ := sh_is hs
  by_cases h2 : datesOk n (addK ds bs ds.length) = true
  · left
    have h3 : vdI n (rs.map (shB bs)) (addK ds bs ds.length) = 0 := vdI_ok (not_not_intro hv2) h2
    have e : (rs.map (shB bs)).all (keepB (addK ds bs ds.length)) = rs.all (keepB ds) := by
      rw [List.all_map, Bool.eq_iff_iff, List.all_eq_true, List.all_eq_true]
      constructor
      · intro h r hr
        have := h r hr
        simp only [Function.comp] at this
        rwa [keep_shift hv hl hr] at this
      · intro h r hr
        simp only [Function.comp]
        rw [keep_shift hv hl hr]
        exact h r hr
    unfold checkI
    rw [h1, h3, e]
  · right
    have h3 : vdI n (rs.map (shB bs)) (addK ds bs ds.length) = 1 := vdI_arg (not_not_intro hv2) (by simpa using h2)
    rw [checkI_bad (by omega), h3]
theorem map_at {rs : List Bd} {f : Bd → Bd} {j : Nat} (hj : j < rs.length) : (rs.map f).getD j default = f (rs.getD j default) := by simp [List.getD, hj]
theorem dok_iff {n : Int} {rs : List Bd} (hv : Valid n rs) : dOk n rs = true ↔ ∃ d : Nat → Int, ∀ j, j < rs.length → d (eB rs j) ≤ d (eA rs j) + eM rs j := by
  have hp := hv.pts
  have hN := valid_nat hv
  constructor
  · intro h
    exact ⟨fun x => (lowN n.toNat rs n.toNat).ds.getD x 0, low_keeps hN (by omega) (of_decide_eq_true h).2⟩
  · rintro ⟨d, hd⟩
    exact decide_eq_true ⟨hv, keep_low hN (by omega) hd⟩
theorem dok_shift {n : Int} {rs : List Bd} {bs : List Int} (hv : Valid n rs) (hv2 : Valid n (rs.map (shB bs))) : dOk n (rs.map (shB bs)) = dOk n rs := by
  rw [Bool.eq_iff_iff, dok_iff hv2, dok_iff hv]
  constructor
  · rintro ⟨d, hd⟩
    refine ⟨fun x => d x - bs.getD x 0, fun j hj => ?_⟩
    have := hd j (by simpa using hj)
    simp only [eA, eB, eM, map_at hj, shB] at this ⊢
    omega
  · rintro ⟨d, hd⟩
    refine ⟨fun x => d x + bs.getD x 0, fun j hj => ?_⟩
    have hj' : j < rs.length := by simpa using hj
    have := hd j hj'
    simp only [eA, eB, eM, map_at hj', shB] at this ⊢
    omega


set_option maxRecDepth 100000 in
set_option maxHeartbeats 8000000 in
theorem coreShifts_ok (w0 : World) (n : Int) (p : Option Addr) (cap : Nat) (rs : List Bd) (hr : BdsAt w0 p rs) (pb : Option Addr) (cb : Nat) (bs : List Int) (hb : IntsAt w0 pb bs) (pd : Option Addr) (cd : Nat) (ds : List Int) (hx : IntsAt w0 pd ds) :
    Calls Try.prog 15 #[cv n p rs.length cap, .slice pb bs.length cb, .slice pd ds.length cd] w0 (Post (X := Unit) (fun _ => .bool true) (fun _ => True) (fun _ => []) w0) := by
  refine calls Try.func15 rfl (n := 128) rfl (by simp) ?_
  refine TC.seq ?_
  refine TC.region ?_
  refine TL.box rfl rfl (by decide) (fun b0 hb0 => ?_)
  refine TL.pure (PV.assign rfl) rfl (by decide) ?_
  refine TL.nil ?_
  refine TQ.thenC ?_
  refine TC.seq ?_
  refine TC.seq ?_
  refine TC.region ?_
  refine TL.pure (PV.loadBox rfl Tb.agg_24 (by repeat (first | exact List.Mem.head _ | refine List.Mem.tail _ ?_ | refine List.mem_append_right _ ?_)) rfl) rfl (by decide) ?_
  refine TL.call rfl Tb.gofn_17 (fun a w hs => long_ok w _ _ _ _ (hr.new hs.new)) rfl (by decide) (fun _ _ => ?_)
  refine TL.pure (PV.move rfl) rfl (by decide) ?_
  first | refine TL.splitD 21 rfl (fun l1 => ?_) (fun l1 => ?_) | refine TL.split 21 rfl (fun l1 => ?_) (fun l1 => ?_)
  · skip
    refine TL.skip rfl (fun k hk => by cases hk; decide) ?_
    refine TL.skip rfl (fun k hk => by cases hk; decide) ?_
    refine TL.skip rfl (fun k hk => by cases hk; decide) ?_
    refine TL.pure (PV.pickT rfl rfl) rfl (by decide) ?_
    refine TL.pure (PV.move rfl) rfl (by decide) ?_
    refine TL.skip rfl (fun k hk => by cases hk; decide) ?_
    refine TL.skip rfl (fun k hk => by cases hk; decide) ?_
    refine TL.skip rfl (fun k hk => by cases hk; decide) ?_
    refine TL.pure (PV.pickT rfl rfl) rfl (by decide) ?_
    refine TL.nil ?_
    refine TQ.thenC ?_
    refine TC.condT rfl ?_
    refine TC.seq ?_
    refine TC.region ?_
    refine TL.call rfl Tb.gofn_18 (fun a w hs => knownOk w) rfl (by decide) (fun _ _ => ?_)
    refine TL.pure (PV.assign rfl) rfl (by decide) ?_
    refine TL.nil ?_
    refine TQ.thenC ?_
    refine TC.ret ?_
    refine TQ.thenR ?_
    refine TQ.retE1 rfl rfl ?_
    first | exact ⟨(), rfl, trivial, List.nil_sublist _⟩ | (exfalso; omega) | (exfalso; simp_all; done)
  · skip
    refine TL.pure (PV.move rfl) rfl (by decide) ?_
    refine TL.pure (PV.len rfl Tb.sl_25) rfl (by decide) ?_
    refine TL.pure (PV.gtr rfl rfl) rfl (by decide) ?_
    refine TL.pure (PV.pickF rfl rfl) rfl (by decide) ?_
    refine TL.pure (PV.move rfl) rfl (by decide) ?_
    first | refine TL.splitD 26 rfl (fun l2 => ?_) (fun l2 => ?_) | refine TL.split 26 rfl (fun l2 => ?_) (fun l2 => ?_)
    · skip
      refine TL.skip rfl (fun k hk => by cases hk; decide) ?_
      refine TL.skip rfl (fun k hk => by cases hk; decide) ?_
      refine TL.skip rfl (fun k hk => by cases hk; decide) ?_
      refine TL.pure (PV.pickT rfl rfl) rfl (by decide) ?_
      refine TL.nil ?_
      refine TQ.thenC ?_
      refine TC.condT rfl ?_
      refine TC.seq ?_
      refine TC.region ?_
      refine TL.call rfl Tb.gofn_18 (fun a w hs => knownOk w) rfl (by decide) (fun _ _ => ?_)
      refine TL.pure (PV.assign rfl) rfl (by decide) ?_
      refine TL.nil ?_
      refine TQ.thenC ?_
      refine TC.ret ?_
      refine TQ.thenR ?_
      refine TQ.retE1 rfl rfl ?_
      first | exact ⟨(), rfl, trivial, List.nil_sublist _⟩ | (exfalso; omega) | (exfalso; simp_all; done)
    · skip
      refine TL.pure (PV.move rfl) rfl (by decide) ?_
      refine TL.pure (PV.len rfl Tb.sl_25) rfl (by decide) ?_
      refine TL.pure (PV.gtr rfl rfl) rfl (by decide) ?_
      refine TL.pure (PV.pickF rfl rfl) rfl (by decide) ?_
      refine TL.nil ?_
      refine TQ.thenC ?_
      first | refine TC.condD rfl (fun hlong => ?_) (fun hlong => ?_) | refine TC.cond rfl (fun hlong => ?_) (fun hlong => ?_)
      · skip
        refine TC.seq ?_
        refine TC.region ?_
        refine TL.call rfl Tb.gofn_18 (fun a w hs => knownOk w) rfl (by decide) (fun _ _ => ?_)
        refine TL.pure (PV.assign rfl) rfl (by decide) ?_
        refine TL.nil ?_
        refine TQ.thenC ?_
        refine TC.ret ?_
        refine TQ.thenR ?_
        refine TQ.retE1 rfl rfl ?_
        first | exact ⟨(), rfl, trivial, List.nil_sublist _⟩ | (exfalso; omega) | (exfalso; simp_all; done)
      · skip
        refine TC.skip ?_
        refine TQ.thenC ?_
        refine TC.seq ?_
        refine TC.region ?_
        refine TL.pure (PV.loadBox rfl Tb.agg_24 (by repeat (first | exact List.Mem.head _ | refine List.Mem.tail _ ?_ | refine List.mem_append_right _ ?_)) rfl) rfl (by decide) ?_
        refine TL.pure (PV.move rfl) rfl (by decide) ?_
        refine TL.call rfl Tb.gofn_56 (fun a w hs => shift_ok w n p cap rs (hr.new hs.new) (by omega) pb cb bs (hb.new hs.new) (by omega)) rfl (by decide) (fun xa hxa => ?_)
        refine TL.pure (PV.move rfl) rfl (by decide) ?_
        refine TL.pure (PV.extract rfl rfl) rfl (by decide) ?_
        refine TL.pure (PV.extract rfl rfl) rfl (by decide) ?_
        refine TL.alloc Tb.zero_24 rfl (by decide) (fun b1 hb1 => ?_)
        refine TL.storeAgg rfl rfl Tb.cells_24 (by repeat (first | exact Upd.head _ | apply Upd.tail | apply Upd.appR)) rfl rfl (by first | rfl | exact sv_one _ _ _) rfl rfl ?_
        refine TL.pure (PV.assign rfl) rfl (by decide) ?_
        refine TL.nil ?_
        refine TQ.thenC ?_
        refine TC.seq ?_
        refine TC.region ?_
        refine TL.pure (PV.loadBox rfl Tb.agg_24 (by repeat (first | exact List.Mem.head _ | refine List.Mem.tail _ ?_ | refine List.mem_append_right _ ?_)) rfl) rfl (by decide) ?_
        refine TL.pure (PV.move rfl) rfl (by decide) ?_
        refine TL.call rfl Tb.gofn_57 (fun a w hs => rShift_ok w n p cap rs (hr.new hs.new) (by omega) pb cb bs (hb.new hs.new) (by omega)) rfl (by decide) (fun ya hya => ?_)
        refine TL.pure (PV.move rfl) rfl (by decide) ?_
        refine TL.pure (PV.extract rfl rfl) rfl (by decide) ?_
        refine TL.pure (PV.extract rfl rfl) rfl (by decide) ?_
        refine TL.alloc Tb.zero_24 rfl (by decide) (fun b2 hb2 => ?_)
        refine TL.storeAgg rfl rfl Tb.cells_24 (by repeat (first | exact Upd.head _ | apply Upd.tail | apply Upd.appR)) rfl rfl (by first | rfl | exact sv_one _ _ _) rfl rfl ?_
        refine TL.pure (PV.assign rfl) rfl (by decide) ?_
        refine TL.nil ?_
        refine TQ.thenC ?_
        refine TC.seq ?_
        refine TC.seq ?_
        have lx := hxa.len
        have ly := hya.len
        have lm : (rs.map (shB bs)).length = rs.length := List.length_map _
        refine TC.region ?_
        refine TL.pure (PV.loadBox rfl Tb.agg_24 (by repeat (first | exact List.Mem.head _ | refine List.Mem.tail _ ?_ | refine List.mem_append_right _ ?_)) rfl) rfl (by decide) ?_
        refine TL.pure (PV.loadBox rfl Tb.agg_24 (by repeat (first | exact List.Mem.head _ | refine List.Mem.tail _ ?_ | refine List.mem_append_right _ ?_)) rfl) rfl (by decide) ?_
        refine TL.call rfl Tb.gofn_51 (fun a w hs => equalS rfl rfl hxa.ok hya.ok (BdsAt.s hs.new (fun yy hyy => by repeat (first | exact List.mem_append_left _ hyy | refine List.mem_append_right _ ?_ | refine List.Mem.tail _ ?_)) hxa.ok) (BdsAt.s hs.new (fun yy hyy => by repeat (first | exact List.mem_append_left _ hyy | refine List.mem_append_right _ ?_ | refine List.Mem.tail _ ?_)) hya.ok) (by omega) (by omega)) rfl (by decide) (fun _ _ => ?_)
        refine TL.pure ((by first | exact PV.notD rfl | exact PV.not rfl)) rfl (by decide) ?_
        refine TL.pure (PV.move rfl) rfl (by decide) ?_
        first | refine TL.splitD 48 rfl (fun g0 => ?_) (fun g0 => ?_) | refine TL.split 48 rfl (fun g0 => ?_) (fun g0 => ?_)
        · skip
          exact (g0 (CF.same hxa hya)).elim
        · skip
          refine TL.pure (PV.move rfl) rfl (by decide) ?_
          refine TL.pure (PV.move rfl) rfl (by decide) ?_
          refine TL.pure (PV.neq rfl rfl) rfl (by decide) ?_
          refine TL.pure (PV.pickF rfl rfl) rfl (by decide) ?_
          refine TL.nil ?_
          refine TQ.thenC ?_
          first | refine TC.condD rfl (fun g1 => ?_) (fun g1 => ?_) | refine TC.cond rfl (fun g1 => ?_) (fun g1 => ?_)
          · skip
            exact (g1 rfl).elim
          · skip
            refine TC.skip ?_
            refine TQ.thenC ?_
            refine TC.seq ?_
            refine TC.region ?_
            refine TL.pure (PV.loadBox rfl Tb.agg_24 (by repeat (first | exact List.Mem.head _ | refine List.Mem.tail _ ?_ | refine List.mem_append_right _ ?_)) rfl) rfl (by decide) ?_
            refine TL.pure (PV.move rfl) rfl (by decide) ?_
            refine TL.call rfl Tb.gofn_23 (fun a w hs => check_ok w _ _ _ _ (hr.new hs.new) pd cd ds.length ds rfl (hx.new hs.new) (by omega)) rfl (by decide) (fun _ _ => ?_)
            refine TL.pure (PV.assign rfl) rfl (by decide) ?_
            refine TL.nil ?_
            refine TQ.thenC ?_
            refine TC.seq ?_
            refine TC.seq ?_
            refine TC.region ?_
            refine TL.pure (PV.move rfl) rfl (by decide) ?_
            refine TL.pure (PV.neq rfl rfl) rfl (by decide) ?_
            refine TL.pure (PV.move rfl) rfl (by decide) ?_
            first | refine TL.splitD 58 rfl (fun k1 => ?_) (fun k1 => ?_) | refine TL.split 58 rfl (fun k1 => ?_) (fun k1 => ?_)
            · skip
              refine TL.skip rfl (fun k hk => by cases hk; decide) ?_
              refine TL.skip rfl (fun k hk => by cases hk; decide) ?_
              refine TL.skip rfl (fun k hk => by cases hk; decide) ?_
              refine TL.skipU rfl (fun k hk => by cases hk; decide) ?_
              refine TL.skipU rfl (fun k hk => by cases hk; decide) ?_
              refine TL.skip rfl (fun k hk => by cases hk; decide) ?_
              refine TL.pure (PV.pickT rfl rfl) rfl (by decide) ?_
              refine TL.pure (PV.move rfl) rfl (by decide) ?_
              refine TL.skip rfl (fun k hk => by cases hk; decide) ?_
              refine TL.skip rfl (fun k hk => by cases hk; decide) ?_
              refine TL.skip rfl (fun k hk => by cases hk; decide) ?_
              refine TL.skip rfl (fun k hk => by cases hk; decide) ?_
              refine TL.skip rfl (fun k hk => by cases hk; decide) ?_
              refine TL.pure (PV.pickT rfl rfl) rfl (by decide) ?_
              refine TL.nil ?_
              refine TQ.thenC ?_
              refine TC.condT rfl ?_
              refine TC.seq ?_
              refine TC.region ?_
              refine TL.call rfl Tb.gofn_18 (fun a w hs => knownOk w) rfl (by decide) (fun _ _ => ?_)
              refine TL.pure (PV.assign rfl) rfl (by decide) ?_
              refine TL.nil ?_
              refine TQ.thenC ?_
              refine TC.ret ?_
              refine TQ.thenR ?_
              refine TQ.retE1 rfl rfl ?_
              first | exact ⟨(), rfl, trivial, List.nil_sublist _⟩ | (exfalso; omega) | (exfalso; simp_all; done)
            · skip
              refine TL.pure (PV.move rfl) rfl (by decide) ?_
              refine TL.pure (PV.neq rfl rfl) rfl (by decide) ?_
              refine TL.pure (PV.move rfl) rfl (by decide) ?_
              first | refine TL.splitD 61 rfl (fun k2 => ?_) (fun k2 => ?_) | refine TL.split 61 rfl (fun k2 => ?_) (fun k2 => ?_)
              · skip
                refine TL.pure (PV.move rfl) rfl (by decide) ?_
                refine TL.pure (PV.neq rfl rfl) rfl (by decide) ?_
                refine TL.pure (PV.pickT rfl rfl) rfl (by decide) ?_
                refine TL.pure (PV.pickF rfl rfl) rfl (by decide) ?_
                refine TL.pure (PV.move rfl) rfl (by decide) ?_
                first | refine TL.splitD 66 rfl (fun k3 => ?_) (fun k3 => ?_) | refine TL.split 66 rfl (fun k3 => ?_) (fun k3 => ?_)
                · skip
                  refine TL.skip rfl (fun k hk => by cases hk; decide) ?_
                  refine TL.skip rfl (fun k hk => by cases hk; decide) ?_
                  refine TL.skip rfl (fun k hk => by cases hk; decide) ?_
                  refine TL.skip rfl (fun k hk => by cases hk; decide) ?_
                  refine TL.skip rfl (fun k hk => by cases hk; decide) ?_
                  refine TL.pure (PV.pickT rfl rfl) rfl (by decide) ?_
                  refine TL.nil ?_
                  refine TQ.thenC ?_
                  refine TC.condT rfl ?_
                  refine TC.seq ?_
                  refine TC.region ?_
                  refine TL.call rfl Tb.gofn_18 (fun a w hs => knownOk w) rfl (by decide) (fun _ _ => ?_)
                  refine TL.pure (PV.assign rfl) rfl (by decide) ?_
                  refine TL.nil ?_
                  refine TQ.thenC ?_
                  refine TC.ret ?_
                  refine TQ.thenR ?_
                  refine TQ.retE1 rfl rfl ?_
                  first | exact ⟨(), rfl, trivial, List.nil_sublist _⟩ | (exfalso; omega) | (exfalso; simp_all; done)
                · skip
                  refine TL.pure (PV.move rfl) rfl (by decide) ?_
                  refine TL.pure (PV.len rfl Tb.sl_25) rfl (by decide) ?_
                  refine TL.pure (PV.move rfl) rfl (by decide) ?_
                  refine TL.pure (PV.len rfl Tb.sl_25) rfl (by decide) ?_
                  refine TL.pure (PV.neq rfl rfl) rfl (by decide) ?_
                  refine TL.pure (PV.pickF rfl rfl) rfl (by decide) ?_
                  refine TL.nil ?_
                  refine TQ.thenC ?_
                  first | refine TC.condD rfl (fun k4 => ?_) (fun k4 => ?_) | refine TC.cond rfl (fun k4 => ?_) (fun k4 => ?_)
                  · skip
                    refine TC.seq ?_
                    refine TC.region ?_
                    refine TL.call rfl Tb.gofn_18 (fun a w hs => knownOk w) rfl (by decide) (fun _ _ => ?_)
                    refine TL.pure (PV.assign rfl) rfl (by decide) ?_
                    refine TL.nil ?_
                    refine TQ.thenC ?_
                    refine TC.ret ?_
                    refine TQ.thenR ?_
                    refine TQ.retE1 rfl rfl ?_
                    first | exact ⟨(), rfl, trivial, List.nil_sublist _⟩ | (exfalso; omega) | (exfalso; simp_all; done)
                  · skip
                    refine TC.skip ?_
                    refine TQ.thenC ?_
                    refine TC.seq ?_
                    have hz : shI n rs bs = 0 := by omega
                    have hx7 : checkI n rs ds = 0 ∨ checkI n rs ds = 7 := by omega
                    have hll : bs.length = ds.length := by omega
                    have q1 : xa.1 = n := by rw [hxa.num, if_pos hz]
                    have q2 : xa.2.2 = rs.map (shB bs) := by rw [hxa.eq, if_pos hz]
                    obtain ⟨hvd, hv2⟩ := sh_is hz
                    obtain ⟨hvv, hdd⟩ := vdI_is hvd
                    have hdd2 := (vdI_is (check_vd hx7)).2
                    refine TC.region ?_
                    refine TL.pure (PV.assign rfl) rfl (by decide) ?_
                    refine TL.nil ?_
                    refine TQ.thenC ?_
                    refine TC.seq ?_
                    refine TC.seq ?_
                    refine TC.region ?_
                    refine TL.pure (PV.assign rfl) rfl (by decide) ?_
                    refine TL.nil ?_
                    refine TQ.thenC ?_
                    refine TC.block ?_
                    refine TC.loopK [1, 2, 3, 6, 7, 11] (X := Nat × HD × List Int) (fun v => NS ds bs v.1 v.2) (fun v => [(13, .int .i64 v.1), (12, gvI v.2)]) (fun v => gbI v.2 ++ ((b2, .cells #[.int .i64 ya.1, gval ya.2.1 ya.2.2.length] 24 (0, 0)) :: (gbB 42 ya.2.1 ya.2.2 ++ ((b1, .cells #[.int .i64 xa.1, gval xa.2.1 xa.2.2.length] 24 (0, 0)) :: (gbB 42 xa.2.1 xa.2.2 ++ [(b0, .cells #[.int .i64 n, .slice p rs.length cap] 24 (0, 0))]))))) (fun v => ds.length - v.1) (0, none, []) (NS.zero ds bs) (by repeat (first | exact True.intro | refine And.intro rfl ?_)) (by repeat (first | exact List.Sublist.slnil | exact List.nil_sublist _ | exact List.Sublist.refl _ | exact List.sublist_append_left _ _ | refine List.Sublist.cons_cons _ ?_ | refine (List.append_sublist_append_left _).2 ?_ | refine List.Sublist.cons _ ?_ | refine List.Sublist.trans ?_ (List.sublist_append_right _ _))) ?_
                    intro v hv
                    refine TC.seq ?_
                    refine TC.seq ?_
                    refine TC.region ?_
                    refine TL.pure (PV.move rfl) rfl (by decide) ?_
                    refine TL.pure (PV.move rfl) rfl (by decide) ?_
                    refine TL.pure (PV.len rfl Tb.sl_25) rfl (by decide) ?_
                    refine TL.pure (PV.lss rfl rfl) rfl (by decide) ?_
                    refine TL.nil ?_
                    refine TQ.thenC ?_
                    first | refine TC.condD rfl (fun hlt => ?_) (fun hlt => ?_) | refine TC.cond rfl (fun hlt => ?_) (fun hlt => ?_)
                    · skip
                      refine TC.skip ?_
                      refine TQ.thenC ?_
                      refine TC.seq ?_
                      refine TC.block ?_
                      obtain ⟨qd, hqdp, hqd⟩ := hx v.1 (by omega)
                      obtain ⟨qb, hqbp, hqb⟩ := hb v.1 (by omega)
                      have y1 := (datesOk_spec hdd).2 v.1
                      have y2 := (datesOk_spec hdd2).2 v.1
                      have hlen := hv.len
                      refine TC.mixE [false, true, true, true, true, true, true, true, true, true, false, false, false] [] 4 Tb.mixed rfl (by kernel_rfl) (by kernel_rfl) (by kernel_rfl) (by kernel_rfl) (by repeat (first | exact List.Sublist.slnil | exact List.nil_sublist _ | exact List.Sublist.refl _ | refine List.Sublist.cons_cons _ ?_ | refine List.Sublist.cons _ ?_ | refine List.Sublist.trans ?_ (List.sublist_append_right _ _))) ?_
                      refine TY.no ?_
                      refine TY.op (SOK.pure (PV.move rfl) rfl) (by decide) ?_
                      refine TY.op (SOK.pure (PV.move rfl) rfl) (by decide) ?_
                      refine TY.op (SOK.pure (PV.indexA rfl hqdp rfl Tb.elm_25 rfl (by omega)) rfl) (by decide) ?_
                      refine TY.op (SOK.pure (PV.loadOld rfl Tb.one_3 hqd) rfl) (by decide) ?_
                      refine TY.op (SOK.pure (PV.move rfl) rfl) (by decide) ?_
                      refine TY.op (SOK.pure (PV.move rfl) rfl) (by decide) ?_
                      refine TY.op (SOK.pure (PV.indexA rfl hqbp rfl Tb.elm_25 rfl (by omega)) rfl) (by decide) ?_
                      refine TY.op (SOK.pure (PV.loadOld rfl Tb.one_3 hqb) rfl) (by decide) ?_
                      refine TY.op (SOK.pure (PV.add rfl rfl (by omega)) rfl) (by decide) ?_
                      refine TY.no ?_
                      refine TY.no ?_
                      refine TY.no ?_
                      refine TY.fin ?_
                      refine TX.step [0, 10] (by kernel_rfl) (by decide) ⟨⟨_, rfl, ?_⟩, ⟨_, rfl, ?_⟩, trivial⟩
                      · skip
                        refine TL.pure (PV.move rfl) rfl (by decide) ?_
                        refine TL.nil ?_
                        refine TX.next (.inl (by repeat (first | exact List.Sublist.slnil | exact List.nil_sublist _ | exact List.Sublist.refl _ | refine List.Sublist.cons_cons _ ?_ | refine List.Sublist.cons _ ?_ | refine List.Sublist.trans ?_ (List.sublist_append_right _ _)))) ?_
                        refine TX.step [10] (by kernel_rfl) (by decide) ⟨⟨_, rfl, ?_⟩, trivial⟩
                        refine TL.buildSlice (cs := #[.int .i64 (ds.getD v.1 0 + bs.getD v.1 0)]) rfl Tb.sl_25 Tb.zi_3 (by decide) (fill_i _) (by decide) rfl (by decide) (fun bI hbI => ?_)
                        refine TL.nil ?_
                        refine TX.next (.inl (by repeat (first | exact List.Sublist.slnil | exact List.nil_sublist _ | exact List.Sublist.refl _ | refine List.Sublist.cons_cons _ ?_ | refine List.Sublist.cons _ ?_ | refine List.Sublist.trans ?_ (List.sublist_append_right _ _)))) ?_
                        refine TX.step [11] (by kernel_rfl) (by decide) ⟨⟨_, rfl, ?_⟩, trivial⟩
                        refine TL.appendI (x0 := v.2) (v := (ds.getD v.1 0 + bs.getD v.1 0)) rfl rfl (by repeat (first | exact List.Mem.head _ | refine List.Mem.tail _ ?_ | refine List.mem_append_right _ ?_)) hv.ok (by repeat (first | exact TakeH.here _ _ _ _ | apply TakeH.tail | apply TakeH.app)) (by omega) rfl (by decide) (fun h9 ho9 => ?_)
                        refine TL.nil ?_
                        refine TX.next (.inl (by repeat (first | exact List.Sublist.slnil | exact List.nil_sublist _ | exact List.Sublist.refl _ | refine List.Sublist.cons_cons _ ?_ | refine List.Sublist.cons _ ?_ | refine List.Sublist.trans ?_ (List.sublist_append_right _ _)))) ?_
                        refine TX.step [12] (by kernel_rfl) (by decide) ⟨⟨_, rfl, ?_⟩, trivial⟩
                        refine TL.pure (PV.assign rfl) rfl (by decide) ?_
                        refine TL.nil ?_
                        refine TX.next (.inr (by kernel_rfl)) ?_
                        refine TX.done (by kernel_rfl) ?_
                        refine TQ.blkN ?_
                        refine TQ.thenC ?_
                        refine TC.region ?_
                        refine TL.pure (PV.move rfl) rfl (by decide) ?_
                        refine TL.pure (PV.add rfl rfl (by omega)) rfl (by decide) ?_
                        refine TL.pure (PV.assign rfl) rfl (by decide) ?_
                        refine TL.nil ?_
                        refine TQ.thenN ?_
                        refine TQ.backK (v.1 + 1, h9, v.2.2 ++ [(ds.getD v.1 0 + bs.getD v.1 0)]) (by repeat (first | exact True.intro | refine And.intro rfl ?_)) (by repeat (first | exact True.intro | refine And.intro rfl ?_)) (by repeat (first | exact List.Sublist.slnil | exact List.nil_sublist _ | exact List.Sublist.refl _ | exact List.sublist_append_left _ _ | refine List.Sublist.cons_cons _ ?_ | refine (List.append_sublist_append_left _).2 ?_ | refine List.Sublist.cons _ ?_ | refine List.Sublist.trans ?_ (List.sublist_append_right _ _))) (hv.step (by omega) ho9) (by simp only; omega)
                      · skip
                        refine TL.buildSlice (cs := #[.int .i64 (ds.getD v.1 0 + bs.getD v.1 0)]) rfl Tb.sl_25 Tb.zi_3 (by decide) (fill_i _) (by decide) rfl (by decide) (fun bI hbI => ?_)
                        refine TL.nil ?_
                        refine TX.next (.inl (by repeat (first | exact List.Sublist.slnil | exact List.nil_sublist _ | exact List.Sublist.refl _ | refine List.Sublist.cons_cons _ ?_ | refine List.Sublist.cons _ ?_ | refine List.Sublist.trans ?_ (List.sublist_append_right _ _)))) ?_
                        refine TX.step [0] (by kernel_rfl) (by decide) ⟨⟨_, rfl, ?_⟩, trivial⟩
                        refine TL.pure (PV.move rfl) rfl (by decide) ?_
                        refine TL.nil ?_
                        refine TX.next (.inl (by repeat (first | exact List.Sublist.slnil | exact List.nil_sublist _ | exact List.Sublist.refl _ | refine List.Sublist.cons_cons _ ?_ | refine List.Sublist.cons _ ?_ | refine List.Sublist.trans ?_ (List.sublist_append_right _ _)))) ?_
                        refine TX.step [11] (by kernel_rfl) (by decide) ⟨⟨_, rfl, ?_⟩, trivial⟩
                        refine TL.appendI (x0 := v.2) (v := (ds.getD v.1 0 + bs.getD v.1 0)) rfl rfl (by repeat (first | exact List.Mem.head _ | refine List.Mem.tail _ ?_ | refine List.mem_append_right _ ?_)) hv.ok (by repeat (first | exact TakeH.here _ _ _ _ | apply TakeH.tail | apply TakeH.app)) (by omega) rfl (by decide) (fun h9 ho9 => ?_)
                        refine TL.nil ?_
                        refine TX.next (.inl (by repeat (first | exact List.Sublist.slnil | exact List.nil_sublist _ | exact List.Sublist.refl _ | refine List.Sublist.cons_cons _ ?_ | refine List.Sublist.cons _ ?_ | refine List.Sublist.trans ?_ (List.sublist_append_right _ _)))) ?_
                        refine TX.step [12] (by kernel_rfl) (by decide) ⟨⟨_, rfl, ?_⟩, trivial⟩
                        refine TL.pure (PV.assign rfl) rfl (by decide) ?_
                        refine TL.nil ?_
                        refine TX.next (.inr (by kernel_rfl)) ?_
                        refine TX.done (by kernel_rfl) ?_
                        refine TQ.blkN ?_
                        refine TQ.thenC ?_
                        refine TC.region ?_
                        refine TL.pure (PV.move rfl) rfl (by decide) ?_
                        refine TL.pure (PV.add rfl rfl (by omega)) rfl (by decide) ?_
                        refine TL.pure (PV.assign rfl) rfl (by decide) ?_
                        refine TL.nil ?_
                        refine TQ.thenN ?_
                        refine TQ.backK (v.1 + 1, h9, v.2.2 ++ [(ds.getD v.1 0 + bs.getD v.1 0)]) (by repeat (first | exact True.intro | refine And.intro rfl ?_)) (by repeat (first | exact True.intro | refine And.intro rfl ?_)) (by repeat (first | exact List.Sublist.slnil | exact List.nil_sublist _ | exact List.Sublist.refl _ | exact List.sublist_append_left _ _ | refine List.Sublist.cons_cons _ ?_ | refine (List.append_sublist_append_left _).2 ?_ | refine List.Sublist.cons _ ?_ | refine List.Sublist.trans ?_ (List.sublist_append_right _ _))) (hv.step (by omega) ho9) (by simp only; omega)
                    · skip
                      refine TC.exit ?_
                      refine TQ.thenE ?_
                      refine TQ.thenE ?_
                      refine TQ.blkS ?_
                      refine TQ.thenC ?_
                      refine TC.seq ?_
                      have hvl := hv.len
                      have hv9 : v.1 = ds.length := by have := hv.le; omega
                      refine TC.region ?_
                      refine TL.pure (PV.loadBox rfl Tb.agg_24 (by repeat (first | exact List.Mem.head _ | refine List.Mem.tail _ ?_ | refine List.mem_append_right _ ?_)) rfl) rfl (by decide) ?_
                      refine TL.pure (PV.move rfl) rfl (by decide) ?_
                      refine TL.call rfl Tb.gofn_23 (fun a w hs => callsIS w xa.1 xa.2.1 _ xa.2.2 rfl hxa.ok (BdsAt.s hs.new (fun yy hyy => by repeat (first | exact List.mem_append_left _ hyy | refine List.mem_append_right _ ?_ | refine List.Mem.tail _ ?_)) hxa.ok) v.2 _ rfl hv.ok (IntsAt.g hs.new (fun yy hyy => by repeat (first | exact List.mem_append_left _ hyy | refine List.mem_append_right _ ?_ | refine List.Mem.tail _ ?_)) hv.ok) (by omega)) rfl (by decide) (fun _ _ => ?_)
                      refine TL.pure (PV.assign rfl) rfl (by decide) ?_
                      refine TL.nil ?_
                      refine TQ.thenC ?_
                      refine TC.seq ?_
                      refine TC.region ?_
                      refine TL.pure (PV.loadBox rfl Tb.agg_24 (by repeat (first | exact List.Mem.head _ | refine List.Mem.tail _ ?_ | refine List.mem_append_right _ ?_)) rfl) rfl (by decide) ?_
                      refine TL.call rfl Tb.gofn_19 (fun a w hs => isPossible_ok w _ _ _ _ (hr.new hs.new)) rfl (by decide) (fun _ _ => ?_)
                      refine TL.pure (PV.move rfl) rfl (by decide) ?_
                      refine TL.pure (PV.extract rfl rfl) rfl (by decide) ?_
                      refine TL.pure (PV.extract rfl rfl) rfl (by decide) ?_
                      refine TL.pure (PV.assign rfl) rfl (by decide) ?_
                      refine TL.pure (PV.assign rfl) rfl (by decide) ?_
                      refine TL.nil ?_
                      refine TQ.thenC ?_
                      refine TC.seq ?_
                      refine TC.region ?_
                      refine TL.pure (PV.loadBox rfl Tb.agg_24 (by repeat (first | exact List.Mem.head _ | refine List.Mem.tail _ ?_ | refine List.mem_append_right _ ?_)) rfl) rfl (by decide) ?_
                      refine TL.call rfl Tb.gofn_19 (fun a w hs => possS w xa.1 xa.2.1 _ xa.2.2 rfl hxa.ok (BdsAt.s hs.new (fun yy hyy => by repeat (first | exact List.mem_append_left _ hyy | refine List.mem_append_right _ ?_ | refine List.Mem.tail _ ?_)) hxa.ok)) rfl (by decide) (fun _ _ => ?_)
                      refine TL.pure (PV.move rfl) rfl (by decide) ?_
                      refine TL.pure (PV.extract rfl rfl) rfl (by decide) ?_
                      refine TL.pure (PV.extract rfl rfl) rfl (by decide) ?_
                      refine TL.pure (PV.assign rfl) rfl (by decide) ?_
                      refine TL.pure (PV.assign rfl) rfl (by decide) ?_
                      refine TL.nil ?_
                      refine TQ.thenC ?_
                      refine TC.seq ?_
                      have e9 : v.2.2 = addK ds bs ds.length := hv9 ▸ hv.eq
                      have hyy : checkI xa.1 xa.2.2 v.2.2 = checkI n rs ds ∨ checkI xa.1 xa.2.2 v.2.2 = 1 := by rw [q1, q2, e9]; exact shift_check hz hx7
                      have hg1 : validateI n rs = 0 := hvv
                      have hg2 : validateI xa.1 xa.2.2 = 0 := by rw [q1, q2]; exact hv2
                      have hpq : dOk xa.1 xa.2.2 = dOk n rs := by rw [q1, q2]; exact dok_shift hvv hv2
                      refine TC.region ?_
                      refine TL.pure (PV.move rfl) rfl (by decide) ?_
                      refine TL.pure (PV.move rfl) rfl (by decide) ?_
                      refine TL.pure (PV.eql rfl rfl) rfl (by decide) ?_
                      refine TL.pure (PV.move rfl) rfl (by decide) ?_
                      first | refine TL.splitD 108 rfl (fun m1 => ?_) (fun m1 => ?_) | refine TL.split 108 rfl (fun m1 => ?_) (fun m1 => ?_)
                      · skip
                        refine TL.skip rfl (fun k hk => by cases hk; decide) ?_
                        refine TL.skip rfl (fun k hk => by cases hk; decide) ?_
                        refine TL.pure (PV.pickT rfl rfl) rfl (by decide) ?_
                        refine TL.pure (PV.move rfl) rfl (by decide) ?_
                        refine TL.pure (PV.move rfl) rfl (by decide) ?_
                        refine TL.pure (PV.eql rfl rfl) rfl (by decide) ?_
                        refine TL.pure (PV.pickT rfl rfl) rfl (by decide) ?_
                        refine TL.pure (PV.move rfl) rfl (by decide) ?_
                        first | refine TL.splitD 116 rfl (fun m3 => ?_) (fun m3 => ?_) | refine TL.split 116 rfl (fun m3 => ?_) (fun m3 => ?_)
                        · skip
                          refine TL.pure (PV.move rfl) rfl (by decide) ?_
                          refine TL.pure (PV.eql rfl rfl) rfl (by decide) ?_
                          refine TL.pure (PV.pickT rfl rfl) rfl (by decide) ?_
                          refine TL.pure (PV.move rfl) rfl (by decide) ?_
                          first | refine TL.splitD 120 rfl (fun m4 => ?_) (fun m4 => ?_) | refine TL.split 120 rfl (fun m4 => ?_) (fun m4 => ?_)
                          · skip
                            refine TL.pure (PV.move rfl) rfl (by decide) ?_
                            refine TL.pure (PV.move rfl) rfl (by decide) ?_
                            refine TL.pure (PV.eqlB rfl rfl Tb.bool_4) rfl (by decide) ?_
                            refine TL.pure (PV.pickT rfl rfl) rfl (by decide) ?_
                            refine TL.pure (PV.move rfl) rfl (by decide) ?_
                            first | refine TL.splitD 125 rfl (fun m5 => ?_) (fun m5 => ?_) | refine TL.split 125 rfl (fun m5 => ?_) (fun m5 => ?_)
                            · skip
                              refine TL.call rfl Tb.gofn_18 (fun a w hs => knownOk w) rfl (by decide) (fun _ _ => ?_)
                              refine TL.pure (PV.pickT rfl rfl) rfl (by decide) ?_
                              refine TL.pure (PV.assign rfl) rfl (by decide) ?_
                              refine TL.nil ?_
                              refine TQ.thenC ?_
                              refine TC.ret ?_
                              refine TQ.retE1 rfl rfl ?_
                              first | exact ⟨(), rfl, trivial, List.nil_sublist _⟩ | (exfalso; omega) | (exfalso; simp_all; done)
                            · skip
                              refine TL.skip rfl (fun k hk => by cases hk; decide) ?_
                              refine TL.pure (PV.pickF rfl rfl) rfl (by decide) ?_
                              refine TL.pure (PV.assign rfl) rfl (by decide) ?_
                              refine TL.nil ?_
                              refine TQ.thenC ?_
                              refine TC.ret ?_
                              refine TQ.retE1 rfl rfl ?_
                              first | exact ⟨(), rfl, trivial, List.nil_sublist _⟩ | (exfalso; omega) | (exfalso; simp_all; done)
                          · skip
                            refine TL.skip rfl (fun k hk => by cases hk; decide) ?_
                            refine TL.skip rfl (fun k hk => by cases hk; decide) ?_
                            refine TL.skip rfl (fun k hk => by cases hk; decide) ?_
                            refine TL.pure (PV.pickF rfl rfl) rfl (by decide) ?_
                            refine TL.pure (PV.move rfl) rfl (by decide) ?_
                            refine TL.skip rfl (fun k hk => by cases hk; decide) ?_
                            refine TL.pure (PV.pickF rfl rfl) rfl (by decide) ?_
                            refine TL.pure (PV.assign rfl) rfl (by decide) ?_
                            refine TL.nil ?_
                            refine TQ.thenC ?_
                            refine TC.ret ?_
                            refine TQ.retE1 rfl rfl ?_
                            first | exact ⟨(), rfl, trivial, List.nil_sublist _⟩ | (exfalso; omega) | (exfalso; simp_all; done)
                        · skip
                          refine TL.skip rfl (fun k hk => by cases hk; decide) ?_
                          refine TL.skip rfl (fun k hk => by cases hk; decide) ?_
                          refine TL.pure (PV.pickF rfl rfl) rfl (by decide) ?_
                          refine TL.pure (PV.move rfl) rfl (by decide) ?_
                          refine TL.skip rfl (fun k hk => by cases hk; decide) ?_
                          refine TL.skip rfl (fun k hk => by cases hk; decide) ?_
                          refine TL.skip rfl (fun k hk => by cases hk; decide) ?_
                          refine TL.pure (PV.pickF rfl rfl) rfl (by decide) ?_
                          refine TL.pure (PV.move rfl) rfl (by decide) ?_
                          refine TL.skip rfl (fun k hk => by cases hk; decide) ?_
                          refine TL.pure (PV.pickF rfl rfl) rfl (by decide) ?_
                          refine TL.pure (PV.assign rfl) rfl (by decide) ?_
                          refine TL.nil ?_
                          refine TQ.thenC ?_
                          refine TC.ret ?_
                          refine TQ.retE1 rfl rfl ?_
                          first | exact ⟨(), rfl, trivial, List.nil_sublist _⟩ | (exfalso; omega) | (exfalso; simp_all; done)
                      · skip
                        refine TL.pure (PV.move rfl) rfl (by decide) ?_
                        refine TL.pure (PV.eql rfl rfl) rfl (by decide) ?_
                        refine TL.pure (PV.pickF rfl rfl) rfl (by decide) ?_
                        refine TL.pure (PV.move rfl) rfl (by decide) ?_
                        first | refine TL.splitD 112 rfl (fun m2 => ?_) (fun m2 => ?_) | refine TL.split 112 rfl (fun m2 => ?_) (fun m2 => ?_)
                        · skip
                          refine TL.pure (PV.move rfl) rfl (by decide) ?_
                          refine TL.pure (PV.eql rfl rfl) rfl (by decide) ?_
                          refine TL.pure (PV.pickT rfl rfl) rfl (by decide) ?_
                          refine TL.pure (PV.move rfl) rfl (by decide) ?_
                          first | refine TL.splitD 116 rfl (fun m3 => ?_) (fun m3 => ?_) | refine TL.split 116 rfl (fun m3 => ?_) (fun m3 => ?_)
                          · skip
                            refine TL.pure (PV.move rfl) rfl (by decide) ?_
                            refine TL.pure (PV.eql rfl rfl) rfl (by decide) ?_
                            refine TL.pure (PV.pickT rfl rfl) rfl (by decide) ?_
                            refine TL.pure (PV.move rfl) rfl (by decide) ?_
                            first | refine TL.splitD 120 rfl (fun m4 => ?_) (fun m4 => ?_) | refine TL.split 120 rfl (fun m4 => ?_) (fun m4 => ?_)
                            · skip
                              refine TL.pure (PV.move rfl) rfl (by decide) ?_
                              refine TL.pure (PV.move rfl) rfl (by decide) ?_
                              refine TL.pure (PV.eqlB rfl rfl Tb.bool_4) rfl (by decide) ?_
                              refine TL.pure (PV.pickT rfl rfl) rfl (by decide) ?_
                              refine TL.pure (PV.move rfl) rfl (by decide) ?_
                              first | refine TL.splitD 125 rfl (fun m5 => ?_) (fun m5 => ?_) | refine TL.split 125 rfl (fun m5 => ?_) (fun m5 => ?_)
                              · skip
                                refine TL.call rfl Tb.gofn_18 (fun a w hs => knownOk w) rfl (by decide) (fun _ _ => ?_)
                                refine TL.pure (PV.pickT rfl rfl) rfl (by decide) ?_
                                refine TL.pure (PV.assign rfl) rfl (by decide) ?_
                                refine TL.nil ?_
                                refine TQ.thenC ?_
                                refine TC.ret ?_
                                refine TQ.retE1 rfl rfl ?_
                                first | exact ⟨(), rfl, trivial, List.nil_sublist _⟩ | (exfalso; omega) | (exfalso; simp_all; done)
                              · skip
                                refine TL.skip rfl (fun k hk => by cases hk; decide) ?_
                                refine TL.pure (PV.pickF rfl rfl) rfl (by decide) ?_
                                refine TL.pure (PV.assign rfl) rfl (by decide) ?_
                                refine TL.nil ?_
                                refine TQ.thenC ?_
                                refine TC.ret ?_
                                refine TQ.retE1 rfl rfl ?_
                                first | exact ⟨(), rfl, trivial, List.nil_sublist _⟩ | (exfalso; omega) | (exfalso; simp_all; done)
                            · skip
                              refine TL.skip rfl (fun k hk => by cases hk; decide) ?_
                              refine TL.skip rfl (fun k hk => by cases hk; decide) ?_
                              refine TL.skip rfl (fun k hk => by cases hk; decide) ?_
                              refine TL.pure (PV.pickF rfl rfl) rfl (by decide) ?_
                              refine TL.pure (PV.move rfl) rfl (by decide) ?_
                              refine TL.skip rfl (fun k hk => by cases hk; decide) ?_
                              refine TL.pure (PV.pickF rfl rfl) rfl (by decide) ?_
                              refine TL.pure (PV.assign rfl) rfl (by decide) ?_
                              refine TL.nil ?_
                              refine TQ.thenC ?_
                              refine TC.ret ?_
                              refine TQ.retE1 rfl rfl ?_
                              first | exact ⟨(), rfl, trivial, List.nil_sublist _⟩ | (exfalso; omega) | (exfalso; simp_all; done)
                          · skip
                            refine TL.skip rfl (fun k hk => by cases hk; decide) ?_
                            refine TL.skip rfl (fun k hk => by cases hk; decide) ?_
                            refine TL.pure (PV.pickF rfl rfl) rfl (by decide) ?_
                            refine TL.pure (PV.move rfl) rfl (by decide) ?_
                            refine TL.skip rfl (fun k hk => by cases hk; decide) ?_
                            refine TL.skip rfl (fun k hk => by cases hk; decide) ?_
                            refine TL.skip rfl (fun k hk => by cases hk; decide) ?_
                            refine TL.pure (PV.pickF rfl rfl) rfl (by decide) ?_
                            refine TL.pure (PV.move rfl) rfl (by decide) ?_
                            refine TL.skip rfl (fun k hk => by cases hk; decide) ?_
                            refine TL.pure (PV.pickF rfl rfl) rfl (by decide) ?_
                            refine TL.pure (PV.assign rfl) rfl (by decide) ?_
                            refine TL.nil ?_
                            refine TQ.thenC ?_
                            refine TC.ret ?_
                            refine TQ.retE1 rfl rfl ?_
                            first | exact ⟨(), rfl, trivial, List.nil_sublist _⟩ | (exfalso; omega) | (exfalso; simp_all; done)
                        · skip
                          refine TL.skip rfl (fun k hk => by cases hk; decide) ?_
                          refine TL.skip rfl (fun k hk => by cases hk; decide) ?_
                          refine TL.pure (PV.pickF rfl rfl) rfl (by decide) ?_
                          refine TL.pure (PV.move rfl) rfl (by decide) ?_
                          refine TL.skip rfl (fun k hk => by cases hk; decide) ?_
                          refine TL.skip rfl (fun k hk => by cases hk; decide) ?_
                          refine TL.pure (PV.pickF rfl rfl) rfl (by decide) ?_
                          refine TL.pure (PV.move rfl) rfl (by decide) ?_
                          refine TL.skip rfl (fun k hk => by cases hk; decide) ?_
                          refine TL.skip rfl (fun k hk => by cases hk; decide) ?_
                          refine TL.skip rfl (fun k hk => by cases hk; decide) ?_
                          refine TL.pure (PV.pickF rfl rfl) rfl (by decide) ?_
                          refine TL.pure (PV.move rfl) rfl (by decide) ?_
                          refine TL.skip rfl (fun k hk => by cases hk; decide) ?_
                          refine TL.pure (PV.pickF rfl rfl) rfl (by decide) ?_
                          refine TL.pure (PV.assign rfl) rfl (by decide) ?_
                          refine TL.nil ?_
                          refine TQ.thenC ?_
                          refine TC.ret ?_
                          refine TQ.retE1 rfl rfl ?_
                          first | exact ⟨(), rfl, trivial, List.nil_sublist _⟩ | (exfalso; omega) | (exfalso; simp_all; done)
              · skip
                refine TL.skip rfl (fun k hk => by cases hk; decide) ?_
                refine TL.skip rfl (fun k hk => by cases hk; decide) ?_
                refine TL.pure (PV.pickF rfl rfl) rfl (by decide) ?_
                refine TL.pure (PV.pickF rfl rfl) rfl (by decide) ?_
                refine TL.pure (PV.move rfl) rfl (by decide) ?_
                refine TL.pure (PV.move rfl) rfl (by decide) ?_
                refine TL.pure (PV.len rfl Tb.sl_25) rfl (by decide) ?_
                refine TL.pure (PV.move rfl) rfl (by decide) ?_
                refine TL.pure (PV.len rfl Tb.sl_25) rfl (by decide) ?_
                refine TL.pure (PV.neq rfl rfl) rfl (by decide) ?_
                refine TL.pure (PV.pickF rfl rfl) rfl (by decide) ?_
                refine TL.nil ?_
                refine TQ.thenC ?_
                first | refine TC.condD rfl (fun k4 => ?_) (fun k4 => ?_) | refine TC.cond rfl (fun k4 => ?_) (fun k4 => ?_)
                · skip
                  refine TC.seq ?_
                  refine TC.region ?_
                  refine TL.call rfl Tb.gofn_18 (fun a w hs => knownOk w) rfl (by decide) (fun _ _ => ?_)
                  refine TL.pure (PV.assign rfl) rfl (by decide) ?_
                  refine TL.nil ?_
                  refine TQ.thenC ?_
                  refine TC.ret ?_
                  refine TQ.thenR ?_
                  refine TQ.retE1 rfl rfl ?_
                  first | exact ⟨(), rfl, trivial, List.nil_sublist _⟩ | (exfalso; omega) | (exfalso; simp_all; done)
                · skip
                  refine TC.skip ?_
                  refine TQ.thenC ?_
                  refine TC.seq ?_
                  have hz : shI n rs bs = 0 := by omega
                  have hx7 : checkI n rs ds = 0 ∨ checkI n rs ds = 7 := by omega
                  have hll : bs.length = ds.length := by omega
                  have q1 : xa.1 = n := by rw [hxa.num, if_pos hz]
                  have q2 : xa.2.2 = rs.map (shB bs) := by rw [hxa.eq, if_pos hz]
                  obtain ⟨hvd, hv2⟩ := sh_is hz
                  obtain ⟨hvv, hdd⟩ := vdI_is hvd
                  have hdd2 := (vdI_is (check_vd hx7)).2
                  refine TC.region ?_
                  refine TL.pure (PV.assign rfl) rfl (by decide) ?_
                  refine TL.nil ?_
                  refine TQ.thenC ?_
                  refine TC.seq ?_
                  refine TC.seq ?_
                  refine TC.region ?_
                  refine TL.pure (PV.assign rfl) rfl (by decide) ?_
                  refine TL.nil ?_
                  refine TQ.thenC ?_
                  refine TC.block ?_
                  refine TC.loopK [1, 2, 3, 6, 7, 11] (X := Nat × HD × List Int) (fun v => NS ds bs v.1 v.2) (fun v => [(13, .int .i64 v.1), (12, gvI v.2)]) (fun v => gbI v.2 ++ ((b2, .cells #[.int .i64 ya.1, gval ya.2.1 ya.2.2.length] 24 (0, 0)) :: (gbB 42 ya.2.1 ya.2.2 ++ ((b1, .cells #[.int .i64 xa.1, gval xa.2.1 xa.2.2.length] 24 (0, 0)) :: (gbB 42 xa.2.1 xa.2.2 ++ [(b0, .cells #[.int .i64 n, .slice p rs.length cap] 24 (0, 0))]))))) (fun v => ds.length - v.1) (0, none, []) (NS.zero ds bs) (by repeat (first | exact True.intro | refine And.intro rfl ?_)) (by repeat (first | exact List.Sublist.slnil | exact List.nil_sublist _ | exact List.Sublist.refl _ | exact List.sublist_append_left _ _ | refine List.Sublist.cons_cons _ ?_ | refine (List.append_sublist_append_left _).2 ?_ | refine List.Sublist.cons _ ?_ | refine List.Sublist.trans ?_ (List.sublist_append_right _ _))) ?_
                  intro v hv
                  refine TC.seq ?_
                  refine TC.seq ?_
                  refine TC.region ?_
                  refine TL.pure (PV.move rfl) rfl (by decide) ?_
                  refine TL.pure (PV.move rfl) rfl (by decide) ?_
                  refine TL.pure (PV.len rfl Tb.sl_25) rfl (by decide) ?_
                  refine TL.pure (PV.lss rfl rfl) rfl (by decide) ?_
                  refine TL.nil ?_
                  refine TQ.thenC ?_
                  first | refine TC.condD rfl (fun hlt => ?_) (fun hlt => ?_) | refine TC.cond rfl (fun hlt => ?_) (fun hlt => ?_)
                  · skip
                    refine TC.skip ?_
                    refine TQ.thenC ?_
                    refine TC.seq ?_
                    refine TC.block ?_
                    obtain ⟨qd, hqdp, hqd⟩ := hx v.1 (by omega)
                    obtain ⟨qb, hqbp, hqb⟩ := hb v.1 (by omega)
                    have y1 := (datesOk_spec hdd).2 v.1
                    have y2 := (datesOk_spec hdd2).2 v.1
                    have hlen := hv.len
                    refine TC.mixE [false, true, true, true, true, true, true, true, true, true, false, false, false] [] 4 Tb.mixed rfl (by kernel_rfl) (by kernel_rfl) (by kernel_rfl) (by kernel_rfl) (by repeat (first | exact List.Sublist.slnil | exact List.nil_sublist _ | exact List.Sublist.refl _ | refine List.Sublist.cons_cons _ ?_ | refine List.Sublist.cons _ ?_ | refine List.Sublist.trans ?_ (List.sublist_append_right _ _))) ?_
                    refine TY.no ?_
                    refine TY.op (SOK.pure (PV.move rfl) rfl) (by decide) ?_
                    refine TY.op (SOK.pure (PV.move rfl) rfl) (by decide) ?_
                    refine TY.op (SOK.pure (PV.indexA rfl hqdp rfl Tb.elm_25 rfl (by omega)) rfl) (by decide) ?_
                    refine TY.op (SOK.pure (PV.loadOld rfl Tb.one_3 hqd) rfl) (by decide) ?_
                    refine TY.op (SOK.pure (PV.move rfl) rfl) (by decide) ?_
                    refine TY.op (SOK.pure (PV.move rfl) rfl) (by decide) ?_
                    refine TY.op (SOK.pure (PV.indexA rfl hqbp rfl Tb.elm_25 rfl (by omega)) rfl) (by decide) ?_
                    refine TY.op (SOK.pure (PV.loadOld rfl Tb.one_3 hqb) rfl) (by decide) ?_
                    refine TY.op (SOK.pure (PV.add rfl rfl (by omega)) rfl) (by decide) ?_
                    refine TY.no ?_
                    refine TY.no ?_
                    refine TY.no ?_
                    refine TY.fin ?_
                    refine TX.step [0, 10] (by kernel_rfl) (by decide) ⟨⟨_, rfl, ?_⟩, ⟨_, rfl, ?_⟩, trivial⟩
                    · skip
                      refine TL.pure (PV.move rfl) rfl (by decide) ?_
                      refine TL.nil ?_
                      refine TX.next (.inl (by repeat (first | exact List.Sublist.slnil | exact List.nil_sublist _ | exact List.Sublist.refl _ | refine List.Sublist.cons_cons _ ?_ | refine List.Sublist.cons _ ?_ | refine List.Sublist.trans ?_ (List.sublist_append_right _ _)))) ?_
                      refine TX.step [10] (by kernel_rfl) (by decide) ⟨⟨_, rfl, ?_⟩, trivial⟩
                      refine TL.buildSlice (cs := #[.int .i64 (ds.getD v.1 0 + bs.getD v.1 0)]) rfl Tb.sl_25 Tb.zi_3 (by decide) (fill_i _) (by decide) rfl (by decide) (fun bI hbI => ?_)
                      refine TL.nil ?_
                      refine TX.next (.inl (by repeat (first | exact List.Sublist.slnil | exact List.nil_sublist _ | exact List.Sublist.refl _ | refine List.Sublist.cons_cons _ ?_ | refine List.Sublist.cons _ ?_ | refine List.Sublist.trans ?_ (List.sublist_append_right _ _)))) ?_
                      refine TX.step [11] (by kernel_rfl) (by decide) ⟨⟨_, rfl, ?_⟩, trivial⟩
                      refine TL.appendI (x0 := v.2) (v := (ds.getD v.1 0 + bs.getD v.1 0)) rfl rfl (by repeat (first | exact List.Mem.head _ | refine List.Mem.tail _ ?_ | refine List.mem_append_right _ ?_)) hv.ok (by repeat (first | exact TakeH.here _ _ _ _ | apply TakeH.tail | apply TakeH.app)) (by omega) rfl (by decide) (fun h9 ho9 => ?_)
                      refine TL.nil ?_
                      refine TX.next (.inl (by repeat (first | exact List.Sublist.slnil | exact List.nil_sublist _ | exact List.Sublist.refl _ | refine List.Sublist.cons_cons _ ?_ | refine List.Sublist.cons _ ?_ | refine List.Sublist.trans ?_ (List.sublist_append_right _ _)))) ?_
                      refine TX.step [12] (by kernel_rfl) (by decide) ⟨⟨_, rfl, ?_⟩, trivial⟩
                      refine TL.pure (PV.assign rfl) rfl (by decide) ?_
                      refine TL.nil ?_
                      refine TX.next (.inr (by kernel_rfl)) ?_
                      refine TX.done (by kernel_rfl) ?_
                      refine TQ.blkN ?_
                      refine TQ.thenC ?_
                      refine TC.region ?_
                      refine TL.pure (PV.move rfl) rfl (by decide) ?_
                      refine TL.pure (PV.add rfl rfl (by omega)) rfl (by decide) ?_
                      refine TL.pure (PV.assign rfl) rfl (by decide) ?_
                      refine TL.nil ?_
                      refine TQ.thenN ?_
                      refine TQ.backK (v.1 + 1, h9, v.2.2 ++ [(ds.getD v.1 0 + bs.getD v.1 0)]) (by repeat (first | exact True.intro | refine And.intro rfl ?_)) (by repeat (first | exact True.intro | refine And.intro rfl ?_)) (by repeat (first | exact List.Sublist.slnil | exact List.nil_sublist _ | exact List.Sublist.refl _ | exact List.sublist_append_left _ _ | refine List.Sublist.cons_cons _ ?_ | refine (List.append_sublist_append_left _).2 ?_ | refine List.Sublist.cons _ ?_ | refine List.Sublist.trans ?_ (List.sublist_append_right _ _))) (hv.step (by omega) ho9) (by simp only; omega)
                    · skip
                      refine TL.buildSlice (cs := #[.int .i64 (ds.getD v.1 0 + bs.getD v.1 0)]) rfl Tb.sl_25 Tb.zi_3 (by decide) (fill_i _) (by decide) rfl (by decide) (fun bI hbI => ?_)
                      refine TL.nil ?_
                      refine TX.next (.inl (by repeat (first | exact List.Sublist.slnil | exact List.nil_sublist _ | exact List.Sublist.refl _ | refine List.Sublist.cons_cons _ ?_ | refine List.Sublist.cons _ ?_ | refine List.Sublist.trans ?_ (List.sublist_append_right _ _)))) ?_
                      refine TX.step [0] (by kernel_rfl) (by decide) ⟨⟨_, rfl, ?_⟩, trivial⟩
                      refine TL.pure (PV.move rfl) rfl (by decide) ?_
                      refine TL.nil ?_
                      refine TX.next (.inl (by repeat (first | exact List.Sublist.slnil | exact List.nil_sublist _ | exact List.Sublist.refl _ | refine List.Sublist.cons_cons _ ?_ | refine List.Sublist.cons _ ?_ | refine List.Sublist.trans ?_ (List.sublist_append_right _ _)))) ?_
                      refine TX.step [11] (by kernel_rfl) (by decide) ⟨⟨_, rfl, ?_⟩, trivial⟩
                      refine TL.appendI (x0 := v.2) (v := (ds.getD v.1 0 + bs.getD v.1 0)) rfl rfl (by repeat (first | exact List.Mem.head _ | refine List.Mem.tail _ ?_ | refine List.mem_append_right _ ?_)) hv.ok (by repeat (first | exact TakeH.here _ _ _ _ | apply TakeH.tail | apply TakeH.app)) (by omega) rfl (by decide) (fun h9 ho9 => ?_)
                      refine TL.nil ?_
                      refine TX.next (.inl (by repeat (first | exact List.Sublist.slnil | exact List.nil_sublist _ | exact List.Sublist.refl _ | refine List.Sublist.cons_cons _ ?_ | refine List.Sublist.cons _ ?_ | refine List.Sublist.trans ?_ (List.sublist_append_right _ _)))) ?_
                      refine TX.step [12] (by kernel_rfl) (by decide) ⟨⟨_, rfl, ?_⟩, trivial⟩
                      refine TL.pure (PV.assign rfl) rfl (by decide) ?_
                      refine TL.nil ?_
                      refine TX.next (.inr (by kernel_rfl)) ?_
                      refine TX.done (by kernel_rfl) ?_
                      refine TQ.blkN ?_
                      refine TQ.thenC ?_
                      refine TC.region ?_
                      refine TL.pure (PV.move rfl) rfl (by decide) ?_
                      refine TL.pure (PV.add rfl rfl (by omega)) rfl (by decide) ?_
                      refine TL.pure (PV.assign rfl) rfl (by decide) ?_
                      refine TL.nil ?_
                      refine TQ.thenN ?_
                      refine TQ.backK (v.1 + 1, h9, v.2.2 ++ [(ds.getD v.1 0 + bs.getD v.1 0)]) (by repeat (first | exact True.intro | refine And.intro rfl ?_)) (by repeat (first | exact True.intro | refine And.intro rfl ?_)) (by repeat (first | exact List.Sublist.slnil | exact List.nil_sublist _ | exact List.Sublist.refl _ | exact List.sublist_append_left _ _ | refine List.Sublist.cons_cons _ ?_ | refine (List.append_sublist_append_left _).2 ?_ | refine List.Sublist.cons _ ?_ | refine List.Sublist.trans ?_ (List.sublist_append_right _ _))) (hv.step (by omega) ho9) (by simp only; omega)
                  · skip
                    refine TC.exit ?_
                    refine TQ.thenE ?_
                    refine TQ.thenE ?_
                    refine TQ.blkS ?_
                    refine TQ.thenC ?_
                    refine TC.seq ?_
                    have hvl := hv.len
                    have hv9 : v.1 = ds.length := by have := hv.le; omega
                    refine TC.region ?_
                    refine TL.pure (PV.loadBox rfl Tb.agg_24 (by repeat (first | exact List.Mem.head _ | refine List.Mem.tail _ ?_ | refine List.mem_append_right _ ?_)) rfl) rfl (by decide) ?_
                    refine TL.pure (PV.move rfl) rfl (by decide) ?_
                    refine TL.call rfl Tb.gofn_23 (fun a w hs => callsIS w xa.1 xa.2.1 _ xa.2.2 rfl hxa.ok (BdsAt.s hs.new (fun yy hyy => by repeat (first | exact List.mem_append_left _ hyy | refine List.mem_append_right _ ?_ | refine List.Mem.tail _ ?_)) hxa.ok) v.2 _ rfl hv.ok (IntsAt.g hs.new (fun yy hyy => by repeat (first | exact List.mem_append_left _ hyy | refine List.mem_append_right _ ?_ | refine List.Mem.tail _ ?_)) hv.ok) (by omega)) rfl (by decide) (fun _ _ => ?_)
                    refine TL.pure (PV.assign rfl) rfl (by decide) ?_
                    refine TL.nil ?_
                    refine TQ.thenC ?_
                    refine TC.seq ?_
                    refine TC.region ?_
                    refine TL.pure (PV.loadBox rfl Tb.agg_24 (by repeat (first | exact List.Mem.head _ | refine List.Mem.tail _ ?_ | refine List.mem_append_right _ ?_)) rfl) rfl (by decide) ?_
                    refine TL.call rfl Tb.gofn_19 (fun a w hs => isPossible_ok w _ _ _ _ (hr.new hs.new)) rfl (by decide) (fun _ _ => ?_)
                    refine TL.pure (PV.move rfl) rfl (by decide) ?_
                    refine TL.pure (PV.extract rfl rfl) rfl (by decide) ?_
                    refine TL.pure (PV.extract rfl rfl) rfl (by decide) ?_
                    refine TL.pure (PV.assign rfl) rfl (by decide) ?_
                    refine TL.pure (PV.assign rfl) rfl (by decide) ?_
                    refine TL.nil ?_
                    refine TQ.thenC ?_
                    refine TC.seq ?_
                    refine TC.region ?_
                    refine TL.pure (PV.loadBox rfl Tb.agg_24 (by repeat (first | exact List.Mem.head _ | refine List.Mem.tail _ ?_ | refine List.mem_append_right _ ?_)) rfl) rfl (by decide) ?_
                    refine TL.call rfl Tb.gofn_19 (fun a w hs => possS w xa.1 xa.2.1 _ xa.2.2 rfl hxa.ok (BdsAt.s hs.new (fun yy hyy => by repeat (first | exact List.mem_append_left _ hyy | refine List.mem_append_right _ ?_ | refine List.Mem.tail _ ?_)) hxa.ok)) rfl (by decide) (fun _ _ => ?_)
                    refine TL.pure (PV.move rfl) rfl (by decide) ?_
                    refine TL.pure (PV.extract rfl rfl) rfl (by decide) ?_
                    refine TL.pure (PV.extract rfl rfl) rfl (by decide) ?_
                    refine TL.pure (PV.assign rfl) rfl (by decide) ?_
                    refine TL.pure (PV.assign rfl) rfl (by decide) ?_
                    refine TL.nil ?_
                    refine TQ.thenC ?_
                    refine TC.seq ?_
                    have e9 : v.2.2 = addK ds bs ds.length := hv9 ▸ hv.eq
                    have hyy : checkI xa.1 xa.2.2 v.2.2 = checkI n rs ds ∨ checkI xa.1 xa.2.2 v.2.2 = 1 := by rw [q1, q2, e9]; exact shift_check hz hx7
                    have hg1 : validateI n rs = 0 := hvv
                    have hg2 : validateI xa.1 xa.2.2 = 0 := by rw [q1, q2]; exact hv2
                    have hpq : dOk xa.1 xa.2.2 = dOk n rs := by rw [q1, q2]; exact dok_shift hvv hv2
                    refine TC.region ?_
                    refine TL.pure (PV.move rfl) rfl (by decide) ?_
                    refine TL.pure (PV.move rfl) rfl (by decide) ?_
                    refine TL.pure (PV.eql rfl rfl) rfl (by decide) ?_
                    refine TL.pure (PV.move rfl) rfl (by decide) ?_
                    first | refine TL.splitD 108 rfl (fun m1 => ?_) (fun m1 => ?_) | refine TL.split 108 rfl (fun m1 => ?_) (fun m1 => ?_)
                    · skip
                      refine TL.skip rfl (fun k hk => by cases hk; decide) ?_
                      refine TL.skip rfl (fun k hk => by cases hk; decide) ?_
                      refine TL.pure (PV.pickT rfl rfl) rfl (by decide) ?_
                      refine TL.pure (PV.move rfl) rfl (by decide) ?_
                      refine TL.pure (PV.move rfl) rfl (by decide) ?_
                      refine TL.pure (PV.eql rfl rfl) rfl (by decide) ?_
                      refine TL.pure (PV.pickT rfl rfl) rfl (by decide) ?_
                      refine TL.pure (PV.move rfl) rfl (by decide) ?_
                      first | refine TL.splitD 116 rfl (fun m3 => ?_) (fun m3 => ?_) | refine TL.split 116 rfl (fun m3 => ?_) (fun m3 => ?_)
                      · skip
                        refine TL.pure (PV.move rfl) rfl (by decide) ?_
                        refine TL.pure (PV.eql rfl rfl) rfl (by decide) ?_
                        refine TL.pure (PV.pickT rfl rfl) rfl (by decide) ?_
                        refine TL.pure (PV.move rfl) rfl (by decide) ?_
                        first | refine TL.splitD 120 rfl (fun m4 => ?_) (fun m4 => ?_) | refine TL.split 120 rfl (fun m4 => ?_) (fun m4 => ?_)
                        · skip
                          refine TL.pure (PV.move rfl) rfl (by decide) ?_
                          refine TL.pure (PV.move rfl) rfl (by decide) ?_
                          refine TL.pure (PV.eqlB rfl rfl Tb.bool_4) rfl (by decide) ?_
                          refine TL.pure (PV.pickT rfl rfl) rfl (by decide) ?_
                          refine TL.pure (PV.move rfl) rfl (by decide) ?_
                          first | refine TL.splitD 125 rfl (fun m5 => ?_) (fun m5 => ?_) | refine TL.split 125 rfl (fun m5 => ?_) (fun m5 => ?_)
                          · skip
                            refine TL.call rfl Tb.gofn_18 (fun a w hs => knownOk w) rfl (by decide) (fun _ _ => ?_)
                            refine TL.pure (PV.pickT rfl rfl) rfl (by decide) ?_
                            refine TL.pure (PV.assign rfl) rfl (by decide) ?_
                            refine TL.nil ?_
                            refine TQ.thenC ?_
                            refine TC.ret ?_
                            refine TQ.retE1 rfl rfl ?_
                            first | exact ⟨(), rfl, trivial, List.nil_sublist _⟩ | (exfalso; omega) | (exfalso; simp_all; done)
                          · skip
                            refine TL.skip rfl (fun k hk => by cases hk; decide) ?_
                            refine TL.pure (PV.pickF rfl rfl) rfl (by decide) ?_
                            refine TL.pure (PV.assign rfl) rfl (by decide) ?_
                            refine TL.nil ?_
                            refine TQ.thenC ?_
                            refine TC.ret ?_
                            refine TQ.retE1 rfl rfl ?_
                            first | exact ⟨(), rfl, trivial, List.nil_sublist _⟩ | (exfalso; omega) | (exfalso; simp_all; done)
                        · skip
                          refine TL.skip rfl (fun k hk => by cases hk; decide) ?_
                          refine TL.skip rfl (fun k hk => by cases hk; decide) ?_
                          refine TL.skip rfl (fun k hk => by cases hk; decide) ?_
                          refine TL.pure (PV.pickF rfl rfl) rfl (by decide) ?_
                          refine TL.pure (PV.move rfl) rfl (by decide) ?_
                          refine TL.skip rfl (fun k hk => by cases hk; decide) ?_
                          refine TL.pure (PV.pickF rfl rfl) rfl (by decide) ?_
                          refine TL.pure (PV.assign rfl) rfl (by decide) ?_
                          refine TL.nil ?_
                          refine TQ.thenC ?_
                          refine TC.ret ?_
                          refine TQ.retE1 rfl rfl ?_
                          first | exact ⟨(), rfl, trivial, List.nil_sublist _⟩ | (exfalso; omega) | (exfalso; simp_all; done)
                      · skip
                        refine TL.skip rfl (fun k hk => by cases hk; decide) ?_
                        refine TL.skip rfl (fun k hk => by cases hk; decide) ?_
                        refine TL.pure (PV.pickF rfl rfl) rfl (by decide) ?_
                        refine TL.pure (PV.move rfl) rfl (by decide) ?_
                        refine TL.skip rfl (fun k hk => by cases hk; decide) ?_
                        refine TL.skip rfl (fun k hk => by cases hk; decide) ?_
                        refine TL.skip rfl (fun k hk => by cases hk; decide) ?_
                        refine TL.pure (PV.pickF rfl rfl) rfl (by decide) ?_
                        refine TL.pure (PV.move rfl) rfl (by decide) ?_
                        refine TL.skip rfl (fun k hk => by cases hk; decide) ?_
                        refine TL.pure (PV.pickF rfl rfl) rfl (by decide) ?_
                        refine TL.pure (PV.assign rfl) rfl (by decide) ?_
                        refine TL.nil ?_
                        refine TQ.thenC ?_
                        refine TC.ret ?_
                        refine TQ.retE1 rfl rfl ?_
                        first | exact ⟨(), rfl, trivial, List.nil_sublist _⟩ | (exfalso; omega) | (exfalso; simp_all; done)
                    · skip
                      refine TL.pure (PV.move rfl) rfl (by decide) ?_
                      refine TL.pure (PV.eql rfl rfl) rfl (by decide) ?_
                      refine TL.pure (PV.pickF rfl rfl) rfl (by decide) ?_
                      refine TL.pure (PV.move rfl) rfl (by decide) ?_
                      first | refine TL.splitD 112 rfl (fun m2 => ?_) (fun m2 => ?_) | refine TL.split 112 rfl (fun m2 => ?_) (fun m2 => ?_)
                      · skip
                        refine TL.pure (PV.move rfl) rfl (by decide) ?_
                        refine TL.pure (PV.eql rfl rfl) rfl (by decide) ?_
                        refine TL.pure (PV.pickT rfl rfl) rfl (by decide) ?_
                        refine TL.pure (PV.move rfl) rfl (by decide) ?_
                        first | refine TL.splitD 116 rfl (fun m3 => ?_) (fun m3 => ?_) | refine TL.split 116 rfl (fun m3 => ?_) (fun m3 => ?_)
                        · skip
                          refine TL.pure (PV.move rfl) rfl (by decide) ?_
                          refine TL.pure (PV.eql rfl rfl) rfl (by decide) ?_
                          refine TL.pure (PV.pickT rfl rfl) rfl (by decide) ?_
                          refine TL.pure (PV.move rfl) rfl (by decide) ?_
                          first | refine TL.splitD 120 rfl (fun m4 => ?_) (fun m4 => ?_) | refine TL.split 120 rfl (fun m4 => ?_) (fun m4 => ?_)
                          · skip
                            refine TL.pure (PV.move rfl) rfl (by decide) ?_
                            refine TL.pure (PV.move rfl) rfl (by decide) ?_
                            refine TL.pure (PV.eqlB rfl rfl Tb.bool_4) rfl (by decide) ?_
                            refine TL.pure (PV.pickT rfl rfl) rfl (by decide) ?_
                            refine TL.pure (PV.move rfl) rfl (by decide) ?_
                            first | refine TL.splitD 125 rfl (fun m5 => ?_) (fun m5 => ?_) | refine TL.split 125 rfl (fun m5 => ?_) (fun m5 => ?_)
                            · skip
                              refine TL.call rfl Tb.gofn_18 (fun a w hs => knownOk w) rfl (by decide) (fun _ _ => ?_)
                              refine TL.pure (PV.pickT rfl rfl) rfl (by decide) ?_
                              refine TL.pure (PV.assign rfl) rfl (by decide) ?_
                              refine TL.nil ?_
                              refine TQ.thenC ?_
                              refine TC.ret ?_
                              refine TQ.retE1 rfl rfl ?_
                              first | exact ⟨(), rfl, trivial, List.nil_sublist _⟩ | (exfalso; omega) | (exfalso; simp_all; done)
                            · skip
                              refine TL.skip rfl (fun k hk => by cases hk; decide) ?_
                              refine TL.pure (PV.pickF rfl rfl) rfl (by decide) ?_
                              refine TL.pure (PV.assign rfl) rfl (by decide) ?_
                              refine TL.nil ?_
                              refine TQ.thenC ?_
                              refine TC.ret ?_
                              refine TQ.retE1 rfl rfl ?_
                              first | exact ⟨(), rfl, trivial, List.nil_sublist _⟩ | (exfalso; omega) | (exfalso; simp_all; done)
                          · skip
                            refine TL.skip rfl (fun k hk => by cases hk; decide) ?_
                            refine TL.skip rfl (fun k hk => by cases hk; decide) ?_
                            refine TL.skip rfl (fun k hk => by cases hk; decide) ?_
                            refine TL.pure (PV.pickF rfl rfl) rfl (by decide) ?_
                            refine TL.pure (PV.move rfl) rfl (by decide) ?_
                            refine TL.skip rfl (fun k hk => by cases hk; decide) ?_
                            refine TL.pure (PV.pickF rfl rfl) rfl (by decide) ?_
                            refine TL.pure (PV.assign rfl) rfl (by decide) ?_
                            refine TL.nil ?_
                            refine TQ.thenC ?_
                            refine TC.ret ?_
                            refine TQ.retE1 rfl rfl ?_
                            first | exact ⟨(), rfl, trivial, List.nil_sublist _⟩ | (exfalso; omega) | (exfalso; simp_all; done)
                        · skip
                          refine TL.skip rfl (fun k hk => by cases hk; decide) ?_
                          refine TL.skip rfl (fun k hk => by cases hk; decide) ?_
                          refine TL.pure (PV.pickF rfl rfl) rfl (by decide) ?_
                          refine TL.pure (PV.move rfl) rfl (by decide) ?_
                          refine TL.skip rfl (fun k hk => by cases hk; decide) ?_
                          refine TL.skip rfl (fun k hk => by cases hk; decide) ?_
                          refine TL.skip rfl (fun k hk => by cases hk; decide) ?_
                          refine TL.pure (PV.pickF rfl rfl) rfl (by decide) ?_
                          refine TL.pure (PV.move rfl) rfl (by decide) ?_
                          refine TL.skip rfl (fun k hk => by cases hk; decide) ?_
                          refine TL.pure (PV.pickF rfl rfl) rfl (by decide) ?_
                          refine TL.pure (PV.assign rfl) rfl (by decide) ?_
                          refine TL.nil ?_
                          refine TQ.thenC ?_
                          refine TC.ret ?_
                          refine TQ.retE1 rfl rfl ?_
                          first | exact ⟨(), rfl, trivial, List.nil_sublist _⟩ | (exfalso; omega) | (exfalso; simp_all; done)
                      · skip
                        refine TL.skip rfl (fun k hk => by cases hk; decide) ?_
                        refine TL.skip rfl (fun k hk => by cases hk; decide) ?_
                        refine TL.pure (PV.pickF rfl rfl) rfl (by decide) ?_
                        refine TL.pure (PV.move rfl) rfl (by decide) ?_
                        refine TL.skip rfl (fun k hk => by cases hk; decide) ?_
                        refine TL.skip rfl (fun k hk => by cases hk; decide) ?_
                        refine TL.pure (PV.pickF rfl rfl) rfl (by decide) ?_
                        refine TL.pure (PV.move rfl) rfl (by decide) ?_
                        refine TL.skip rfl (fun k hk => by cases hk; decide) ?_
                        refine TL.skip rfl (fun k hk => by cases hk; decide) ?_
                        refine TL.skip rfl (fun k hk => by cases hk; decide) ?_
                        refine TL.pure (PV.pickF rfl rfl) rfl (by decide) ?_
                        refine TL.pure (PV.move rfl) rfl (by decide) ?_
                        refine TL.skip rfl (fun k hk => by cases hk; decide) ?_
                        refine TL.pure (PV.pickF rfl rfl) rfl (by decide) ?_
                        refine TL.pure (PV.assign rfl) rfl (by decide) ?_
                        refine TL.nil ?_
                        refine TQ.thenC ?_
                        refine TC.ret ?_
                        refine TQ.retE1 rfl rfl ?_
                        first | exact ⟨(), rfl, trivial, List.nil_sublist _⟩ | (exfalso; omega) | (exfalso; simp_all; done)

theorem coreShifts_all (W : World) (n : Int) (p : Option Addr) (cap : Nat) (rs : List Bd) (hr : BdsAt W p rs) (_ : rs.length ≤ cap) (_ : I64 n) (pb : Option Addr) (cb : Nat) (bs : List Int) (hb : IntsAt W pb bs) (_ : ∀ x ∈ bs, I64 x) (pd : Option Addr) (cd : Nat) (ds : List Int) (hx : IntsAt W pd ds) (_ : ∀ x ∈ ds, I64 x) :
    Calls Try.prog 15 #[cv n p rs.length cap, .slice pb bs.length cb, .slice pd ds.length cd] W (Post (X := Unit) (fun _ => .bool true) (fun _ => True) (fun _ => []) W) := coreShifts_ok W n p cap rs hr pb cb bs hb pd cd ds hx

end Go.Proofs.Ytenalmddoljhoaa

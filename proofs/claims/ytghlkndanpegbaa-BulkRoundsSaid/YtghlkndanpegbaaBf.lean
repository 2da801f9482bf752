/- Labels lowered once: contracts. -/
import Derived.Test.YtghlkndanpegbaaBe
set_option linter.unusedVariables false
set_option linter.unusedSimpArgs false
namespace Go.Proofs.Ytghlkndanpegbaa
open Go.Sx Go.RowKit Go.Sand Go.Tp

theorem LD_eq (S B : Nat) (hs hb : HD) (s : LS) (R : Heap) : LD S B hs hb s R = gbR labR 110 hs (sL S s) ++ (gbR labR 110 hb (bL B s) ++ R) := rfl


set_option maxRecDepth 100000 in
set_option maxHeartbeats 4000000 in
theorem lowerBuyers_ok {w0 w : World} {R9 : Heap} (hs hb : HD) (vt : Value) (t : Td) (ht : IsT w0 vt t) (hV : VT t) (s : LS) (xx : Mat) (k : Nat) (hk4 : k ≤ 4) (khs : Hk labR hs t.s.length) (khb : Hk labR hb t.d.length) (hn : New w0 w (LD t.s.length t.d.length hs hb s R9)) (h0 : PhB t.s.length t.d.length (getM t.c) xx k (lex 0 0) s) :
    Calls Try.prog 91 #[.agg #[gval hs t.s.length, gval hb t.d.length], vt] w (Post (X := LS) (fun _ => .tuple #[]) (fun s => PhS t.s.length t.d.length (getM t.c) xx k (lex 0 0) (-1) s) (fun s => LD t.s.length t.d.length hs hb s R9) w0) := by
  obtain ⟨p1, c1, p2, c2, p3, c3, rfl, t1, t2, t3⟩ := ht
  have hns := hV.ns
  have hnd := hV.nd
  have hcl := hV.c.len
  refine callsM hn Try.func91 rfl (n := 49) rfl (by simp) ?_
  refine TC.seq ?_
  refine TC.region ?_
  refine TL.box rfl rfl (by decide) (fun b0 hb0 => ?_)
  refine TL.box rfl rfl (by decide) (fun b1 hb1 => ?_)
  refine TL.nil ?_
  refine TQ.thenC ?_
  refine TC.seq ?_
  refine TC.region ?_
  refine TL.pure (PV.fieldAddr rfl Tb.fo_25_2) rfl (by decide) ?_
  refine TL.pure (PV.load rfl Tb.one_23 (by repeat (first | exact List.Mem.head _ | refine List.Mem.tail _ ?_ | refine List.mem_append_right _ ?_)) rfl) rfl (by decide) ?_
  refine TL.pure (PV.len rfl Tb.sl_23) rfl (by decide) ?_
  refine TL.pure (PV.move rfl) rfl (by decide) ?_
  refine TL.nil ?_
  refine TQ.thenC ?_
  refine TC.block ?_
  refine TC.lit [(2, _), (10, _), (11, _), (12, _)] (by repeat (first | exact True.intro | refine And.intro rfl ?_)) ?_
  refine TC.loopK [2, 10, 11] (X := Nat × LS) (fun x => x.1 ≤ t.s.length ∧ PhB t.s.length t.d.length (getM t.c) xx k (lex x.1 0) x.2) (fun x => [(12, .int .i64 x.1)]) (fun x => (b1, Obj.cells #[.slice p1 t.s.length c1, .slice p2 t.d.length c2, .slice p3 t.c.length c3] 25 (0, 0)) :: (b0, Obj.cells #[gval hs t.s.length, gval hb t.d.length] 99 (0, 0)) :: LD t.s.length t.d.length hs hb x.2 R9) (fun x => t.s.length - x.1) (0, s) ⟨Nat.zero_le _, h0⟩ (by repeat (first | exact True.intro | refine And.intro rfl ?_)) (List.Sublist.refl _) ?_
  intro x hx9
  refine TC.lit [(2, _), (10, _), (11, _), (12, _)] (by repeat (first | exact True.intro | refine And.intro rfl ?_)) ?_
  refine TC.seq ?_
  refine TC.region ?_
  refine TL.pure (PV.lss rfl rfl) rfl (by decide) ?_
  refine TL.nil ?_
  refine TQ.thenC ?_
  refine TC.seq ?_
  first | refine TC.condD rfl (fun hlt => ?_) (fun hlt => ?_) | refine TC.cond rfl (fun hlt => ?_) (fun hlt => ?_)
  · skip
    refine TC.skip ?_
    refine TQ.thenC ?_
    refine TC.seq ?_
    refine TC.block ?_
    refine TC.seq ?_
    obtain ⟨q1, hq1p, q1p, q1c, hq1, hq1r⟩ := t3 x.1 (by omega)
    have hr1 := hV.c.row x.1 (by omega)
    refine TC.region ?_
    refine TL.pure (PV.move rfl) rfl (by decide) ?_
    refine TL.pure (PV.indexA (j := x.1) rfl hq1p rfl Tb.elm_23 rfl (by omega)) rfl (by decide) ?_
    refine TL.pure (PV.loadOld rfl Tb.one_22 hq1) rfl (by decide) ?_
    refine TL.pure (PV.assign rfl) rfl (by decide) ?_
    refine TL.pure (PV.assign rfl) rfl (by decide) ?_
    refine TL.nil ?_
    refine TQ.thenC ?_
    refine TC.seq ?_
    refine TC.region ?_
    refine TL.pure (PV.move rfl) rfl (by decide) ?_
    refine TL.pure (PV.len rfl Tb.sl_22) rfl (by decide) ?_
    refine TL.pure (PV.move rfl) rfl (by decide) ?_
    refine TL.nil ?_
    refine TQ.thenC ?_
    refine TC.block ?_
    refine TC.lit [(2, _), (4, _), (10, _), (11, _), (12, _), (17, _), (18, _), (19, _)] (by repeat (first | exact True.intro | refine And.intro rfl ?_)) ?_
    refine TC.loopK [2, 4, 10, 11, 12, 17, 18] (X := Nat × LS) (fun y => y.1 ≤ t.d.length ∧ PhB t.s.length t.d.length (getM t.c) xx k (lex x.1 y.1) y.2) (fun y => [(19, .int .i64 y.1)]) (fun y => (b1, Obj.cells #[.slice p1 t.s.length c1, .slice p2 t.d.length c2, .slice p3 t.c.length c3] 25 (0, 0)) :: (b0, Obj.cells #[gval hs t.s.length, gval hb t.d.length] 99 (0, 0)) :: LD t.s.length t.d.length hs hb y.2 R9) (fun y => t.d.length - y.1) (0, x.2) ⟨Nat.zero_le _, hx9.2⟩ (by repeat (first | exact True.intro | refine And.intro rfl ?_)) (List.Sublist.refl _) ?_
    intro y hy9
    refine TC.lit [(2, _), (4, _), (10, _), (11, _), (12, _), (17, _), (18, _), (19, _)] (by repeat (first | exact True.intro | refine And.intro rfl ?_)) ?_
    refine TC.seq ?_
    refine TC.region ?_
    refine TL.pure (PV.lss rfl rfl) rfl (by decide) ?_
    refine TL.nil ?_
    refine TQ.thenC ?_
    refine TC.seq ?_
    first | refine TC.condD rfl (fun hlt2 => ?_) (fun hlt2 => ?_) | refine TC.cond rfl (fun hlt2 => ?_) (fun hlt2 => ?_)
    · skip
      refine TC.skip ?_
      refine TQ.thenC ?_
      refine TC.seq ?_
      refine TC.block ?_
      refine TC.seq ?_
      obtain ⟨q2, hq2p, hq2⟩ := hq1r y.1 (by omega)
      have haB := hy9.2.aB x.1 (by omega)
      have hbB := hy9.2.bB y.1 (by omega)
      have hcB := hV.cb x.1 y.1 (by omega) (by omega)
      have ev : (t.c.getD x.1 []).getD y.1 0 = getM t.c x.1 y.1 := rfl
      rw [ev] at hq2
      refine TC.region ?_
      refine TL.pure (PV.move rfl) rfl (by decide) ?_
      refine TL.pure (PV.indexA (j := y.1) rfl hq2p rfl Tb.elm_22 rfl (by omega)) rfl (by decide) ?_
      refine TL.pure (PV.loadOld rfl Tb.one_3 hq2) rfl (by decide) ?_
      refine TL.pure (PV.assign rfl) rfl (by decide) ?_
      refine TL.pure (PV.assign rfl) rfl (by decide) ?_
      refine TL.nil ?_
      refine TQ.thenC ?_
      refine TC.seq ?_
      refine TC.region ?_
      refine TL.pure (PV.fieldAddr rfl Tb.fo_99_0) rfl (by decide) ?_
      refine TL.pure (PV.load rfl Tb.one_97 (by repeat (first | exact List.Mem.head _ | refine List.Mem.tail _ ?_ | refine List.mem_append_right _ ?_)) rfl) rfl (by decide) ?_
      refine TL.pure (PV.move rfl) rfl (by decide) ?_
      refine TL.pure (PV.indexG (h := hs) (len := t.s.length) (ys := rcs labR (sL t.s.length y.2)) (j := x.1) rfl rfl (khs.g (mkL_len _ _)) Tb.elm_97 rfl (by omega)) rfl (by decide) ?_
      refine TL.pure (PV.fieldAddr rfl Tb.fo_110_0) rfl (by decide) ?_
      refine TL.pure (PV.loadRecF (R := labR) (h := hs) (l := sL t.s.length y.2) (j := x.1) (f := 0) (v := .int .i64 (y.2.a x.1)) (e := 110) rfl Tb.one_3 (fun yy hyy => by repeat (first | exact List.mem_append_left _ hyy | exact List.mem_append_left _ (List.mem_append_right _ hyy) | exact List.mem_append_left _ (List.mem_append_left _ hyy) | refine List.mem_append_right _ ?_ | refine List.Mem.tail _ ?_)) (khs _ (mkL_len _ _)) (by rw [mkL_len]; omega) (by decide) (lab_c (by omega))) rfl (by decide) ?_
      refine TL.pure (PV.move rfl) rfl (by decide) ?_
      refine TL.pure (PV.add rfl rfl (by omega)) rfl (by decide) ?_
      refine TL.pure (PV.assign rfl) rfl (by decide) ?_
      refine TL.nil ?_
      refine TQ.thenC ?_
      refine TC.seq ?_
      refine TC.region ?_
      refine TL.pure (PV.move rfl) rfl (by decide) ?_
      refine TL.pure (PV.fieldAddr rfl Tb.fo_99_1) rfl (by decide) ?_
      refine TL.pure (PV.load rfl Tb.one_97 (by repeat (first | exact List.Mem.head _ | refine List.Mem.tail _ ?_ | refine List.mem_append_right _ ?_)) rfl) rfl (by decide) ?_
      refine TL.pure (PV.move rfl) rfl (by decide) ?_
      refine TL.pure (PV.indexG (h := hb) (len := t.d.length) (ys := rcs labR (bL t.d.length y.2)) (j := y.1) rfl rfl (khb.g (mkL_len _ _)) Tb.elm_97 rfl (by omega)) rfl (by decide) ?_
      refine TL.pure (PV.fieldAddr rfl Tb.fo_110_0) rfl (by decide) ?_
      refine TL.pure (PV.loadRecF (R := labR) (h := hb) (l := bL t.d.length y.2) (j := y.1) (f := 0) (v := .int .i64 (y.2.b y.1)) (e := 110) rfl Tb.one_3 (fun yy hyy => by repeat (first | exact List.mem_append_left _ hyy | exact List.mem_append_left _ (List.mem_append_right _ hyy) | exact List.mem_append_left _ (List.mem_append_left _ hyy) | refine List.mem_append_right _ ?_ | refine List.Mem.tail _ ?_)) (khb _ (mkL_len _ _)) (by rw [mkL_len]; omega) (by decide) (lab_c (by omega))) rfl (by decide) ?_
      refine TL.pure (PV.lss rfl rfl) rfl (by decide) ?_
      refine TL.nil ?_
      refine TQ.thenC ?_
      first | refine TC.condD rfl (fun hlow => ?_) (fun hlow => ?_) | refine TC.cond rfl (fun hlow => ?_) (fun hlow => ?_)
      · skip
        obtain ⟨s', hs'⟩ : ∃ s', s' = (lowB y.2 k x.1 y.1 (y.2.a x.1 + getM t.c x.1 y.1)) := ⟨_, rfl⟩
        have hst : PhB t.s.length t.d.length (getM t.c) xx k (lex x.1 (y.1 + 1)) s' := by rw [hs']; exact hy9.2.step hV.cb (by omega) (by omega) hlow
        have hSe : sL t.s.length y.2 = sL t.s.length s' := by rw [hs']; rfl
        have hBe : (bL t.d.length y.2).set y.1 ⟨y.2.a x.1 + getM t.c x.1 y.1, x.1⟩ = bL t.d.length s' := by rw [hs']; exact bL_low (S := 0) (by omega)
        refine TC.region ?_
        refine TL.pure (PV.fieldAddr rfl Tb.fo_99_1) rfl (by decide) ?_
        refine TL.pure (PV.load rfl Tb.one_97 (by repeat (first | exact List.Mem.head _ | refine List.Mem.tail _ ?_ | refine List.mem_append_right _ ?_)) rfl) rfl (by decide) ?_
        refine TL.pure (PV.move rfl) rfl (by decide) ?_
        refine TL.pure (PV.move rfl) rfl (by decide) ?_
        refine TL.pure (PV.move rfl) rfl (by decide) ?_
        refine TL.pure (PV.build rfl Tb.zero_110 Tb.pl_110 rfl) rfl (by decide) ?_
        refine TL.pure (PV.indexG (h := hb) (len := t.d.length) (ys := rcs labR (bL t.d.length y.2)) (j := y.1) rfl rfl (khb.g (mkL_len _ _)) Tb.elm_97 rfl (by omega)) rfl (by decide) ?_
        refine TL.putRec (R := labR) (h := hb) (l0 := bL t.d.length y.2) (j := y.1) (e := 110) (r := ⟨y.2.a x.1 + getM t.c x.1 y.1, x.1⟩) rfl rfl Tb.cells_110 (khb _ (mkL_len _ _)) (by repeat (first | exact PutH.here _ _ _ _ | apply PutH.tail | apply PutH.app)) (by rw [mkL_len]; omega) rfl rfl ?_
        rw [hBe, hSe]
        refine TL.nil ?_
        refine TQ.blkN ?_
        refine TQ.thenC ?_
        refine TC.region ?_
        refine TL.pure (PV.add rfl rfl (by omega)) rfl (by decide) ?_
        refine TL.pure (PV.move rfl) rfl (by decide) ?_
        refine TL.nil ?_
        refine TQ.thenN ?_
        refine TQ.backK (by first | exact (y.1 + 1, s') | exact (y.1 + 1, y.2)) (by repeat (first | exact True.intro | refine And.intro rfl ?_)) (by repeat (first | exact True.intro | refine And.intro rfl ?_)) (List.Sublist.refl _) (by first | exact ⟨by simp only; omega, hst⟩ | exact ⟨by simp only; omega, hy9.2.skip hlow⟩) (by simp only; omega)
      · skip
        refine TC.skip ?_
        refine TQ.blkN ?_
        refine TQ.thenC ?_
        refine TC.region ?_
        refine TL.pure (PV.add rfl rfl (by omega)) rfl (by decide) ?_
        refine TL.pure (PV.move rfl) rfl (by decide) ?_
        refine TL.nil ?_
        refine TQ.thenN ?_
        refine TQ.backK (by first | exact (y.1 + 1, s') | exact (y.1 + 1, y.2)) (by repeat (first | exact True.intro | refine And.intro rfl ?_)) (by repeat (first | exact True.intro | refine And.intro rfl ?_)) (List.Sublist.refl _) (by first | exact ⟨by simp only; omega, hst⟩ | exact ⟨by simp only; omega, hy9.2.skip hlow⟩) (by simp only; omega)
    · skip
      refine TC.exit ?_
      refine TQ.thenE ?_
      refine TQ.thenE ?_
      refine TQ.blkS ?_
      refine TQ.blkN ?_
      refine TQ.thenC ?_
      refine TC.region ?_
      refine TL.pure (PV.add rfl rfl (by omega)) rfl (by decide) ?_
      refine TL.pure (PV.move rfl) rfl (by decide) ?_
      refine TL.nil ?_
      refine TQ.thenN ?_
      refine TQ.backK (x.1 + 1, y.2) (by repeat (first | exact True.intro | refine And.intro rfl ?_)) (by repeat (first | exact True.intro | refine And.intro rfl ?_)) (List.Sublist.refl _) ⟨by simp only; omega, hy9.2.next (by omega)⟩ (by simp only; omega)
  · skip
    refine TC.exit ?_
    refine TQ.thenE ?_
    refine TQ.thenE ?_
    refine TQ.blkS ?_
    refine TQ.retN rfl (Res.nil) ?_
    exact ⟨x.2, rfl, hx9.2.fin (by omega), List.Sublist.cons _ (List.Sublist.cons _ (List.Sublist.refl _))⟩

set_option maxRecDepth 100000 in
set_option maxHeartbeats 4000000 in
theorem lowerStores_ok {w0 w : World} {R9 : Heap} (hs hb : HD) (vt : Value) (t : Td) (ht : IsT w0 vt t) (hV : VT t) (vg : Value) (m : List (List Int)) (hg : IsG w0 vg m) (hm : Gr t.s.length t.d.length 120 m) (s : LS) (k : Nat) (hk4 : k ≤ 4) (khs : Hk labR hs t.s.length) (khb : Hk labR hb t.d.length) (hn : New w0 w (LD t.s.length t.d.length hs hb s R9)) (h0 : PhS t.s.length t.d.length (getM t.c) (getM m) k (lex 0 0) (-1) s) :
    Calls Try.prog 92 #[.agg #[gval hs t.s.length, gval hb t.d.length], vt, vg] w (Post (X := Int × LS) (fun y => .int .i64 y.1) (fun y => PhS t.s.length t.d.length (getM t.c) (getM m) k (lex t.s.length 0) y.1 y.2) (fun y => LD t.s.length t.d.length hs hb y.2 R9) w0) := by
  obtain ⟨p1, c1, p2, c2, p3, c3, rfl, t1, t2, t3⟩ := ht
  obtain ⟨pg, cg, rfl, g1⟩ := hg
  have hns := hV.ns
  have hnd := hV.nd
  have hcl := hV.c.len
  have hml := hm.len
  refine callsM hn Try.func92 rfl (n := 65) rfl (by simp) ?_
  refine TC.seq ?_
  refine TC.region ?_
  refine TL.box rfl rfl (by decide) (fun b0 hb0 => ?_)
  refine TL.box rfl rfl (by decide) (fun b1 hb1 => ?_)
  refine TL.pure (PV.assign rfl) rfl (by decide) ?_
  refine TL.nil ?_
  refine TQ.thenC ?_
  refine TC.seq ?_
  refine TC.region ?_
  refine TL.pure (PV.assign rfl) rfl (by decide) ?_
  refine TL.nil ?_
  refine TQ.thenC ?_
  refine TC.seq ?_
  refine TC.seq ?_
  refine TC.region ?_
  refine TL.pure (PV.move rfl) rfl (by decide) ?_
  refine TL.pure (PV.len rfl Tb.sl_23) rfl (by decide) ?_
  refine TL.pure (PV.move rfl) rfl (by decide) ?_
  refine TL.nil ?_
  refine TQ.thenC ?_
  refine TC.block ?_
  refine TC.lit [(3, _), (4, _), (6, _), (7, _), (13, _), (14, _), (15, _)] (by repeat (first | exact True.intro | refine And.intro rfl ?_)) ?_
  refine TC.loopK [3, 4, 6, 13, 14] (X := Nat × Int × LS) (fun x => x.1 ≤ t.s.length ∧ PhS t.s.length t.d.length (getM t.c) (getM m) k (lex x.1 0) x.2.1 x.2.2) (fun x => [(15, .int .i64 x.1), (7, .int .i64 x.2.1)]) (fun x => (b1, Obj.cells #[.slice p1 t.s.length c1, .slice p2 t.d.length c2, .slice p3 t.c.length c3] 25 (0, 0)) :: (b0, Obj.cells #[gval hs t.s.length, gval hb t.d.length] 99 (0, 0)) :: LD t.s.length t.d.length hs hb x.2.2 R9) (fun x => t.s.length - x.1) (0, -1, s) ⟨Nat.zero_le _, h0⟩ (by repeat (first | exact True.intro | refine And.intro rfl ?_)) (List.Sublist.refl _) ?_
  intro x hx9
  refine TC.lit [(3, _), (4, _), (6, _), (7, _), (13, _), (14, _), (15, _)] (by repeat (first | exact True.intro | refine And.intro rfl ?_)) ?_
  refine TC.seq ?_
  refine TC.region ?_
  refine TL.pure (PV.lss rfl rfl) rfl (by decide) ?_
  refine TL.nil ?_
  refine TQ.thenC ?_
  refine TC.seq ?_
  first | refine TC.condD rfl (fun hlt => ?_) (fun hlt => ?_) | refine TC.cond rfl (fun hlt => ?_) (fun hlt => ?_)
  · skip
    refine TC.skip ?_
    refine TQ.thenC ?_
    refine TC.seq ?_
    refine TC.block ?_
    refine TC.seq ?_
    obtain ⟨q1, hq1p, q1p, q1c, hq1, hq1r⟩ := g1 x.1 (by omega)
    obtain ⟨q3, hq3p, q3p, q3c, hq3, hq3r⟩ := t3 x.1 (by omega)
    have hr1 := hm.row x.1 (by omega)
    have hr3 := hV.c.row x.1 (by omega)
    refine TC.region ?_
    refine TL.pure (PV.move rfl) rfl (by decide) ?_
    refine TL.pure (PV.indexA (j := x.1) rfl hq1p rfl Tb.elm_23 rfl (by omega)) rfl (by decide) ?_
    refine TL.pure (PV.loadOld rfl Tb.one_22 hq1) rfl (by decide) ?_
    refine TL.pure (PV.assign rfl) rfl (by decide) ?_
    refine TL.pure (PV.assign rfl) rfl (by decide) ?_
    refine TL.nil ?_
    refine TQ.thenC ?_
    refine TC.seq ?_
    refine TC.region ?_
    refine TL.pure (PV.move rfl) rfl (by decide) ?_
    refine TL.pure (PV.len rfl Tb.sl_22) rfl (by decide) ?_
    refine TL.pure (PV.move rfl) rfl (by decide) ?_
    refine TL.nil ?_
    refine TQ.thenC ?_
    refine TC.block ?_
    refine TC.lit [(3, _), (4, _), (6, _), (7, _), (8, _), (13, _), (14, _), (15, _), (20, _), (21, _), (22, _)] (by repeat (first | exact True.intro | refine And.intro rfl ?_)) ?_
    refine TC.loopK [3, 4, 6, 8, 13, 14, 15, 20, 21] (X := Nat × Int × LS) (fun y => y.1 ≤ t.d.length ∧ PhS t.s.length t.d.length (getM t.c) (getM m) k (lex x.1 y.1) y.2.1 y.2.2) (fun y => [(22, .int .i64 y.1), (7, .int .i64 y.2.1)]) (fun y => (b1, Obj.cells #[.slice p1 t.s.length c1, .slice p2 t.d.length c2, .slice p3 t.c.length c3] 25 (0, 0)) :: (b0, Obj.cells #[gval hs t.s.length, gval hb t.d.length] 99 (0, 0)) :: LD t.s.length t.d.length hs hb y.2.2 R9) (fun y => t.d.length - y.1) (0, x.2.1, x.2.2) ⟨Nat.zero_le _, hx9.2⟩ (by repeat (first | exact True.intro | refine And.intro rfl ?_)) (List.Sublist.refl _) ?_
    intro y hy9
    refine TC.lit [(3, _), (4, _), (6, _), (7, _), (8, _), (13, _), (14, _), (15, _), (20, _), (21, _), (22, _)] (by repeat (first | exact True.intro | refine And.intro rfl ?_)) ?_
    refine TC.seq ?_
    refine TC.region ?_
    refine TL.pure (PV.lss rfl rfl) rfl (by decide) ?_
    refine TL.nil ?_
    refine TQ.thenC ?_
    refine TC.seq ?_
    first | refine TC.condD rfl (fun hlt2 => ?_) (fun hlt2 => ?_) | refine TC.cond rfl (fun hlt2 => ?_) (fun hlt2 => ?_)
    · skip
      refine TC.skip ?_
      refine TQ.thenC ?_
      refine TC.seq ?_
      refine TC.block ?_
      refine TC.seq ?_
      obtain ⟨q2, hq2p, hq2⟩ := hq1r y.1 (by omega)
      obtain ⟨q4, hq4p, hq4⟩ := hq3r y.1 (by omega)
      have haB := hy9.2.aB x.1 (by omega)
      have hbB := hy9.2.bB y.1 (by omega)
      have hcB := hV.cb x.1 y.1 (by omega) (by omega)
      have ev : (t.c.getD x.1 []).getD y.1 0 = getM t.c x.1 y.1 := rfl
      rw [ev] at hq4
      have ev2 : (m.getD x.1 []).getD y.1 0 = getM m x.1 y.1 := rfl
      rw [ev2] at hq2
      refine TC.region ?_
      refine TL.pure (PV.move rfl) rfl (by decide) ?_
      refine TL.pure (PV.indexA (j := y.1) rfl hq2p rfl Tb.elm_22 rfl (by omega)) rfl (by decide) ?_
      refine TL.pure (PV.loadOld rfl Tb.one_3 hq2) rfl (by decide) ?_
      refine TL.pure (PV.assign rfl) rfl (by decide) ?_
      refine TL.pure (PV.assign rfl) rfl (by decide) ?_
      refine TL.nil ?_
      refine TQ.thenC ?_
      refine TC.seq ?_
      refine TC.any Tb.mixed rfl rfl ?_
      refine TA.op (OpOK.pure (PV.fieldAddr rfl Tb.fo_99_1) rfl (by decide)) (by decide) ?_
      refine TA.op (OpOK.pure (PV.load rfl Tb.one_97 (by repeat (first | exact List.Mem.head _ | refine List.Mem.tail _ ?_ | refine List.mem_append_right _ ?_)) rfl) rfl (by decide)) (by decide) ?_
      refine TA.op (OpOK.pure (PV.move rfl) rfl (by decide)) (by decide) ?_
      refine TA.op (OpOK.pure (PV.indexG (h := hb) (len := t.d.length) (ys := rcs labR (bL t.d.length y.2.2)) (j := y.1) rfl rfl (khb.g (mkL_len _ _)) Tb.elm_97 rfl (by omega)) rfl (by decide)) (by decide) ?_
      refine TA.op (OpOK.pure (PV.fieldAddr rfl Tb.fo_110_0) rfl (by decide)) (by decide) ?_
      refine TA.op (OpOK.pure (PV.loadRecF (R := labR) (h := hb) (l := bL t.d.length y.2.2) (j := y.1) (f := 0) (v := .int .i64 (y.2.2.b y.1)) (e := 110) rfl Tb.one_3 (fun yy hyy => by repeat (first | exact List.mem_append_left _ hyy | exact List.mem_append_left _ (List.mem_append_right _ hyy) | exact List.mem_append_left _ (List.mem_append_left _ hyy) | refine List.mem_append_right _ ?_ | refine List.Mem.tail _ ?_)) (khb _ (mkL_len _ _)) (by rw [mkL_len]; omega) (by decide) (lab_c (by omega))) rfl (by decide)) (by decide) ?_
      refine TA.op (OpOK.pure (PV.fieldAddr rfl Tb.fo_25_2) rfl (by decide)) (by decide) ?_
      refine TA.op (OpOK.pure (PV.load rfl Tb.one_23 (by repeat (first | exact List.Mem.head _ | refine List.Mem.tail _ ?_ | refine List.mem_append_right _ ?_)) rfl) rfl (by decide)) (by decide) ?_
      refine TA.op (OpOK.pure (PV.move rfl) rfl (by decide)) (by decide) ?_
      refine TA.op (OpOK.pure (PV.indexA (j := x.1) rfl hq3p rfl Tb.elm_23 rfl (by omega)) rfl (by decide)) (by decide) ?_
      refine TA.op (OpOK.pure (PV.loadOld rfl Tb.one_22 hq3) rfl (by decide)) (by decide) ?_
      refine TA.op (OpOK.pure (PV.move rfl) rfl (by decide)) (by decide) ?_
      refine TA.op (OpOK.pure (PV.indexA (j := y.1) rfl hq4p rfl Tb.elm_22 rfl (by omega)) rfl (by decide)) (by decide) ?_
      refine TA.op (OpOK.pure (PV.loadOld rfl Tb.one_3 hq4) rfl (by decide)) (by decide) ?_
      refine TA.op (OpOK.pure (PV.sub rfl rfl (by omega)) rfl (by decide)) (by decide) ?_
      refine TA.op (OpOK.pure (PV.assign rfl) rfl (by decide)) (by decide) ?_
      show TQ _ _ _ _ _
      refine TQ.thenC ?_
      refine TC.seq ?_
      refine TC.region ?_
      refine TL.pure (PV.move rfl) rfl (by decide) ?_
      refine TL.pure (PV.gtr rfl rfl) rfl (by decide) ?_
      refine TL.pure (PV.move rfl) rfl (by decide) ?_
      first | refine TL.splitD 44 rfl (fun hpos => ?_) (fun hpos => ?_) | refine TL.split 44 rfl (fun hpos => ?_) (fun hpos => ?_)
      · skip
        refine TL.pure (PV.move rfl) rfl (by decide) ?_
        refine TL.pure (PV.fieldAddr rfl Tb.fo_99_0) rfl (by decide) ?_
        refine TL.pure (PV.load rfl Tb.one_97 (by repeat (first | exact List.Mem.head _ | refine List.Mem.tail _ ?_ | refine List.mem_append_right _ ?_)) rfl) rfl (by decide) ?_
        refine TL.pure (PV.move rfl) rfl (by decide) ?_
        refine TL.pure (PV.indexG (h := hs) (len := t.s.length) (ys := rcs labR (sL t.s.length y.2.2)) (j := x.1) rfl rfl (khs.g (mkL_len _ _)) Tb.elm_97 rfl (by omega)) rfl (by decide) ?_
        refine TL.pure (PV.fieldAddr rfl Tb.fo_110_0) rfl (by decide) ?_
        refine TL.pure (PV.loadRecF (R := labR) (h := hs) (l := sL t.s.length y.2.2) (j := x.1) (f := 0) (v := .int .i64 (y.2.2.a x.1)) (e := 110) rfl Tb.one_3 (fun yy hyy => by repeat (first | exact List.mem_append_left _ hyy | exact List.mem_append_left _ (List.mem_append_right _ hyy) | exact List.mem_append_left _ (List.mem_append_left _ hyy) | refine List.mem_append_right _ ?_ | refine List.Mem.tail _ ?_)) (khs _ (mkL_len _ _)) (by rw [mkL_len]; omega) (by decide) (lab_c (by omega))) rfl (by decide) ?_
        refine TL.pure (PV.lss rfl rfl) rfl (by decide) ?_
        refine TL.pure (PV.pickT rfl rfl) rfl (by decide) ?_
        refine TL.nil ?_
        refine TQ.thenC ?_
        first | refine TC.condD rfl (fun hlow => ?_) (fun hlow => ?_) | refine TC.cond rfl (fun hlow => ?_) (fun hlow => ?_)
        · skip
          obtain ⟨s', hs'⟩ : ∃ s', s' = (lowS y.2.2 k x.1 y.1 (y.2.2.b y.1 - getM t.c x.1 y.1)) := ⟨_, rfl⟩
          have hst : PhS t.s.length t.d.length (getM t.c) (getM m) k (lex x.1 (y.1 + 1)) x.1 s' := by rw [hs']; exact hy9.2.step hV.cb (by omega) (by omega) hpos hlow
          have hBe : bL t.d.length y.2.2 = bL t.d.length s' := by rw [hs']; rfl
          have hSe : (sL t.s.length y.2.2).set x.1 ⟨y.2.2.b y.1 - getM t.c x.1 y.1, y.1⟩ = sL t.s.length s' := by rw [hs']; exact sL_low (B := 0) (by omega)
          refine TC.seq ?_
          refine TC.region ?_
          refine TL.pure (PV.fieldAddr rfl Tb.fo_99_0) rfl (by decide) ?_
          refine TL.pure (PV.load rfl Tb.one_97 (by repeat (first | exact List.Mem.head _ | refine List.Mem.tail _ ?_ | refine List.mem_append_right _ ?_)) rfl) rfl (by decide) ?_
          refine TL.pure (PV.move rfl) rfl (by decide) ?_
          refine TL.pure (PV.move rfl) rfl (by decide) ?_
          refine TL.pure (PV.move rfl) rfl (by decide) ?_
          refine TL.pure (PV.build rfl Tb.zero_110 Tb.pl_110 rfl) rfl (by decide) ?_
          refine TL.pure (PV.indexG (h := hs) (len := t.s.length) (ys := rcs labR (sL t.s.length y.2.2)) (j := x.1) rfl rfl (khs.g (mkL_len _ _)) Tb.elm_97 rfl (by omega)) rfl (by decide) ?_
          refine TL.putRec (R := labR) (h := hs) (l0 := sL t.s.length y.2.2) (j := x.1) (e := 110) (r := ⟨y.2.2.b y.1 - getM t.c x.1 y.1, y.1⟩) rfl rfl Tb.cells_110 (khs _ (mkL_len _ _)) (by repeat (first | exact PutH.here _ _ _ _ | apply PutH.tail | apply PutH.app)) (by rw [mkL_len]; omega) rfl rfl ?_
          rw [hSe, hBe]
          refine TL.nil ?_
          refine TQ.thenC ?_
          refine TC.region ?_
          refine TL.pure (PV.move rfl) rfl (by decide) ?_
          refine TL.pure (PV.assign rfl) rfl (by decide) ?_
          refine TL.nil ?_
          refine TQ.blkN ?_
          refine TQ.thenC ?_
          refine TC.region ?_
          refine TL.pure (PV.add rfl rfl (by omega)) rfl (by decide) ?_
          refine TL.pure (PV.move rfl) rfl (by decide) ?_
          refine TL.nil ?_
          refine TQ.thenN ?_
          refine TQ.backK (by first | exact (y.1 + 1, (x.1 : Int), s') | exact (y.1 + 1, y.2.1, y.2.2)) (by repeat (first | exact True.intro | refine And.intro rfl ?_)) (by repeat (first | exact True.intro | refine And.intro rfl ?_)) (List.Sublist.refl _) (by first | exact ⟨by simp only; omega, hst⟩ | exact ⟨by simp only; omega, hy9.2.skip (fun h => by omega)⟩) (by simp only; omega)
        · skip
          refine TC.skip ?_
          refine TQ.blkN ?_
          refine TQ.thenC ?_
          refine TC.region ?_
          refine TL.pure (PV.add rfl rfl (by omega)) rfl (by decide) ?_
          refine TL.pure (PV.move rfl) rfl (by decide) ?_
          refine TL.nil ?_
          refine TQ.thenN ?_
          refine TQ.backK (by first | exact (y.1 + 1, (x.1 : Int), s') | exact (y.1 + 1, y.2.1, y.2.2)) (by repeat (first | exact True.intro | refine And.intro rfl ?_)) (by repeat (first | exact True.intro | refine And.intro rfl ?_)) (List.Sublist.refl _) (by first | exact ⟨by simp only; omega, hst⟩ | exact ⟨by simp only; omega, hy9.2.skip (fun h => by omega)⟩) (by simp only; omega)
      · skip
        refine TL.skip rfl (fun k hk => by cases hk; decide) ?_
        refine TL.skip rfl (fun k hk => by cases hk; decide) ?_
        refine TL.skip rfl (fun k hk => by cases hk; decide) ?_
        refine TL.skip rfl (fun k hk => by cases hk; decide) ?_
        refine TL.skip rfl (fun k hk => by cases hk; decide) ?_
        refine TL.skip rfl (fun k hk => by cases hk; decide) ?_
        refine TL.skip rfl (fun k hk => by cases hk; decide) ?_
        refine TL.skip rfl (fun k hk => by cases hk; decide) ?_
        refine TL.pure (PV.pickF rfl rfl) rfl (by decide) ?_
        refine TL.nil ?_
        refine TQ.thenC ?_
        refine TC.condF rfl ?_
        refine TC.skip ?_
        refine TQ.blkN ?_
        refine TQ.thenC ?_
        refine TC.region ?_
        refine TL.pure (PV.add rfl rfl (by omega)) rfl (by decide) ?_
        refine TL.pure (PV.move rfl) rfl (by decide) ?_
        refine TL.nil ?_
        refine TQ.thenN ?_
        refine TQ.backK (by first | exact (y.1 + 1, (x.1 : Int), s') | exact (y.1 + 1, y.2.1, y.2.2)) (by repeat (first | exact True.intro | refine And.intro rfl ?_)) (by repeat (first | exact True.intro | refine And.intro rfl ?_)) (List.Sublist.refl _) (by first | exact ⟨by simp only; omega, hst⟩ | exact ⟨by simp only; omega, hy9.2.skip (fun h => by omega)⟩) (by simp only; omega)
    · skip
      refine TC.exit ?_
      refine TQ.thenE ?_
      refine TQ.thenE ?_
      refine TQ.blkS ?_
      refine TQ.blkN ?_
      refine TQ.thenC ?_
      refine TC.region ?_
      refine TL.pure (PV.add rfl rfl (by omega)) rfl (by decide) ?_
      refine TL.pure (PV.move rfl) rfl (by decide) ?_
      refine TL.nil ?_
      refine TQ.thenN ?_
      refine TQ.backK (x.1 + 1, y.2.1, y.2.2) (by repeat (first | exact True.intro | refine And.intro rfl ?_)) (by repeat (first | exact True.intro | refine And.intro rfl ?_)) (List.Sublist.refl _) ⟨by simp only; omega, hy9.2.next (by omega)⟩ (by simp only; omega)
  · skip
    refine TC.exit ?_
    refine TQ.thenE ?_
    refine TQ.thenE ?_
    refine TQ.blkS ?_
    refine TQ.thenC ?_
    refine TC.seq ?_
    refine TC.region ?_
    refine TL.pure (PV.move rfl) rfl (by decide) ?_
    refine TL.pure (PV.assign rfl) rfl (by decide) ?_
    refine TL.nil ?_
    refine TQ.thenC ?_
    refine TC.ret ?_
    refine TQ.retE1 rfl rfl ?_
    have h9 : x.1 = t.s.length := by omega
    have h8 := hx9.2
    rw [h9] at h8
    exact ⟨(x.2.1, x.2.2), rfl, h8, List.Sublist.cons _ (List.Sublist.cons _ (List.Sublist.refl _))⟩

end Go.Proofs.Ytghlkndanpegbaa

/- The plan along the corner: contracts. -/
import Derived.Test.YtghlkndanpegbaaBj
import Derived.Test.YtghlkndanpegbaaPe
set_option linter.unusedVariables false
set_option linter.unusedSimpArgs false
namespace Go.Proofs.Ytghlkndanpegbaa
open Go.Sx Go.RowKit Go.Sand Go.Tp

theorem gb_new (b n : Nat) (xs : List Int) : gbI (some (b, n, []), xs) = [(b, Obj.cells (intsA xs) 3 (0, 0))] := by
  show [(b, Obj.cells (ival xs ++ []).toArray 3 (0, 0))] = _
  rw [List.append_nil]
  rfl
theorem go_new (b n : Nat) (f : Nat → Int) : goI (some (b, n, []), mk n f) := ⟨by simp [mk_len], by simp [mk_len]⟩
theorem go_mk {h : HD} {n : Nat} {f : Nat → Int} (ho : goI (h, mk n f)) (f' : Nat → Int) : goI (h, mk n f') := go_lenI (xs := mk n f) ho (by rw [mk_len, mk_len])
theorem gk_mk {h : HD} {n : Nat} {f : Nat → Int} (ho : goI (h, mk n f)) : gok h n 1 (ival (mk n f)) := by have h5 := ho; unfold goI at h5; rwa [mk_len] at h5
theorem CpS.tb {S B : Nat} {f : Mat} {k : Nat} {h : HD} {rs : List RW} (s : CpS (tabL S B f) k h rs) (hk : S ≤ k) : TbS S B f h rs := TbS.of s.go s.ok (s.fin (by rw [tab_len]; exact hk))
abbrev fS (t : Td) : Nat → Int := fun i => t.s.getD i 0
abbrev fD (t : Td) : Nat → Int := fun j => t.d.getD j 0
abbrev crT (t : Td) (k : Nat) : CS := crn t.s.length t.d.length (fS t) (fD t) k
theorem VT.ci {t : Td} (h : VT t) (k : Nat) : CI t.s.length t.d.length (fS t) (fD t) (crT t k) := CI.all (fun i hi => (h.s i hi).1) (fun j hj => (h.d j hj).1) k
theorem cs_eq {S B : Nat} {c : CS} (hi : c.i < S) (hj : c.j < B) : cstep S B c = { i := if c.h c.i - c.n = 0 then c.i + 1 else c.i, j := if c.h c.i - c.n = 0 then c.j else c.j + 1, h := put c.h c.i (c.h c.i - c.n), w := put c.w c.j (c.w c.j - c.n), x := put2 c.x c.i c.j c.n } := if_pos ⟨hi, hj⟩
def cornT (t : Td) : List (List Int) := tabL t.s.length t.d.length (cornX t.s.length t.d.length (fS t) (fD t))
def cnrR (t : Td) : List (List Int) × Int := if validI t ≠ 0 then ([], validI t) else (cornT t, 0)
theorem cnr_1 {t : Td} (h : validI t ≠ 0) : cnrR t = ([], validI t) := if_pos h
theorem cnr_0 {t : Td} (h : ¬ validI t ≠ 0) : cnrR t = (cornT t, 0) := if_neg h
/-- Rows of zeros. -/
structure EmS (B k : Nat) (h : HD) (rs : List RW) : Prop where
  len : rs.length = k
  go : goR rwR h rs
  ok : rwOk rs
  l : ∀ i, i < k → (rs.getD i default).l = mk B fun _ => 0
theorem ems_zero (B : Nat) : EmS B 0 none [] := ⟨rfl, ⟨rfl, rfl⟩, fun r hr => (by cases hr), fun i hi => absurd hi (Nat.not_lt_zero _)⟩
theorem rwOk.snoc {rs : List RW} (h : rwOk rs) {r : RW} (hr : goI (r.h, r.l)) : rwOk (rs ++ [r]) := fun x hx => by
  rcases List.mem_append.1 hx with h1 | h1
  · exact h x h1
  · rw [List.mem_singleton.1 h1]; exact hr
theorem ems_step {B k : Nat} {h h' ha : HD} {rs : List RW} (s : EmS B k h rs) (ho : goR rwR h' (rs ++ [⟨ha, mk B fun _ => 0⟩])) (h1 : goI (ha, mk B fun _ => 0)) : EmS B (k + 1) h' (rs ++ [⟨ha, mk B fun _ => 0⟩]) := by
  have hl := s.len
  refine ⟨by rw [List.length_append, hl]; rfl, ho, s.ok.snoc h1, fun i hi => ?_⟩
  by_cases e : i < k
  · rw [← s.l i e]
    simp [List.getD, List.getElem?_append_left (show i < rs.length by omega)]
  · have : i = rs.length := by omega
    subst this
    simp [List.getD]
theorem ems_tb {S B k : Nat} {h : HD} {rs : List RW} (s : EmS B k h rs) (hk : k = S) : TbS S B (fun _ _ => 0) h rs := ⟨by rw [s.len, hk], s.go, s.ok, fun i hi => s.l i (by omega)⟩
theorem rwB_snoc (rs : List RW) (r : RW) : rwB (rs ++ [r]) = rwB rs ++ gbI (r.h, r.l) := by rw [rwB_app]; simp [rwB]
theorem tabz_row {S B i : Nat} (h : i < S) : (tabL S B fun _ _ => 0).getD i [] = mk B fun _ => 0 := tab_row _ h
theorem ext_mk (xs : List Int) : xs = mk xs.length fun i => xs.getD i 0 := (mk_self xs).symm


set_option maxRecDepth 100000 in
set_option maxHeartbeats 4000000 in
theorem corner_ok (w0 : World) (vt : Value) (t : Td) (ht : IsT w0 vt t) (hV : VT t) :
    Calls Try.prog 65 #[vt] w0 (Post (X := Value × Heap) (fun y => y.1) (fun y => RdG (cornT t) y) (fun y => y.2) w0) := by
  obtain ⟨p1, c1, p2, c2, p3, c3, rfl, t1, t2, t3⟩ := ht
  have hns := hV.ns
  have hnd := hV.nd
  refine calls Try.func65 rfl (n := 83) rfl (by simp) ?_
  refine TC.seq ?_
  refine TC.region ?_
  refine TL.box rfl rfl (by decide) (fun b0 hb0 => ?_)
  refine TL.pure (PV.assign rfl) rfl (by decide) ?_
  refine TL.nil ?_
  refine TQ.thenC ?_
  refine TC.seq ?_
  refine TC.region ?_
  refine TL.pure (PV.fieldAddr rfl Tb.fo_25_0) rfl (by decide) ?_
  refine TL.pure (PV.load rfl Tb.one_22 (by repeat (first | exact List.Mem.head _ | refine List.Mem.tail _ ?_ | refine List.mem_append_right _ ?_)) rfl) rfl (by decide) ?_
  refine TL.pure (PV.len rfl Tb.sl_22) rfl (by decide) ?_
  refine TL.make (k := t.s.length) rfl rfl Tb.sl_23 Tb.zi_22 rfl rfl (by omega) (by omega) rfl (by decide) (fun bO hbO => ?_)
  refine TL.congrG (G' := gbR rwR 22 (some (bO, t.s.length, [])) (List.replicate t.s.length ⟨none, []⟩) ++ (rwB (List.replicate t.s.length ⟨none, []⟩) ++ [(b0, Obj.cells #[.slice p1 t.s.length c1, .slice p2 t.d.length c2, .slice p3 t.c.length c3] 25 (0, 0))])) (by rw [← List.append_assoc, ← rw_blk0, rwB_none]; rfl) ?_
  refine TL.pure (PV.assign rfl) rfl (by decide) ?_
  refine TL.nil ?_
  refine TQ.thenC ?_
  refine TC.seq ?_
  refine TC.seq ?_
  refine TC.region ?_
  refine TL.pure (PV.move rfl) rfl (by decide) ?_
  refine TL.pure (PV.len rfl Tb.sl_23) rfl (by decide) ?_
  refine TL.pure (PV.move rfl) rfl (by decide) ?_
  refine TL.nil ?_
  refine TQ.thenC ?_
  refine TC.block ?_
  refine TC.lit [(1, _), (2, _), (3, _), (15, _), (16, _)] (by repeat (first | exact True.intro | refine And.intro rfl ?_)) ?_
  refine TC.loopK [1, 2, 3, 15] (X := Nat × List RW) (fun x => x.1 ≤ t.s.length ∧ CpS (tabL t.s.length t.d.length fun _ _ => 0) x.1 (some (bO, t.s.length, [])) x.2) (fun x => [(16, .int .i64 x.1)]) (fun x => gbR rwR 22 (some (bO, t.s.length, [])) x.2 ++ (rwB x.2 ++ [(b0, Obj.cells #[.slice p1 t.s.length c1, .slice p2 t.d.length c2, .slice p3 t.c.length c3] 25 (0, 0))])) (fun x => t.s.length - x.1) (0, List.replicate t.s.length ⟨none, []⟩) ⟨Nat.zero_le _, CpS.zero (tab_len _ _ _)⟩ (by repeat (first | exact True.intro | refine And.intro rfl ?_)) (List.Sublist.refl _) ?_
  intro x hx9
  refine TC.lit [(1, _), (2, _), (3, _), (15, _), (16, _)] (by repeat (first | exact True.intro | refine And.intro rfl ?_)) ?_
  refine TC.seq ?_
  refine TC.region ?_
  refine TL.pure (PV.lss rfl rfl) rfl (by decide) ?_
  refine TL.nil ?_
  refine TQ.thenC ?_
  refine TC.seq ?_
  first | refine TC.condD rfl (fun hlt => ?_) (fun hlt => ?_) | refine TC.cond rfl (fun hlt => ?_) (fun hlt => ?_)
  · skip
    refine TC.skip ?_
    refine TQ.thenC ?_
    refine TC.seq ?_
    refine TC.block ?_
    refine TC.seq ?_
    have hxl := hx9.2.len
    have hxg := hx9.2.go
    rw [tab_len] at hxl
    have hgk : gok (some (bO, t.s.length, [])) t.s.length 1 (rcs rwR x.2) := by have h5 := hxg; unfold goR at h5; rw [hxl] at h5; exact h5
    refine TC.region ?_
    refine TL.pure (PV.move rfl) rfl (by decide) ?_
    refine TL.pure (PV.assign rfl) rfl (by decide) ?_
    refine TL.nil ?_
    refine TQ.thenC ?_
    refine TC.region ?_
    refine TL.pure (PV.move rfl) rfl (by decide) ?_
    refine TL.pure (PV.move rfl) rfl (by decide) ?_
    refine TL.pure (PV.fieldAddr rfl Tb.fo_25_1) rfl (by decide) ?_
    refine TL.pure (PV.load rfl Tb.one_22 (by repeat (first | exact List.Mem.head _ | refine List.Mem.tail _ ?_ | refine List.mem_append_right _ ?_)) rfl) rfl (by decide) ?_
    refine TL.pure (PV.len rfl Tb.sl_22) rfl (by decide) ?_
    refine TL.makeI (k := t.d.length) rfl rfl Tb.sl_22 Tb.zi_3 rfl (by omega) (by omega) rfl (by decide) (fun bM hbM => ?_)
    rw [mk_rep]
    refine TL.pure (PV.indexG (h := (some (bO, t.s.length, []))) (len := t.s.length) (ys := rcs rwR x.2) (j := x.1) rfl rfl hgk Tb.elm_23 rfl (by omega)) rfl (by decide) ?_
    refine TL.putCell (R := rwR) (h := (some (bO, t.s.length, []))) (l0 := x.2) (j := x.1) (f := 0) (v := gval (some (bM, t.d.length, [])) t.d.length) (r := ⟨some (bM, t.d.length, []), mk t.d.length fun _ => 0⟩) (e := 22) rfl rfl Tb.cells_22 (gval_one _ _) hxg (by show [gval _ _] = [gval _ (mk _ _).length]; rw [mk_len]) (by repeat (first | exact PutH.here _ _ _ _ | apply PutH.tail | apply PutH.app)) (by omega) Nat.one_pos rfl rfl ?_
    refine TL.nil ?_
    refine TQ.blkN ?_
    refine TQ.thenC ?_
    refine TC.region ?_
    refine TL.pure (PV.add rfl rfl (by omega)) rfl (by decide) ?_
    refine TL.pure (PV.move rfl) rfl (by decide) ?_
    refine TL.nil ?_
    refine TQ.thenN ?_
    refine TQ.perm (G' := gbR rwR 22 (some (bO, t.s.length, [])) (x.2.set x.1 ⟨some (bM, t.d.length, []), mk t.d.length fun _ => 0⟩) ++ (rwB (x.2.set x.1 ⟨some (bM, t.d.length, []), mk t.d.length fun _ => 0⟩) ++ ([(b0, Obj.cells #[.slice p1 t.s.length c1, .slice p2 t.d.length c2, .slice p3 t.c.length c3] 25 (0, 0))] ++ gbI ((x.2.getD x.1 default).h, (x.2.getD x.1 default).l)))) (perm_of fun c9 => by rw [rwB_set (by omega)]; have h5 := congrArg (fun l => (l.map c9).sum) (rwB_at (rs := x.2) (show x.1 < x.2.length by omega) []); rw [gb_new]; simp only [List.map_append, List.sum_append, List.map_cons, List.sum_cons, List.map_nil, List.sum_nil, gbI, gbR] at h5 ⊢; omega) ?_
    refine TQ.backK (x.1 + 1, x.2.set x.1 ⟨some (bM, t.d.length, []), mk t.d.length fun _ => 0⟩) (by repeat (first | exact True.intro | refine And.intro rfl ?_)) (by repeat (first | exact True.intro | refine And.intro rfl ?_)) (List.Sublist.append_left (List.Sublist.append_left (List.sublist_append_left _ _) _) _) ⟨by simp only; omega, by have h5 := hx9.2.step (by rw [tab_len]; omega) (h' := some (bM, t.d.length, [])) (by rw [tabz_row (by omega)]; exact go_new _ _ _); rw [tabz_row (by omega)] at h5; exact h5⟩ (by simp only; omega)
  · skip
    refine TC.exit ?_
    refine TQ.thenE ?_
    refine TQ.thenE ?_
    refine TQ.blkS ?_
    refine TQ.thenC ?_
    refine TC.seq ?_
    refine TC.mixV [true, true, false, true, true, false, true, true] [(b0, Obj.cells #[.slice p1 t.s.length c1, .slice p2 t.d.length c2, .slice p3 t.c.length c3] 25 (0, 0))] 8 Tb.mixed rfl (by kernel_rfl) (by kernel_rfl) (by kernel_rfl) (by kernel_rfl) (by repeat (first | exact List.Sublist.slnil | exact List.nil_sublist _ | exact List.Sublist.refl _ | refine List.Sublist.cons_cons _ ?_ | refine List.Sublist.cons _ ?_ | refine List.Sublist.trans ?_ (List.sublist_append_right _ _))) ?_
    refine TV.virt 0 rfl rfl (by decide) rfl (by kernel_rfl) (SOK.pure (PV.fieldAddr rfl Tb.fo_25_0) rfl) ?_
    refine TV.virt 1 rfl rfl (by decide) rfl (by kernel_rfl) (SOK.pure (PV.load rfl Tb.one_22 (by repeat (first | exact List.Mem.head _ | refine List.Mem.tail _ ?_ | refine List.mem_append_right _ ?_)) rfl) rfl) ?_
    refine TV.virt 3 rfl rfl (by decide) rfl (by kernel_rfl) (SOK.pure (PV.fieldAddr rfl Tb.fo_25_1) rfl) ?_
    refine TV.virt 4 rfl rfl (by decide) rfl (by kernel_rfl) (SOK.pure (PV.load rfl Tb.one_22 (by repeat (first | exact List.Mem.head _ | refine List.Mem.tail _ ?_ | refine List.mem_append_right _ ?_)) rfl) rfl) ?_
    refine TV.step [2] (by kernel_rfl) (by decide) rfl ⟨⟨_, rfl, ?_⟩, trivial⟩
    refine TL.call rfl Tb.gofn_80 (fun a w hs => clone_ok w _ _ _ (t1.new hs.new) (by omega)) rfl (by decide) (fun hH hhH => ?_)
    refine TL.nil ?_
    refine TV.next (.inl (by repeat (first | exact List.Sublist.slnil | exact List.nil_sublist _ | exact List.Sublist.refl _ | refine List.Sublist.cons_cons _ ?_ | refine List.Sublist.cons _ ?_ | refine List.Sublist.trans ?_ (List.sublist_append_right _ _)))) ?_
    refine TV.step [5] (by kernel_rfl) (by decide) rfl ⟨⟨_, rfl, ?_⟩, trivial⟩
    refine TL.call rfl Tb.gofn_80 (fun a w hs => clone_ok w _ _ _ (t2.new hs.new) (by omega)) rfl (by decide) (fun hW hhW => ?_)
    refine TL.nil ?_
    refine TV.next (.inl (by repeat (first | exact List.Sublist.slnil | exact List.nil_sublist _ | exact List.Sublist.refl _ | refine List.Sublist.cons_cons _ ?_ | refine List.Sublist.cons _ ?_ | refine List.Sublist.trans ?_ (List.sublist_append_right _ _)))) ?_
    refine TV.virt 6 rfl rfl (by decide) rfl (by kernel_rfl) (SOK.pure (PV.assign rfl) rfl) ?_
    refine TV.virt 7 rfl rfl (by decide) rfl (by kernel_rfl) (SOK.pure (PV.assign rfl) rfl) ?_
    refine TV.done (by kernel_rfl) ?_
    refine TQ.thenC ?_
    refine TC.seq ?_
    refine TC.seq ?_
    refine TC.region ?_
    refine TL.pure (PV.assign rfl) rfl (by decide) ?_
    refine TL.pure (PV.assign rfl) rfl (by decide) ?_
    refine TL.nil ?_
    refine TQ.thenC ?_
    refine TC.block ?_
    refine TC.lit [(2, _), (3, _), (5, _), (6, _), (7, _), (8, _)] (by repeat (first | exact True.intro | refine And.intro rfl ?_)) ?_
    refine TC.perm (G' := gbR rwR 22 (some (bO, t.s.length, [])) x.2 ++ (rwB x.2 ++ (gbI (hH, t.s) ++ (gbI (hW, t.d) ++ [(b0, Obj.cells #[.slice p1 t.s.length c1, .slice p2 t.d.length c2, .slice p3 t.c.length c3] 25 (0, 0))])))) (perm_of fun c9 => by simp only [List.map_append, List.sum_append, List.map_cons, List.sum_cons, List.map_nil, List.sum_nil, Value.cells]; try omega) ?_
    have hohH : goI (hH, mk t.s.length (fS t)) := by rw [← ext_mk]; exact hhH
    have hohW : goI (hW, mk t.d.length (fD t)) := by rw [← ext_mk]; exact hhW
    refine TC.loopK [2, 3, 5, 6] (X := Nat × List RW) (fun x => (crT t x.1).i + (crT t x.1).j = x.1 ∧ TbS t.s.length t.d.length (crT t x.1).x (some (bO, t.s.length, [])) x.2) (fun x => [(7, .int .i64 ((crT t x.1).i : Nat)), (8, .int .i64 ((crT t x.1).j : Nat))]) (fun x => gbR rwR 22 (some (bO, t.s.length, [])) x.2 ++ (rwB x.2 ++ (gbI (hH, mk t.s.length (crT t x.1).h) ++ (gbI (hW, mk t.d.length (crT t x.1).w) ++ [(b0, Obj.cells #[.slice p1 t.s.length c1, .slice p2 t.d.length c2, .slice p3 t.c.length c3] 25 (0, 0))])))) (fun x => t.s.length + t.d.length - x.1) (0, x.2) ⟨rfl, hx9.2.tb (by omega)⟩ (by repeat (first | exact True.intro | refine And.intro rfl ?_)) (by have e1 := ext_mk t.s; have e2 := ext_mk t.d; show List.Sublist (_ ++ (_ ++ (gbI (hH, mk t.s.length (fS t)) ++ (gbI (hW, mk t.d.length (fD t)) ++ [(b0, Obj.cells #[.slice p1 t.s.length c1, .slice p2 t.d.length c2, .slice p3 t.c.length c3] 25 (0, 0))])))) _; rw [← e1, ← e2]; exact List.Sublist.refl _) ?_
    intro x hx9
    refine TC.lit [(2, _), (3, _), (5, _), (6, _), (7, _), (8, _)] (by repeat (first | exact True.intro | refine And.intro rfl ?_)) ?_
    refine TC.seq ?_
    refine TC.seq ?_
    refine TC.region ?_
    refine TL.pure (PV.move rfl) rfl (by decide) ?_
    refine TL.pure (PV.move rfl) rfl (by decide) ?_
    refine TL.pure (PV.lenG (h := hH) (len := t.s.length) (ys := ival (mk t.s.length (fS t))) rfl (gk_mk hohH) Tb.sl_22) rfl (by decide) ?_
    refine TL.pure (PV.lss rfl rfl) rfl (by decide) ?_
    refine TL.pure (PV.move rfl) rfl (by decide) ?_
    first | refine TL.splitD 37 rfl (fun hci9 => ?_) (fun hci9 => ?_) | refine TL.split 37 rfl (fun hci9 => ?_) (fun hci9 => ?_)
    · skip
      refine TL.pure (PV.move rfl) rfl (by decide) ?_
      refine TL.pure (PV.move rfl) rfl (by decide) ?_
      refine TL.pure (PV.lenG (h := hW) (len := t.d.length) (ys := ival (mk t.d.length (fD t))) rfl (gk_mk hohW) Tb.sl_22) rfl (by decide) ?_
      refine TL.pure (PV.lss rfl rfl) rfl (by decide) ?_
      refine TL.pure (PV.pickT rfl rfl) rfl (by decide) ?_
      refine TL.nil ?_
      refine TQ.thenC ?_
      first | refine TC.condD rfl (fun hcj9 => ?_) (fun hcj9 => ?_) | refine TC.cond rfl (fun hcj9 => ?_) (fun hcj9 => ?_)
      · skip
        have hci : (crT t x.1).i < t.s.length := by omega
        have hcj : (crT t x.1).j < t.d.length := by omega
        refine TC.skip ?_
        refine TQ.thenC ?_
        refine TC.block ?_
        refine TC.seq ?_
        have hcc := hV.ci x.1
        have hhb := hcc.hn (crT t x.1).i hci
        have hwb := hcc.wn (crT t x.1).j hcj
        have hsb : fS t (crT t x.1).i ≤ 30 := (hV.s (crT t x.1).i hci).2
        have hdb : fD t (crT t x.1).j ≤ 30 := (hV.d (crT t x.1).j hcj).2
        have hx0 : (crT t x.1).x (crT t x.1).i (crT t x.1).j = 0 := hcc.z _ _ (.inr (.inr ⟨rfl, rfl⟩))
        have hnb : 0 ≤ (crT t x.1).n ∧ (crT t x.1).n ≤ (crT t x.1).h (crT t x.1).i ∧ (crT t x.1).n ≤ (crT t x.1).w (crT t x.1).j := by unfold CS.n; omega
        have hxl := hx9.2.len
        have hro := hx9.2.rk hci
        have hrl := hx9.2.rl hci
        have hcs : (crT t (x.1 + 1)) = _ := cs_eq hci hcj
        have hH1 : (crT t (x.1 + 1)).h = put (crT t x.1).h (crT t x.1).i ((crT t x.1).h (crT t x.1).i - (crT t x.1).n) := by rw [hcs]
        have hW1 : (crT t (x.1 + 1)).w = put (crT t x.1).w (crT t x.1).j ((crT t x.1).w (crT t x.1).j - (crT t x.1).n) := by rw [hcs]
        have hX1 : (crT t (x.1 + 1)).x = put2 (crT t x.1).x (crT t x.1).i (crT t x.1).j (crT t x.1).n := by rw [hcs]
        refine TC.any Tb.mixed rfl rfl ?_
        refine TA.op (OpOK.pure (PV.move rfl) rfl (by decide)) (by decide) ?_
        refine TA.op (OpOK.pure (PV.move rfl) rfl (by decide)) (by decide) ?_
        refine TA.op (OpOK.pure (PV.indexG (h := hH) (len := t.s.length) (ys := ival (mk t.s.length (crT t x.1).h)) (j := (crT t x.1).i) rfl rfl (gk_mk (go_mk hohH _)) Tb.elm_22 rfl (by omega)) rfl (by decide)) (by decide) ?_
        refine TA.op (OpOK.pure (PV.loadGI (y := (hH, mk t.s.length (crT t x.1).h)) (j := (crT t x.1).i) (v := (crT t x.1).h (crT t x.1).i) rfl Tb.one_3 (fun yy hyy => by repeat (first | exact List.mem_append_left _ hyy | exact List.mem_append_left _ (List.mem_append_right _ hyy) | exact List.mem_append_left _ (List.mem_append_left _ hyy) | refine List.mem_append_right _ ?_ | refine List.Mem.tail _ ?_)) (go_mk hohH _) (by show _ < (mk _ _).length; rw [mk_len]; omega) (mk_at _ (by omega))) rfl (by decide)) (by decide) ?_
        refine TA.op (OpOK.pure (PV.move rfl) rfl (by decide)) (by decide) ?_
        refine TA.op (OpOK.pure (PV.move rfl) rfl (by decide)) (by decide) ?_
        refine TA.op (OpOK.pure (PV.indexG (h := hW) (len := t.d.length) (ys := ival (mk t.d.length (crT t x.1).w)) (j := (crT t x.1).j) rfl rfl (gk_mk (go_mk hohW _)) Tb.elm_22 rfl (by omega)) rfl (by decide)) (by decide) ?_
        refine TA.op (OpOK.pure (PV.loadGI (y := (hW, mk t.d.length (crT t x.1).w)) (j := (crT t x.1).j) (v := (crT t x.1).w (crT t x.1).j) rfl Tb.one_3 (fun yy hyy => by repeat (first | exact List.mem_append_left _ hyy | exact List.mem_append_left _ (List.mem_append_right _ hyy) | exact List.mem_append_left _ (List.mem_append_left _ hyy) | refine List.mem_append_right _ ?_ | refine List.Mem.tail _ ?_)) (go_mk hohW _) (by show _ < (mk _ _).length; rw [mk_len]; omega) (mk_at _ (by omega))) rfl (by decide)) (by decide) ?_
        refine TA.op (OpOK.pure (PV.min rfl rfl Tb.int_3) rfl (by decide)) (by decide) ?_
        refine TA.op (OpOK.pure (PV.assign rfl) rfl (by decide)) (by decide) ?_
        show TQ _ _ _ _ _
        refine TQ.thenC ?_
        refine TC.seq ?_
        rw [rwB_at (show (crT t x.1).i < x.2.length by omega)]
        refine TC.region ?_
        refine TL.pure (PV.move rfl) rfl (by decide) ?_
        refine TL.pure (PV.move rfl) rfl (by decide) ?_
        refine TL.pure (PV.indexG (h := (some (bO, t.s.length, []))) (len := t.s.length) (ys := rcs rwR x.2) (j := (crT t x.1).i) rfl rfl hx9.2.gk Tb.elm_23 rfl (by omega)) rfl (by decide) ?_
        refine TL.pure (PV.loadRecF (R := rwR) (h := (some (bO, t.s.length, []))) (l := x.2) (j := (crT t x.1).i) (f := 0) (v := gval (x.2.getD (crT t x.1).i default).h (x.2.getD (crT t x.1).i default).l.length) (e := 22) rfl Tb.one_22 (fun yy hyy => by repeat (first | exact List.mem_append_left _ hyy | exact List.mem_append_left _ (List.mem_append_right _ hyy) | exact List.mem_append_left _ (List.mem_append_left _ hyy) | refine List.mem_append_right _ ?_ | refine List.Mem.tail _ ?_)) hx9.2.go (by omega) Nat.one_pos rfl) rfl (by decide) ?_
        refine TL.pure (PV.move rfl) rfl (by decide) ?_
        refine TL.pure (PV.move rfl) rfl (by decide) ?_
        refine TL.pure (PV.indexG (h := (x.2.getD (crT t x.1).i default).h) (len := (x.2.getD (crT t x.1).i default).l.length) (ys := ival (x.2.getD (crT t x.1).i default).l) (j := (crT t x.1).j) rfl rfl hro Tb.elm_22 rfl (by omega)) rfl (by decide) ?_
        refine TL.putI (h := (x.2.getD (crT t x.1).i default).h) (xs := (x.2.getD (crT t x.1).i default).l) (xs' := (x.2.getD (crT t x.1).i default).l.set (crT t x.1).j (crT t x.1).n) (j := (crT t x.1).j) rfl rfl Tb.cells_3 hro rfl (by repeat (first | exact PutH.here _ _ _ _ | apply PutH.tail | apply PutH.app)) (by omega) rfl rfl ?_
        obtain ⟨rs', hrs'⟩ : ∃ rs', rs' = rwS x.2 (crT t x.1).i (crT t x.1).j (crT t x.1).n := ⟨_, rfl⟩
        refine TL.congrG (G' := gbR rwR 22 (some (bO, t.s.length, [])) rs' ++ (rwB rs' ++ (gbI (hH, mk t.s.length (crT t x.1).h) ++ (gbI (hW, mk t.d.length (crT t x.1).w) ++ [(b0, Obj.cells #[.slice p1 t.s.length c1, .slice p2 t.d.length c2, .slice p3 t.c.length c3] 25 (0, 0))])))) (by rw [hrs']; exact (rwS_blk (h := (some (bO, t.s.length, []))) (by omega) _ _ _).symm) ?_
        have hst : TbS t.s.length t.d.length (crT t (x.1 + 1)).x (some (bO, t.s.length, [])) rs' := by rw [hrs', hX1]; exact hx9.2.set hci hcj (by rw [put2_k]) (fun p q hp hq hne => put2_ne _ _ hne)
        refine TL.nil ?_
        refine TQ.thenC ?_
        refine TC.seq ?_
        refine TC.region ?_
        refine TL.pure (PV.move rfl) rfl (by decide) ?_
        refine TL.pure (PV.move rfl) rfl (by decide) ?_
        refine TL.pure (PV.indexG (h := hH) (len := t.s.length) (ys := ival (mk t.s.length (crT t x.1).h)) (j := (crT t x.1).i) rfl rfl (gk_mk (go_mk hohH _)) Tb.elm_22 rfl (by omega)) rfl (by decide) ?_
        refine TL.pure (PV.loadGI (y := (hH, mk t.s.length (crT t x.1).h)) (j := (crT t x.1).i) (v := (crT t x.1).h (crT t x.1).i) rfl Tb.one_3 (fun yy hyy => by repeat (first | exact List.mem_append_left _ hyy | exact List.mem_append_left _ (List.mem_append_right _ hyy) | exact List.mem_append_left _ (List.mem_append_left _ hyy) | refine List.mem_append_right _ ?_ | refine List.Mem.tail _ ?_)) (go_mk hohH _) (by show _ < (mk _ _).length; rw [mk_len]; omega) (mk_at _ (by omega))) rfl (by decide) ?_
        refine TL.pure (PV.move rfl) rfl (by decide) ?_
        refine TL.pure (PV.sub rfl rfl (by show _ ≤ (crT t x.1).h (crT t x.1).i - (crT t x.1).n ∧ (crT t x.1).h (crT t x.1).i - (crT t x.1).n ≤ _; omega)) rfl (by decide) ?_
        refine TL.pure (PV.indexG (h := hH) (len := t.s.length) (ys := ival (mk t.s.length (crT t x.1).h)) (j := (crT t x.1).i) rfl rfl (gk_mk (go_mk hohH _)) Tb.elm_22 rfl (by omega)) rfl (by decide) ?_
        refine TL.putI (h := hH) (xs := mk t.s.length (crT t x.1).h) (xs' := mk t.s.length (crT t (x.1 + 1)).h) (j := (crT t x.1).i) rfl rfl Tb.cells_3 (go_mk hohH _) (by rw [hH1]; exact mk_set hci (put_k _ _ _).symm (fun q _ hq => (put_ne _ _ hq).symm)) (by repeat (first | exact PutH.here _ _ _ _ | apply PutH.tail | apply PutH.app)) (by rw [mk_len]; omega) rfl rfl ?_
        refine TL.nil ?_
        refine TQ.thenC ?_
        refine TC.seq ?_
        refine TC.region ?_
        refine TL.pure (PV.move rfl) rfl (by decide) ?_
        refine TL.pure (PV.move rfl) rfl (by decide) ?_
        refine TL.pure (PV.indexG (h := hW) (len := t.d.length) (ys := ival (mk t.d.length (crT t x.1).w)) (j := (crT t x.1).j) rfl rfl (gk_mk (go_mk hohW _)) Tb.elm_22 rfl (by omega)) rfl (by decide) ?_
        refine TL.pure (PV.loadGI (y := (hW, mk t.d.length (crT t x.1).w)) (j := (crT t x.1).j) (v := (crT t x.1).w (crT t x.1).j) rfl Tb.one_3 (fun yy hyy => by repeat (first | exact List.mem_append_left _ hyy | exact List.mem_append_left _ (List.mem_append_right _ hyy) | exact List.mem_append_left _ (List.mem_append_left _ hyy) | refine List.mem_append_right _ ?_ | refine List.Mem.tail _ ?_)) (go_mk hohW _) (by show _ < (mk _ _).length; rw [mk_len]; omega) (mk_at _ (by omega))) rfl (by decide) ?_
        refine TL.pure (PV.move rfl) rfl (by decide) ?_
        refine TL.pure (PV.sub rfl rfl (by show _ ≤ (crT t x.1).w (crT t x.1).j - (crT t x.1).n ∧ (crT t x.1).w (crT t x.1).j - (crT t x.1).n ≤ _; omega)) rfl (by decide) ?_
        refine TL.pure (PV.indexG (h := hW) (len := t.d.length) (ys := ival (mk t.d.length (crT t x.1).w)) (j := (crT t x.1).j) rfl rfl (gk_mk (go_mk hohW _)) Tb.elm_22 rfl (by omega)) rfl (by decide) ?_
        refine TL.putI (h := hW) (xs := mk t.d.length (crT t x.1).w) (xs' := mk t.d.length (crT t (x.1 + 1)).w) (j := (crT t x.1).j) rfl rfl Tb.cells_3 (go_mk hohW _) (by rw [hW1]; exact mk_set hcj (put_k _ _ _).symm (fun q _ hq => (put_ne _ _ hq).symm)) (by repeat (first | exact PutH.here _ _ _ _ | apply PutH.tail | apply PutH.app)) (by rw [mk_len]; omega) rfl rfl ?_
        refine TL.nil ?_
        refine TQ.thenC ?_
        refine TC.seq ?_
        refine TC.region ?_
        refine TL.pure (PV.move rfl) rfl (by decide) ?_
        refine TL.pure (PV.move rfl) rfl (by decide) ?_
        refine TL.pure (PV.indexG (h := hH) (len := t.s.length) (ys := ival (mk t.s.length (crT t (x.1 + 1)).h)) (j := (crT t x.1).i) rfl rfl (gk_mk (go_mk hohH _)) Tb.elm_22 rfl (by omega)) rfl (by decide) ?_
        refine TL.pure (PV.loadGI (y := (hH, mk t.s.length (crT t (x.1 + 1)).h)) (j := (crT t x.1).i) (v := ((crT t x.1).h (crT t x.1).i - (crT t x.1).n)) rfl Tb.one_3 (fun yy hyy => by repeat (first | exact List.mem_append_left _ hyy | exact List.mem_append_left _ (List.mem_append_right _ hyy) | exact List.mem_append_left _ (List.mem_append_left _ hyy) | refine List.mem_append_right _ ?_ | refine List.Mem.tail _ ?_)) (go_mk hohH _) (by show _ < (mk _ _).length; rw [mk_len]; omega) (by rw [mk_at _ (by omega), hH1, put_k])) rfl (by decide) ?_
        refine TL.pure (PV.eql rfl rfl) rfl (by decide) ?_
        refine TL.nil ?_
        refine TQ.thenC ?_
        first | refine TC.condD rfl (fun hz => ?_) (fun hz => ?_) | refine TC.cond rfl (fun hz => ?_) (fun hz => ?_)
        · skip
          have hi9 : (crT t (x.1 + 1)).i = (crT t x.1).i + 1 := by rw [hcs]; exact if_pos hz
          have hj9 : (crT t (x.1 + 1)).j = (crT t x.1).j := by rw [hcs]; exact if_pos hz
          refine TC.region ?_
          refine TL.pure (PV.move rfl) rfl (by decide) ?_
          refine TL.pure (PV.add rfl rfl (by omega)) rfl (by decide) ?_
          refine TL.pure (PV.assign rfl) rfl (by decide) ?_
          refine TL.nil ?_
          refine TQ.blkN ?_
          refine TQ.thenN ?_
          refine TQ.backK (x.1 + 1, rs') (And.intro (by first | (show some (Value.int .i64 (((crT t x.1).i : Int) + 1)) = some (Value.int .i64 ((crT t (x.1 + 1)).i : Nat)); rw [hi9]; rfl) | (show some (Value.int .i64 ((crT t x.1).i : Nat)) = some (Value.int .i64 ((crT t (x.1 + 1)).i : Nat)); rw [hi9])) (And.intro (by first | (show some (Value.int .i64 (((crT t x.1).j : Int) + 1)) = some (Value.int .i64 ((crT t (x.1 + 1)).j : Nat)); rw [hj9]; rfl) | (show some (Value.int .i64 ((crT t x.1).j : Nat)) = some (Value.int .i64 ((crT t (x.1 + 1)).j : Nat)); rw [hj9])) True.intro)) (by repeat (first | exact True.intro | refine And.intro rfl ?_)) (List.Sublist.refl _) ⟨by rw [show crT t (x.1 + 1) = cstep _ _ _ from rfl, cstep_sum hci hcj]; omega, hst⟩ (by simp only; omega)
        · skip
          have hi9 : (crT t (x.1 + 1)).i = (crT t x.1).i := by rw [hcs]; exact if_neg hz
          have hj9 : (crT t (x.1 + 1)).j = (crT t x.1).j + 1 := by rw [hcs]; exact if_neg hz
          refine TC.region ?_
          refine TL.pure (PV.move rfl) rfl (by decide) ?_
          refine TL.pure (PV.add rfl rfl (by omega)) rfl (by decide) ?_
          refine TL.pure (PV.assign rfl) rfl (by decide) ?_
          refine TL.nil ?_
          refine TQ.blkN ?_
          refine TQ.thenN ?_
          refine TQ.backK (x.1 + 1, rs') (And.intro (by first | (show some (Value.int .i64 (((crT t x.1).i : Int) + 1)) = some (Value.int .i64 ((crT t (x.1 + 1)).i : Nat)); rw [hi9]; rfl) | (show some (Value.int .i64 ((crT t x.1).i : Nat)) = some (Value.int .i64 ((crT t (x.1 + 1)).i : Nat)); rw [hi9])) (And.intro (by first | (show some (Value.int .i64 (((crT t x.1).j : Int) + 1)) = some (Value.int .i64 ((crT t (x.1 + 1)).j : Nat)); rw [hj9]; rfl) | (show some (Value.int .i64 ((crT t x.1).j : Nat)) = some (Value.int .i64 ((crT t (x.1 + 1)).j : Nat)); rw [hj9])) True.intro)) (by repeat (first | exact True.intro | refine And.intro rfl ?_)) (List.Sublist.refl _) ⟨by rw [show crT t (x.1 + 1) = cstep _ _ _ from rfl, cstep_sum hci hcj]; omega, hst⟩ (by simp only; omega)
      · skip
        refine TC.exit ?_
        refine TQ.thenE ?_
        refine TQ.thenE ?_
        refine TQ.blkS ?_
        refine TQ.thenC ?_
        refine TC.seq ?_
        refine TC.region ?_
        refine TL.pure (PV.move rfl) rfl (by decide) ?_
        refine TL.pure (PV.assign rfl) rfl (by decide) ?_
        refine TL.nil ?_
        refine TQ.thenC ?_
        refine TC.ret ?_
        refine TQ.retE1 rfl rfl ?_
        have hfin : ¬ ((crT t x.1).i < t.s.length ∧ (crT t x.1).j < t.d.length) := by omega
        have hcx := corn_eq hx9.1 (hV.ci x.1) hfin
        have h5 := RdG.tb hx9.2
        rw [← hcx] at h5
        exact ⟨(gval (some (bO, t.s.length, [])) t.s.length, gbR rwR 22 (some (bO, t.s.length, [])) x.2 ++ rwB x.2), rfl, h5, by rw [← List.append_assoc]; exact List.sublist_append_left _ _⟩
    · skip
      refine TL.skip rfl (fun k hk => by cases hk; decide) ?_
      refine TL.skip rfl (fun k hk => by cases hk; decide) ?_
      refine TL.skip rfl (fun k hk => by cases hk; decide) ?_
      refine TL.skip rfl (fun k hk => by cases hk; decide) ?_
      refine TL.pure (PV.pickF rfl rfl) rfl (by decide) ?_
      refine TL.nil ?_
      refine TQ.thenC ?_
      refine TC.condF rfl ?_
      refine TC.exit ?_
      refine TQ.thenE ?_
      refine TQ.thenE ?_
      refine TQ.blkS ?_
      refine TQ.thenC ?_
      refine TC.seq ?_
      refine TC.region ?_
      refine TL.pure (PV.move rfl) rfl (by decide) ?_
      refine TL.pure (PV.assign rfl) rfl (by decide) ?_
      refine TL.nil ?_
      refine TQ.thenC ?_
      refine TC.ret ?_
      refine TQ.retE1 rfl rfl ?_
      have hfin : ¬ ((crT t x.1).i < t.s.length ∧ (crT t x.1).j < t.d.length) := by omega
      have hcx := corn_eq hx9.1 (hV.ci x.1) hfin
      have h5 := RdG.tb hx9.2
      rw [← hcx] at h5
      exact ⟨(gval (some (bO, t.s.length, [])) t.s.length, gbR rwR 22 (some (bO, t.s.length, [])) x.2 ++ rwB x.2), rfl, h5, by rw [← List.append_assoc]; exact List.sublist_append_left _ _⟩

end Go.Proofs.Ytghlkndanpegbaa

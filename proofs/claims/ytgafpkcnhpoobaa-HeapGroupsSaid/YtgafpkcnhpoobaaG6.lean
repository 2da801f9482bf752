/- The group: the law's contract. -/
import Derived.Test.YtgafpkcnhpoobaaGm
set_option linter.unusedVariables false
set_option linter.unusedSimpArgs false
namespace Go.Proofs.Ytgafpkcnhpoobaa
open Go.Sx Go.RowKit Go.Sand



set_option maxRecDepth 100000 in
set_option maxHeartbeats 2000000 in
theorem heapGroups_ok (w0 : World) (p : Option Addr) (cp : Nat) (ls : List (List Int)) (hr : LsAt w0 p ls) (q : Option Addr) (cq : Nat) (gs : List Int) (hg : IntsAt w0 q gs) (hln : ls.length ≤ 9223372036854775807) (pl : Option Addr) (cl : Nat) (xs : List Int) (hx : IntsAt w0 pl xs) (p2 : Option Addr) (c2 : Nat) (ys : List Int) (hy : IntsAt w0 p2 ys) :
    Calls Try.prog 13 #[hv p ls.length cp q gs.length cq, .slice pl xs.length cl, .slice p2 ys.length c2] w0 (Post (X := Unit) (fun _ => .bool true) (fun _ => True) (fun _ => []) w0) := by
  refine calls Try.func13 rfl (n := 142) rfl (by simp) ?_
  refine TC.seq ?_
  refine TC.region ?_
  refine TL.box rfl rfl (by decide) (fun b0 hb0 => ?_)
  refine TL.pure (PV.assign rfl) rfl (by decide) ?_
  refine TL.nil ?_
  refine TQ.thenC ?_
  refine TC.seq ?_
  refine TC.seq ?_
  refine TC.region ?_
  refine TL.pure (PV.loadBox rfl Tb.agg_25 (by repeat (first | exact List.Mem.head _ | refine List.Mem.tail _ ?_ | refine List.mem_append_right _ ?_)) rfl) rfl (by decide) ?_
  refine TL.pure (PV.move rfl) rfl (by decide) ?_
  refine TL.pure (PV.move rfl) rfl (by decide) ?_
  refine TL.buildSlice (cs := #[.slice pl xs.length cl, .slice p2 ys.length c2]) rfl Tb.sl_22 Tb.zi_23 (by decide) (fill_oo _ _ _ _ _ _) (by decide) rfl (by decide) (fun bS hbS => ?_)
  refine TL.call rfl Tb.gofn_20 (fun a w hs => long_ok w _ _ _ (hr.new hs.new) _ _ _ (hg.new hs.new) _ 2 [xs, ys] (LsAt.two hs.new (by repeat (first | exact List.Mem.head _ | refine List.Mem.tail _ ?_ | refine List.mem_append_right _ ?_)) (hx.new hs.new) (hy.new hs.new)) hln (by simp)) rfl (by decide) (fun bl hbl => ?_)
  refine TL.nil ?_
  refine TQ.thenC ?_
  first | refine TC.condD rfl (fun hlong => ?_) (fun hlong => ?_) | refine TC.cond rfl (fun hlong => ?_) (fun hlong => ?_)
  · skip
    refine TC.seq ?_
    refine TC.region ?_
    refine TL.call rfl Tb.gofn_21 (fun a w hs => sane_ok w) rfl (by decide) (fun _ _ => ?_)
    refine TL.pure (PV.assign rfl) rfl (by decide) ?_
    refine TL.nil ?_
    refine TQ.thenC ?_
    refine TC.ret ?_
    refine TQ.thenR ?_
    refine TQ.retE1 rfl rfl ?_
    first | exact ⟨(), rfl, trivial, List.nil_sublist _⟩ | (exfalso; simp_all; done)
  · skip
    refine TC.skip ?_
    refine TQ.thenC ?_
    refine TC.seq ?_
    have hS := hbl hlong
    have hxo : xs.length ≤ 1000000 := by have := hS.x0; omega
    have hyo : ys.length ≤ 1000000 := by have := hS.x1; omega
    refine TC.region ?_
    refine TL.pure (PV.loadBox rfl Tb.agg_25 (by repeat (first | exact List.Mem.head _ | refine List.Mem.tail _ ?_ | refine List.mem_append_right _ ?_)) rfl) rfl (by decide) ?_
    refine TL.pure (PV.move rfl) rfl (by decide) ?_
    refine TL.call rfl Tb.gofn_49 (fun a w hs => Lasting_ok w _ _ _ (hr.new hs.new) _ _ _ (hg.new hs.new) hS.lo _ _ _ (hx.new hs.new) hxo) rfl (by decide) (fun ab hab => ?_)
    refine TL.pure (PV.move rfl) rfl (by decide) ?_
    refine TL.pure (PV.extract rfl rfl) rfl (by decide) ?_
    refine TL.pure (PV.extract rfl rfl) rfl (by decide) ?_
    refine TL.pure (PV.assign rfl) rfl (by decide) ?_
    refine TL.pure (PV.assign rfl) rfl (by decide) ?_
    refine TL.nil ?_
    refine TQ.thenC ?_
    refine TC.seq ?_
    refine TC.region ?_
    refine TL.pure (PV.loadBox rfl Tb.agg_25 (by repeat (first | exact List.Mem.head _ | refine List.Mem.tail _ ?_ | refine List.mem_append_right _ ?_)) rfl) rfl (by decide) ?_
    refine TL.pure (PV.move rfl) rfl (by decide) ?_
    refine TL.call rfl Tb.gofn_49 (fun a w hs => Lasting_ok w _ _ _ (hr.new hs.new) _ _ _ (hg.new hs.new) hS.lo _ _ _ (hy.new hs.new) hyo) rfl (by decide) (fun cd hcd => ?_)
    refine TL.pure (PV.move rfl) rfl (by decide) ?_
    refine TL.pure (PV.extract rfl rfl) rfl (by decide) ?_
    refine TL.pure (PV.extract rfl rfl) rfl (by decide) ?_
    refine TL.pure (PV.assign rfl) rfl (by decide) ?_
    refine TL.pure (PV.assign rfl) rfl (by decide) ?_
    refine TL.nil ?_
    refine TQ.thenC ?_
    refine TC.seq ?_
    refine TC.region ?_
    refine TL.pure (PV.loadBox rfl Tb.agg_25 (by repeat (first | exact List.Mem.head _ | refine List.Mem.tail _ ?_ | refine List.mem_append_right _ ?_)) rfl) rfl (by decide) ?_
    refine TL.call rfl Tb.gofn_47 (fun a w hs => Zero_ok w _ _ _ (hr.new hs.new) _ _ _ (hg.new hs.new) hS.lo) rfl (by decide) (fun ze hze => ?_)
    refine TL.pure (PV.move rfl) rfl (by decide) ?_
    refine TL.pure (PV.extract rfl rfl) rfl (by decide) ?_
    refine TL.pure (PV.extract rfl rfl) rfl (by decide) ?_
    refine TL.pure (PV.assign rfl) rfl (by decide) ?_
    refine TL.pure (PV.assign rfl) rfl (by decide) ?_
    refine TL.nil ?_
    refine TQ.thenC ?_
    refine TC.seq ?_
    refine TC.seq ?_
    refine TC.region ?_
    refine TL.pure (PV.move rfl) rfl (by decide) ?_
    refine TL.pure (PV.neq rfl rfl) rfl (by decide) ?_
    refine TL.pure (PV.move rfl) rfl (by decide) ?_
    first | refine TL.splitD 50 rfl (fun g1 => ?_) (fun g1 => ?_) | refine TL.split 50 rfl (fun g1 => ?_) (fun g1 => ?_)
    · skip
      refine TL.skip rfl (fun k hk => by cases hk; decide) ?_
      refine TL.skip rfl (fun k hk => by cases hk; decide) ?_
      refine TL.pure (PV.pickT rfl rfl) rfl (by decide) ?_
      refine TL.pure (PV.move rfl) rfl (by decide) ?_
      refine TL.skip rfl (fun k hk => by cases hk; decide) ?_
      refine TL.skip rfl (fun k hk => by cases hk; decide) ?_
      refine TL.pure (PV.pickT rfl rfl) rfl (by decide) ?_
      refine TL.nil ?_
      refine TQ.thenC ?_
      refine TC.condT rfl ?_
      refine TC.seq ?_
      refine TC.region ?_
      refine TL.call rfl Tb.gofn_21 (fun a w hs => sane_ok w) rfl (by decide) (fun _ _ => ?_)
      refine TL.pure (PV.assign rfl) rfl (by decide) ?_
      refine TL.nil ?_
      refine TQ.thenC ?_
      refine TC.ret ?_
      refine TQ.thenR ?_
      refine TQ.retE1 rfl rfl ?_
      first | exact ⟨(), rfl, trivial, List.nil_sublist _⟩ | (exfalso; simp_all; done)
    · skip
      refine TL.pure (PV.move rfl) rfl (by decide) ?_
      refine TL.pure (PV.neq rfl rfl) rfl (by decide) ?_
      refine TL.pure (PV.pickF rfl rfl) rfl (by decide) ?_
      refine TL.pure (PV.move rfl) rfl (by decide) ?_
      first | refine TL.splitD 54 rfl (fun g2 => ?_) (fun g2 => ?_) | refine TL.split 54 rfl (fun g2 => ?_) (fun g2 => ?_)
      · skip
        refine TL.skip rfl (fun k hk => by cases hk; decide) ?_
        refine TL.skip rfl (fun k hk => by cases hk; decide) ?_
        refine TL.pure (PV.pickT rfl rfl) rfl (by decide) ?_
        refine TL.nil ?_
        refine TQ.thenC ?_
        refine TC.condT rfl ?_
        refine TC.seq ?_
        refine TC.region ?_
        refine TL.call rfl Tb.gofn_21 (fun a w hs => sane_ok w) rfl (by decide) (fun _ _ => ?_)
        refine TL.pure (PV.assign rfl) rfl (by decide) ?_
        refine TL.nil ?_
        refine TQ.thenC ?_
        refine TC.ret ?_
        refine TQ.thenR ?_
        refine TQ.retE1 rfl rfl ?_
        first | exact ⟨(), rfl, trivial, List.nil_sublist _⟩ | (exfalso; simp_all; done)
      · skip
        refine TL.pure (PV.move rfl) rfl (by decide) ?_
        refine TL.pure (PV.neq rfl rfl) rfl (by decide) ?_
        refine TL.pure (PV.pickF rfl rfl) rfl (by decide) ?_
        refine TL.nil ?_
        refine TQ.thenC ?_
        first | refine TC.condD rfl (fun h3 => ?_) (fun h3 => ?_) | refine TC.cond rfl (fun h3 => ?_) (fun h3 => ?_)
        · skip
          refine TC.seq ?_
          refine TC.region ?_
          refine TL.call rfl Tb.gofn_21 (fun a w hs => sane_ok w) rfl (by decide) (fun _ _ => ?_)
          refine TL.pure (PV.assign rfl) rfl (by decide) ?_
          refine TL.nil ?_
          refine TQ.thenC ?_
          refine TC.ret ?_
          refine TQ.thenR ?_
          refine TQ.retE1 rfl rfl ?_
          first | exact ⟨(), rfl, trivial, List.nil_sublist _⟩ | (exfalso; simp_all; done)
        · skip
          refine TC.skip ?_
          refine TQ.thenC ?_
          refine TC.seq ?_
          refine TC.region ?_
          refine TL.pure (PV.loadBox rfl Tb.agg_25 (by repeat (first | exact List.Mem.head _ | refine List.Mem.tail _ ?_ | refine List.mem_append_right _ ?_)) rfl) rfl (by decide) ?_
          refine TL.pure (PV.move rfl) rfl (by decide) ?_
          refine TL.pure (PV.move rfl) rfl (by decide) ?_
          refine TL.call rfl Tb.gofn_39 (fun a w hs => (by rw [gval_eq hab.2, gval_eq hcd.2]; exact Add_ok w _ _ _ (hr.new hs.new) _ _ _ (hg.new hs.new) hS.lo _ _ ab.2 (IntsAt.g (x := ab) hs.new (fun yy hyy => by repeat (first | exact List.mem_append_left _ hyy | exact List.mem_append_left _ (List.mem_append_right _ hyy) | exact List.mem_append_left _ (List.mem_append_left _ hyy) | refine List.mem_append_right _ ?_ | refine List.Mem.tail _ ?_)) hab.2) (hab.1.len) _ _ cd.2 (IntsAt.g (x := cd) hs.new (fun yy hyy => by repeat (first | exact List.mem_append_left _ hyy | exact List.mem_append_left _ (List.mem_append_right _ hyy) | exact List.mem_append_left _ (List.mem_append_left _ hyy) | refine List.mem_append_right _ ?_ | refine List.Mem.tail _ ?_)) hcd.2) (hcd.1.len))) rfl (by decide) (fun su hsu => ?_)
          refine TL.pure (PV.move rfl) rfl (by decide) ?_
          refine TL.pure (PV.extract rfl rfl) rfl (by decide) ?_
          refine TL.pure (PV.extract rfl rfl) rfl (by decide) ?_
          refine TL.pure (PV.assign rfl) rfl (by decide) ?_
          refine TL.pure (PV.assign rfl) rfl (by decide) ?_
          refine TL.nil ?_
          refine TQ.thenC ?_
          refine TC.seq ?_
          refine TC.region ?_
          refine TL.pure (PV.loadBox rfl Tb.agg_25 (by repeat (first | exact List.Mem.head _ | refine List.Mem.tail _ ?_ | refine List.mem_append_right _ ?_)) rfl) rfl (by decide) ?_
          refine TL.pure (PV.move rfl) rfl (by decide) ?_
          refine TL.call rfl Tb.gofn_41 (fun a w hs => (by rw [gval_eq hsu.2]; exact Lasts_ok w _ _ _ (hr.new hs.new) _ _ _ (hg.new hs.new) hS.lo _ _ su.2 (IntsAt.g (x := su) hs.new (fun yy hyy => by repeat (first | exact List.mem_append_left _ hyy | exact List.mem_append_left _ (List.mem_append_right _ hyy) | exact List.mem_append_left _ (List.mem_append_left _ hyy) | refine List.mem_append_right _ ?_ | refine List.Mem.tail _ ?_)) hsu.2) (hsu.1.len))) rfl (by decide) (fun b9 hb9 => ?_)
          refine TL.pure (PV.move rfl) rfl (by decide) ?_
          refine TL.pure (PV.extract rfl rfl) rfl (by decide) ?_
          refine TL.pure (PV.extract rfl rfl) rfl (by decide) ?_
          refine TL.pure (PV.assign rfl) rfl (by decide) ?_
          refine TL.pure (PV.assign rfl) rfl (by decide) ?_
          refine TL.nil ?_
          refine TQ.thenC ?_
          refine TC.seq ?_
          refine TC.region ?_
          refine TL.pure (PV.loadBox rfl Tb.agg_25 (by repeat (first | exact List.Mem.head _ | refine List.Mem.tail _ ?_ | refine List.mem_append_right _ ?_)) rfl) rfl (by decide) ?_
          refine TL.pure (PV.move rfl) rfl (by decide) ?_
          refine TL.pure (PV.move rfl) rfl (by decide) ?_
          refine TL.call rfl Tb.gofn_39 (fun a w hs => (by rw [gval_eq hab.2, gval_eq hze.2]; exact Add_ok w _ _ _ (hr.new hs.new) _ _ _ (hg.new hs.new) hS.lo _ _ ab.2 (IntsAt.g (x := ab) hs.new (fun yy hyy => by repeat (first | exact List.mem_append_left _ hyy | exact List.mem_append_left _ (List.mem_append_right _ hyy) | exact List.mem_append_left _ (List.mem_append_left _ hyy) | refine List.mem_append_right _ ?_ | refine List.Mem.tail _ ?_)) hab.2) (hab.1.len) _ _ ze.2 (IntsAt.g (x := ze) hs.new (fun yy hyy => by repeat (first | exact List.mem_append_left _ hyy | exact List.mem_append_left _ (List.mem_append_right _ hyy) | exact List.mem_append_left _ (List.mem_append_left _ hyy) | refine List.mem_append_right _ ?_ | refine List.Mem.tail _ ?_)) hze.2) (hze.1.len))) rfl (by decide) (fun sa hsa => ?_)
          refine TL.pure (PV.move rfl) rfl (by decide) ?_
          refine TL.pure (PV.extract rfl rfl) rfl (by decide) ?_
          refine TL.pure (PV.extract rfl rfl) rfl (by decide) ?_
          refine TL.pure (PV.assign rfl) rfl (by decide) ?_
          refine TL.pure (PV.assign rfl) rfl (by decide) ?_
          refine TL.nil ?_
          refine TQ.thenC ?_
          refine TC.seq ?_
          refine TC.region ?_
          refine TL.pure (PV.loadBox rfl Tb.agg_25 (by repeat (first | exact List.Mem.head _ | refine List.Mem.tail _ ?_ | refine List.mem_append_right _ ?_)) rfl) rfl (by decide) ?_
          refine TL.pure (PV.move rfl) rfl (by decide) ?_
          refine TL.call rfl Tb.gofn_50 (fun a w hs => (by rw [gval_eq hab.2]; exact Back_ok w _ _ _ (hr.new hs.new) _ _ _ (hg.new hs.new) hS.lo _ _ ab.2 (IntsAt.g (x := ab) hs.new (fun yy hyy => by repeat (first | exact List.mem_append_left _ hyy | exact List.mem_append_left _ (List.mem_append_right _ hyy) | exact List.mem_append_left _ (List.mem_append_left _ hyy) | refine List.mem_append_right _ ?_ | refine List.Mem.tail _ ?_)) hab.2) (hab.1.len))) rfl (by decide) (fun ba hba => ?_)
          refine TL.pure (PV.move rfl) rfl (by decide) ?_
          refine TL.pure (PV.extract rfl rfl) rfl (by decide) ?_
          refine TL.pure (PV.extract rfl rfl) rfl (by decide) ?_
          refine TL.pure (PV.assign rfl) rfl (by decide) ?_
          refine TL.pure (PV.assign rfl) rfl (by decide) ?_
          refine TL.nil ?_
          refine TQ.thenC ?_
          refine TC.seq ?_
          refine TC.region ?_
          refine TL.pure (PV.loadBox rfl Tb.agg_25 (by repeat (first | exact List.Mem.head _ | refine List.Mem.tail _ ?_ | refine List.mem_append_right _ ?_)) rfl) rfl (by decide) ?_
          refine TL.pure (PV.move rfl) rfl (by decide) ?_
          refine TL.pure (PV.move rfl) rfl (by decide) ?_
          refine TL.call rfl Tb.gofn_39 (fun a w hs => (by rw [gval_eq hab.2, gval_eq hba.2]; exact Add_ok w _ _ _ (hr.new hs.new) _ _ _ (hg.new hs.new) hS.lo _ _ ab.2 (IntsAt.g (x := ab) hs.new (fun yy hyy => by repeat (first | exact List.mem_append_left _ hyy | exact List.mem_append_left _ (List.mem_append_right _ hyy) | exact List.mem_append_left _ (List.mem_append_left _ hyy) | refine List.mem_append_right _ ?_ | refine List.Mem.tail _ ?_)) hab.2) (hab.1.len) _ _ ba.2 (IntsAt.g (x := ba) hs.new (fun yy hyy => by repeat (first | exact List.mem_append_left _ hyy | exact List.mem_append_left _ (List.mem_append_right _ hyy) | exact List.mem_append_left _ (List.mem_append_left _ hyy) | refine List.mem_append_right _ ?_ | refine List.Mem.tail _ ?_)) hba.2) (hba.1.len))) rfl (by decide) (fun no hno => ?_)
          refine TL.pure (PV.move rfl) rfl (by decide) ?_
          refine TL.pure (PV.extract rfl rfl) rfl (by decide) ?_
          refine TL.pure (PV.extract rfl rfl) rfl (by decide) ?_
          refine TL.pure (PV.assign rfl) rfl (by decide) ?_
          refine TL.pure (PV.assign rfl) rfl (by decide) ?_
          refine TL.nil ?_
          refine TQ.thenC ?_
          refine TC.seq ?_
          refine TC.region ?_
          refine TL.pure (PV.loadBox rfl Tb.agg_25 (by repeat (first | exact List.Mem.head _ | refine List.Mem.tail _ ?_ | refine List.mem_append_right _ ?_)) rfl) rfl (by decide) ?_
          refine TL.pure (PV.move rfl) rfl (by decide) ?_
          refine TL.pure (PV.move rfl) rfl (by decide) ?_
          refine TL.call rfl Tb.gofn_39 (fun a w hs => (by rw [gval_eq hsu.2, gval_eq hba.2]; exact Add_ok w _ _ _ (hr.new hs.new) _ _ _ (hg.new hs.new) hS.lo _ _ su.2 (IntsAt.g (x := su) hs.new (fun yy hyy => by repeat (first | exact List.mem_append_left _ hyy | exact List.mem_append_left _ (List.mem_append_right _ hyy) | exact List.mem_append_left _ (List.mem_append_left _ hyy) | refine List.mem_append_right _ ?_ | refine List.Mem.tail _ ?_)) hsu.2) (hsu.1.len) _ _ ba.2 (IntsAt.g (x := ba) hs.new (fun yy hyy => by repeat (first | exact List.mem_append_left _ hyy | exact List.mem_append_left _ (List.mem_append_right _ hyy) | exact List.mem_append_left _ (List.mem_append_left _ hyy) | refine List.mem_append_right _ ?_ | refine List.Mem.tail _ ?_)) hba.2) (hba.1.len))) rfl (by decide) (fun un hun => ?_)
          refine TL.pure (PV.move rfl) rfl (by decide) ?_
          refine TL.pure (PV.extract rfl rfl) rfl (by decide) ?_
          refine TL.pure (PV.extract rfl rfl) rfl (by decide) ?_
          refine TL.pure (PV.assign rfl) rfl (by decide) ?_
          refine TL.pure (PV.assign rfl) rfl (by decide) ?_
          refine TL.nil ?_
          refine TQ.thenC ?_
          refine TC.seq ?_
          obtain ⟨e1, e2, e3, e4, e5, e6, e7, e8, e9, e10⟩ := groups (by simpa using g1) (by simpa using g2) hab.1 hcd.1 hze.1 hsu.1 hb9 hsa.1 hba.1 hno.1 hun.1
          refine TC.region ?_
          refine TL.pure (PV.move rfl) rfl (by decide) ?_
          refine TL.pure (PV.eql rfl rfl) rfl (by decide) ?_
          refine TL.pure (PV.move rfl) rfl (by decide) ?_
          first | refine TL.splitD 101 rfl (fun h4 => ?_) (fun h4 => ?_) | refine TL.split 101 rfl (fun h4 => ?_) (fun h4 => ?_)
          · skip
            refine TL.pure (PV.move rfl) rfl (by decide) ?_
            refine TL.pure (PV.eql rfl rfl) rfl (by decide) ?_
            refine TL.pure (PV.pickT rfl rfl) rfl (by decide) ?_
            refine TL.pure (PV.move rfl) rfl (by decide) ?_
            first | refine TL.splitD 105 rfl (fun h5 => ?_) (fun h5 => ?_) | refine TL.split 105 rfl (fun h5 => ?_) (fun h5 => ?_)
            · skip
              refine TL.pure (PV.move rfl) rfl (by decide) ?_
              refine TL.pure (PV.pickT rfl rfl) rfl (by decide) ?_
              refine TL.pure (PV.move rfl) rfl (by decide) ?_
              first | refine TL.splitD 108 rfl (fun h6 => ?_) (fun h6 => ?_) | refine TL.split 108 rfl (fun h6 => ?_) (fun h6 => ?_)
              · skip
                refine TL.pure (PV.move rfl) rfl (by decide) ?_
                refine TL.pure (PV.eql rfl rfl) rfl (by decide) ?_
                refine TL.pure (PV.pickT rfl rfl) rfl (by decide) ?_
                refine TL.pure (PV.move rfl) rfl (by decide) ?_
                first | refine TL.splitD 112 rfl (fun h7 => ?_) (fun h7 => ?_) | refine TL.split 112 rfl (fun h7 => ?_) (fun h7 => ?_)
                · skip
                  refine TL.pure (PV.move rfl) rfl (by decide) ?_
                  refine TL.pure (PV.move rfl) rfl (by decide) ?_
                  refine TL.call rfl Tb.gofn_30 (fun a w hs => sameGG w (sa.1) (sa.2) hsa.2 (IntsAt.g (x := (sa.1, sa.2)) hs.new (fun yy hyy => by repeat (first | exact List.mem_append_left _ hyy | exact List.mem_append_left _ (List.mem_append_right _ hyy) | exact List.mem_append_left _ (List.mem_append_left _ hyy) | refine List.mem_append_right _ ?_ | refine List.Mem.tail _ ?_)) hsa.2) (ab.1) (ab.2) hab.2 (IntsAt.g (x := (ab.1, ab.2)) hs.new (fun yy hyy => by repeat (first | exact List.mem_append_left _ hyy | exact List.mem_append_left _ (List.mem_append_right _ hyy) | exact List.mem_append_left _ (List.mem_append_left _ hyy) | refine List.mem_append_right _ ?_ | refine List.Mem.tail _ ?_)) hab.2) hsa.1.len hab.1.len) rfl (by decide) (fun _ _ => ?_)
                  refine TL.pure (PV.pickT rfl rfl) rfl (by decide) ?_
                  refine TL.pure (PV.move rfl) rfl (by decide) ?_
                  first | refine TL.splitD 117 rfl (fun h8 => ?_) (fun h8 => ?_) | refine TL.split 117 rfl (fun h8 => ?_) (fun h8 => ?_)
                  · skip
                    refine TL.pure (PV.move rfl) rfl (by decide) ?_
                    refine TL.pure (PV.eql rfl rfl) rfl (by decide) ?_
                    refine TL.pure (PV.pickT rfl rfl) rfl (by decide) ?_
                    refine TL.pure (PV.move rfl) rfl (by decide) ?_
                    first | refine TL.splitD 121 rfl (fun h9 => ?_) (fun h9 => ?_) | refine TL.split 121 rfl (fun h9 => ?_) (fun h9 => ?_)
                    · skip
                      refine TL.pure (PV.move rfl) rfl (by decide) ?_
                      refine TL.pure (PV.eql rfl rfl) rfl (by decide) ?_
                      refine TL.pure (PV.pickT rfl rfl) rfl (by decide) ?_
                      refine TL.pure (PV.move rfl) rfl (by decide) ?_
                      first | refine TL.splitD 125 rfl (fun h10 => ?_) (fun h10 => ?_) | refine TL.split 125 rfl (fun h10 => ?_) (fun h10 => ?_)
                      · skip
                        refine TL.pure (PV.move rfl) rfl (by decide) ?_
                        refine TL.pure (PV.move rfl) rfl (by decide) ?_
                        refine TL.call rfl Tb.gofn_30 (fun a w hs => sameGG w (no.1) (no.2) hno.2 (IntsAt.g (x := (no.1, no.2)) hs.new (fun yy hyy => by repeat (first | exact List.mem_append_left _ hyy | exact List.mem_append_left _ (List.mem_append_right _ hyy) | exact List.mem_append_left _ (List.mem_append_left _ hyy) | refine List.mem_append_right _ ?_ | refine List.Mem.tail _ ?_)) hno.2) (ze.1) (ze.2) hze.2 (IntsAt.g (x := (ze.1, ze.2)) hs.new (fun yy hyy => by repeat (first | exact List.mem_append_left _ hyy | exact List.mem_append_left _ (List.mem_append_right _ hyy) | exact List.mem_append_left _ (List.mem_append_left _ hyy) | refine List.mem_append_right _ ?_ | refine List.Mem.tail _ ?_)) hze.2) hno.1.len hze.1.len) rfl (by decide) (fun _ _ => ?_)
                        refine TL.pure (PV.pickT rfl rfl) rfl (by decide) ?_
                        refine TL.pure (PV.move rfl) rfl (by decide) ?_
                        first | refine TL.splitD 130 rfl (fun h11 => ?_) (fun h11 => ?_) | refine TL.split 130 rfl (fun h11 => ?_) (fun h11 => ?_)
                        · skip
                          refine TL.pure (PV.move rfl) rfl (by decide) ?_
                          refine TL.pure (PV.eql rfl rfl) rfl (by decide) ?_
                          refine TL.pure (PV.pickT rfl rfl) rfl (by decide) ?_
                          refine TL.pure (PV.move rfl) rfl (by decide) ?_
                          first | refine TL.splitD 134 rfl (fun h12 => ?_) (fun h12 => ?_) | refine TL.split 134 rfl (fun h12 => ?_) (fun h12 => ?_)
                          · skip
                            refine TL.pure (PV.move rfl) rfl (by decide) ?_
                            refine TL.pure (PV.move rfl) rfl (by decide) ?_
                            refine TL.call rfl Tb.gofn_30 (fun a w hs => sameGG w (un.1) (un.2) hun.2 (IntsAt.g (x := (un.1, un.2)) hs.new (fun yy hyy => by repeat (first | exact List.mem_append_left _ hyy | exact List.mem_append_left _ (List.mem_append_right _ hyy) | exact List.mem_append_left _ (List.mem_append_left _ hyy) | refine List.mem_append_right _ ?_ | refine List.Mem.tail _ ?_)) hun.2) (cd.1) (cd.2) hcd.2 (IntsAt.g (x := (cd.1, cd.2)) hs.new (fun yy hyy => by repeat (first | exact List.mem_append_left _ hyy | exact List.mem_append_left _ (List.mem_append_right _ hyy) | exact List.mem_append_left _ (List.mem_append_left _ hyy) | refine List.mem_append_right _ ?_ | refine List.Mem.tail _ ?_)) hcd.2) hun.1.len hcd.1.len) rfl (by decide) (fun _ _ => ?_)
                            refine TL.pure (PV.pickT rfl rfl) rfl (by decide) ?_
                            refine TL.pure (PV.move rfl) rfl (by decide) ?_
                            first | refine TL.splitD 139 rfl (fun h13 => ?_) (fun h13 => ?_) | refine TL.split 139 rfl (fun h13 => ?_) (fun h13 => ?_)
                            · skip
                              refine TL.call rfl Tb.gofn_21 (fun a w hs => sane_ok w) rfl (by decide) (fun _ _ => ?_)
                              refine TL.pure (PV.pickT rfl rfl) rfl (by decide) ?_
                              refine TL.pure (PV.assign rfl) rfl (by decide) ?_
                              refine TL.nil ?_
                              refine TQ.thenC ?_
                              refine TC.ret ?_
                              refine TQ.retE1 rfl rfl ?_
                              first | exact ⟨(), rfl, trivial, List.nil_sublist _⟩ | (exfalso; simp_all; done)
                            · skip
                              refine TL.skip rfl (fun k hk => by cases hk; decide) ?_
                              refine TL.pure (PV.pickF rfl rfl) rfl (by decide) ?_
                              refine TL.pure (PV.assign rfl) rfl (by decide) ?_
                              refine TL.nil ?_
                              refine TQ.thenC ?_
                              refine TC.ret ?_
                              refine TQ.retE1 rfl rfl ?_
                              first | exact ⟨(), rfl, trivial, List.nil_sublist _⟩ | (exfalso; simp_all; done)
                          · skip
                            refine TL.skip rfl (fun k hk => by cases hk; decide) ?_
                            refine TL.skip rfl (fun k hk => by cases hk; decide) ?_
                            refine TL.skip rfl (fun k hk => by cases hk; decide) ?_
                            refine TL.pure (PV.pickF rfl rfl) rfl (by decide) ?_
                            refine TL.pure (PV.move rfl) rfl (by decide) ?_
                            refine TL.skip rfl (fun k hk => by cases hk; decide) ?_
                            refine TL.pure (PV.pickF rfl rfl) rfl (by decide) ?_
                            refine TL.pure (PV.assign rfl) rfl (by decide) ?_
                            refine TL.nil ?_
                            refine TQ.thenC ?_
                            refine TC.ret ?_
                            refine TQ.retE1 rfl rfl ?_
                            first | exact ⟨(), rfl, trivial, List.nil_sublist _⟩ | (exfalso; simp_all; done)
                        · skip
                          refine TL.skip rfl (fun k hk => by cases hk; decide) ?_
                          refine TL.skip rfl (fun k hk => by cases hk; decide) ?_
                          refine TL.pure (PV.pickF rfl rfl) rfl (by decide) ?_
                          refine TL.pure (PV.move rfl) rfl (by decide) ?_
                          refine TL.skip rfl (fun k hk => by cases hk; decide) ?_
                          refine TL.skip rfl (fun k hk => by cases hk; decide) ?_
                          refine TL.skip rfl (fun k hk => by cases hk; decide) ?_
                          refine TL.pure (PV.pickF rfl rfl) rfl (by decide) ?_
                          refine TL.pure (PV.move rfl) rfl (by decide) ?_
                          refine TL.skip rfl (fun k hk => by cases hk; decide) ?_
                          refine TL.pure (PV.pickF rfl rfl) rfl (by decide) ?_
                          refine TL.pure (PV.assign rfl) rfl (by decide) ?_
                          refine TL.nil ?_
                          refine TQ.thenC ?_
                          refine TC.ret ?_
                          refine TQ.retE1 rfl rfl ?_
                          first | exact ⟨(), rfl, trivial, List.nil_sublist _⟩ | (exfalso; simp_all; done)
                      · skip
                        refine TL.skip rfl (fun k hk => by cases hk; decide) ?_
                        refine TL.skip rfl (fun k hk => by cases hk; decide) ?_
                        refine TL.skip rfl (fun k hk => by cases hk; decide) ?_
                        refine TL.pure (PV.pickF rfl rfl) rfl (by decide) ?_
                        refine TL.pure (PV.move rfl) rfl (by decide) ?_
                        refine TL.skip rfl (fun k hk => by cases hk; decide) ?_
                        refine TL.skip rfl (fun k hk => by cases hk; decide) ?_
                        refine TL.pure (PV.pickF rfl rfl) rfl (by decide) ?_
                        refine TL.pure (PV.move rfl) rfl (by decide) ?_
                        refine TL.skip rfl (fun k hk => by cases hk; decide) ?_
                        refine TL.skip rfl (fun k hk => by cases hk; decide) ?_
                        refine TL.skip rfl (fun k hk => by cases hk; decide) ?_
                        refine TL.pure (PV.pickF rfl rfl) rfl (by decide) ?_
                        refine TL.pure (PV.move rfl) rfl (by decide) ?_
                        refine TL.skip rfl (fun k hk => by cases hk; decide) ?_
                        refine TL.pure (PV.pickF rfl rfl) rfl (by decide) ?_
                        refine TL.pure (PV.assign rfl) rfl (by decide) ?_
                        refine TL.nil ?_
                        refine TQ.thenC ?_
                        refine TC.ret ?_
                        refine TQ.retE1 rfl rfl ?_
                        first | exact ⟨(), rfl, trivial, List.nil_sublist _⟩ | (exfalso; simp_all; done)
                    · skip
                      refine TL.skip rfl (fun k hk => by cases hk; decide) ?_
                      refine TL.skip rfl (fun k hk => by cases hk; decide) ?_
                      refine TL.pure (PV.pickF rfl rfl) rfl (by decide) ?_
                      refine TL.pure (PV.move rfl) rfl (by decide) ?_
                      refine TL.skip rfl (fun k hk => by cases hk; decide) ?_
                      refine TL.skip rfl (fun k hk => by cases hk; decide) ?_
                      refine TL.skip rfl (fun k hk => by cases hk; decide) ?_
                      refine TL.pure (PV.pickF rfl rfl) rfl (by decide) ?_
                      refine TL.pure (PV.move rfl) rfl (by decide) ?_
                      refine TL.skip rfl (fun k hk => by cases hk; decide) ?_
                      refine TL.skip rfl (fun k hk => by cases hk; decide) ?_
                      refine TL.pure (PV.pickF rfl rfl) rfl (by decide) ?_
                      refine TL.pure (PV.move rfl) rfl (by decide) ?_
                      refine TL.skip rfl (fun k hk => by cases hk; decide) ?_
                      refine TL.skip rfl (fun k hk => by cases hk; decide) ?_
                      refine TL.skip rfl (fun k hk => by cases hk; decide) ?_
                      refine TL.pure (PV.pickF rfl rfl) rfl (by decide) ?_
                      refine TL.pure (PV.move rfl) rfl (by decide) ?_
                      refine TL.skip rfl (fun k hk => by cases hk; decide) ?_
                      refine TL.pure (PV.pickF rfl rfl) rfl (by decide) ?_
                      refine TL.pure (PV.assign rfl) rfl (by decide) ?_
                      refine TL.nil ?_
                      refine TQ.thenC ?_
                      refine TC.ret ?_
                      refine TQ.retE1 rfl rfl ?_
                      first | exact ⟨(), rfl, trivial, List.nil_sublist _⟩ | (exfalso; simp_all; done)
                  · skip
                    refine TL.skip rfl (fun k hk => by cases hk; decide) ?_
                    refine TL.skip rfl (fun k hk => by cases hk; decide) ?_
                    refine TL.pure (PV.pickF rfl rfl) rfl (by decide) ?_
                    refine TL.pure (PV.move rfl) rfl (by decide) ?_
                    refine TL.skip rfl (fun k hk => by cases hk; decide) ?_
                    refine TL.skip rfl (fun k hk => by cases hk; decide) ?_
                    refine TL.pure (PV.pickF rfl rfl) rfl (by decide) ?_
                    refine TL.pure (PV.move rfl) rfl (by decide) ?_
                    refine TL.skip rfl (fun k hk => by cases hk; decide) ?_
                    refine TL.skip rfl (fun k hk => by cases hk; decide) ?_
                    refine TL.skip rfl (fun k hk => by cases hk; decide) ?_
                    refine TL.pure (PV.pickF rfl rfl) rfl (by decide) ?_
                    refine TL.pure (PV.move rfl) rfl (by decide) ?_
                    refine TL.skip rfl (fun k hk => by cases hk; decide) ?_
                    refine TL.skip rfl (fun k hk => by cases hk; decide) ?_
                    refine TL.pure (PV.pickF rfl rfl) rfl (by decide) ?_
                    refine TL.pure (PV.move rfl) rfl (by decide) ?_
                    refine TL.skip rfl (fun k hk => by cases hk; decide) ?_
                    refine TL.skip rfl (fun k hk => by cases hk; decide) ?_
                    refine TL.skip rfl (fun k hk => by cases hk; decide) ?_
                    refine TL.pure (PV.pickF rfl rfl) rfl (by decide) ?_
                    refine TL.pure (PV.move rfl) rfl (by decide) ?_
                    refine TL.skip rfl (fun k hk => by cases hk; decide) ?_
                    refine TL.pure (PV.pickF rfl rfl) rfl (by decide) ?_
                    refine TL.pure (PV.assign rfl) rfl (by decide) ?_
                    refine TL.nil ?_
                    refine TQ.thenC ?_
                    refine TC.ret ?_
                    refine TQ.retE1 rfl rfl ?_
                    first | exact ⟨(), rfl, trivial, List.nil_sublist _⟩ | (exfalso; simp_all; done)
                · skip
                  refine TL.skip rfl (fun k hk => by cases hk; decide) ?_
                  refine TL.skip rfl (fun k hk => by cases hk; decide) ?_
                  refine TL.skip rfl (fun k hk => by cases hk; decide) ?_
                  refine TL.pure (PV.pickF rfl rfl) rfl (by decide) ?_
                  refine TL.pure (PV.move rfl) rfl (by decide) ?_
                  refine TL.skip rfl (fun k hk => by cases hk; decide) ?_
                  refine TL.skip rfl (fun k hk => by cases hk; decide) ?_
                  refine TL.pure (PV.pickF rfl rfl) rfl (by decide) ?_
                  refine TL.pure (PV.move rfl) rfl (by decide) ?_
                  refine TL.skip rfl (fun k hk => by cases hk; decide) ?_
                  refine TL.skip rfl (fun k hk => by cases hk; decide) ?_
                  refine TL.pure (PV.pickF rfl rfl) rfl (by decide) ?_
                  refine TL.pure (PV.move rfl) rfl (by decide) ?_
                  refine TL.skip rfl (fun k hk => by cases hk; decide) ?_
                  refine TL.skip rfl (fun k hk => by cases hk; decide) ?_
                  refine TL.skip rfl (fun k hk => by cases hk; decide) ?_
                  refine TL.pure (PV.pickF rfl rfl) rfl (by decide) ?_
                  refine TL.pure (PV.move rfl) rfl (by decide) ?_
                  refine TL.skip rfl (fun k hk => by cases hk; decide) ?_
                  refine TL.skip rfl (fun k hk => by cases hk; decide) ?_
                  refine TL.pure (PV.pickF rfl rfl) rfl (by decide) ?_
                  refine TL.pure (PV.move rfl) rfl (by decide) ?_
                  refine TL.skip rfl (fun k hk => by cases hk; decide) ?_
                  refine TL.skip rfl (fun k hk => by cases hk; decide) ?_
                  refine TL.skip rfl (fun k hk => by cases hk; decide) ?_
                  refine TL.pure (PV.pickF rfl rfl) rfl (by decide) ?_
                  refine TL.pure (PV.move rfl) rfl (by decide) ?_
                  refine TL.skip rfl (fun k hk => by cases hk; decide) ?_
                  refine TL.pure (PV.pickF rfl rfl) rfl (by decide) ?_
                  refine TL.pure (PV.assign rfl) rfl (by decide) ?_
                  refine TL.nil ?_
                  refine TQ.thenC ?_
                  refine TC.ret ?_
                  refine TQ.retE1 rfl rfl ?_
                  first | exact ⟨(), rfl, trivial, List.nil_sublist _⟩ | (exfalso; simp_all; done)
              · skip
                refine TL.skip rfl (fun k hk => by cases hk; decide) ?_
                refine TL.skip rfl (fun k hk => by cases hk; decide) ?_
                refine TL.pure (PV.pickF rfl rfl) rfl (by decide) ?_
                refine TL.pure (PV.move rfl) rfl (by decide) ?_
                refine TL.skip rfl (fun k hk => by cases hk; decide) ?_
                refine TL.skip rfl (fun k hk => by cases hk; decide) ?_
                refine TL.skip rfl (fun k hk => by cases hk; decide) ?_
                refine TL.pure (PV.pickF rfl rfl) rfl (by decide) ?_
                refine TL.pure (PV.move rfl) rfl (by decide) ?_
                refine TL.skip rfl (fun k hk => by cases hk; decide) ?_
                refine TL.skip rfl (fun k hk => by cases hk; decide) ?_
                refine TL.pure (PV.pickF rfl rfl) rfl (by decide) ?_
                refine TL.pure (PV.move rfl) rfl (by decide) ?_
                refine TL.skip rfl (fun k hk => by cases hk; decide) ?_
                refine TL.skip rfl (fun k hk => by cases hk; decide) ?_
                refine TL.pure (PV.pickF rfl rfl) rfl (by decide) ?_
                refine TL.pure (PV.move rfl) rfl (by decide) ?_
                refine TL.skip rfl (fun k hk => by cases hk; decide) ?_
                refine TL.skip rfl (fun k hk => by cases hk; decide) ?_
                refine TL.skip rfl (fun k hk => by cases hk; decide) ?_
                refine TL.pure (PV.pickF rfl rfl) rfl (by decide) ?_
                refine TL.pure (PV.move rfl) rfl (by decide) ?_
                refine TL.skip rfl (fun k hk => by cases hk; decide) ?_
                refine TL.skip rfl (fun k hk => by cases hk; decide) ?_
                refine TL.pure (PV.pickF rfl rfl) rfl (by decide) ?_
                refine TL.pure (PV.move rfl) rfl (by decide) ?_
                refine TL.skip rfl (fun k hk => by cases hk; decide) ?_
                refine TL.skip rfl (fun k hk => by cases hk; decide) ?_
                refine TL.skip rfl (fun k hk => by cases hk; decide) ?_
                refine TL.pure (PV.pickF rfl rfl) rfl (by decide) ?_
                refine TL.pure (PV.move rfl) rfl (by decide) ?_
                refine TL.skip rfl (fun k hk => by cases hk; decide) ?_
                refine TL.pure (PV.pickF rfl rfl) rfl (by decide) ?_
                refine TL.pure (PV.assign rfl) rfl (by decide) ?_
                refine TL.nil ?_
                refine TQ.thenC ?_
                refine TC.ret ?_
                refine TQ.retE1 rfl rfl ?_
                first | exact ⟨(), rfl, trivial, List.nil_sublist _⟩ | (exfalso; simp_all; done)
            · skip
              refine TL.skip rfl (fun k hk => by cases hk; decide) ?_
              refine TL.pure (PV.pickF rfl rfl) rfl (by decide) ?_
              refine TL.pure (PV.move rfl) rfl (by decide) ?_
              refine TL.skip rfl (fun k hk => by cases hk; decide) ?_
              refine TL.skip rfl (fun k hk => by cases hk; decide) ?_
              refine TL.pure (PV.pickF rfl rfl) rfl (by decide) ?_
              refine TL.pure (PV.move rfl) rfl (by decide) ?_
              refine TL.skip rfl (fun k hk => by cases hk; decide) ?_
              refine TL.skip rfl (fun k hk => by cases hk; decide) ?_
              refine TL.skip rfl (fun k hk => by cases hk; decide) ?_
              refine TL.pure (PV.pickF rfl rfl) rfl (by decide) ?_
              refine TL.pure (PV.move rfl) rfl (by decide) ?_
              refine TL.skip rfl (fun k hk => by cases hk; decide) ?_
              refine TL.skip rfl (fun k hk => by cases hk; decide) ?_
              refine TL.pure (PV.pickF rfl rfl) rfl (by decide) ?_
              refine TL.pure (PV.move rfl) rfl (by decide) ?_
              refine TL.skip rfl (fun k hk => by cases hk; decide) ?_
              refine TL.skip rfl (fun k hk => by cases hk; decide) ?_
              refine TL.pure (PV.pickF rfl rfl) rfl (by decide) ?_
              refine TL.pure (PV.move rfl) rfl (by decide) ?_
              refine TL.skip rfl (fun k hk => by cases hk; decide) ?_
              refine TL.skip rfl (fun k hk => by cases hk; decide) ?_
              refine TL.skip rfl (fun k hk => by cases hk; decide) ?_
              refine TL.pure (PV.pickF rfl rfl) rfl (by decide) ?_
              refine TL.pure (PV.move rfl) rfl (by decide) ?_
              refine TL.skip rfl (fun k hk => by cases hk; decide) ?_
              refine TL.skip rfl (fun k hk => by cases hk; decide) ?_
              refine TL.pure (PV.pickF rfl rfl) rfl (by decide) ?_
              refine TL.pure (PV.move rfl) rfl (by decide) ?_
              refine TL.skip rfl (fun k hk => by cases hk; decide) ?_
              refine TL.skip rfl (fun k hk => by cases hk; decide) ?_
              refine TL.skip rfl (fun k hk => by cases hk; decide) ?_
              refine TL.pure (PV.pickF rfl rfl) rfl (by decide) ?_
              refine TL.pure (PV.move rfl) rfl (by decide) ?_
              refine TL.skip rfl (fun k hk => by cases hk; decide) ?_
              refine TL.pure (PV.pickF rfl rfl) rfl (by decide) ?_
              refine TL.pure (PV.assign rfl) rfl (by decide) ?_
              refine TL.nil ?_
              refine TQ.thenC ?_
              refine TC.ret ?_
              refine TQ.retE1 rfl rfl ?_
              first | exact ⟨(), rfl, trivial, List.nil_sublist _⟩ | (exfalso; simp_all; done)
          · skip
            refine TL.skip rfl (fun k hk => by cases hk; decide) ?_
            refine TL.skip rfl (fun k hk => by cases hk; decide) ?_
            refine TL.pure (PV.pickF rfl rfl) rfl (by decide) ?_
            refine TL.pure (PV.move rfl) rfl (by decide) ?_
            refine TL.skip rfl (fun k hk => by cases hk; decide) ?_
            refine TL.pure (PV.pickF rfl rfl) rfl (by decide) ?_
            refine TL.pure (PV.move rfl) rfl (by decide) ?_
            refine TL.skip rfl (fun k hk => by cases hk; decide) ?_
            refine TL.skip rfl (fun k hk => by cases hk; decide) ?_
            refine TL.pure (PV.pickF rfl rfl) rfl (by decide) ?_
            refine TL.pure (PV.move rfl) rfl (by decide) ?_
            refine TL.skip rfl (fun k hk => by cases hk; decide) ?_
            refine TL.skip rfl (fun k hk => by cases hk; decide) ?_
            refine TL.skip rfl (fun k hk => by cases hk; decide) ?_
            refine TL.pure (PV.pickF rfl rfl) rfl (by decide) ?_
            refine TL.pure (PV.move rfl) rfl (by decide) ?_
            refine TL.skip rfl (fun k hk => by cases hk; decide) ?_
            refine TL.skip rfl (fun k hk => by cases hk; decide) ?_
            refine TL.pure (PV.pickF rfl rfl) rfl (by decide) ?_
            refine TL.pure (PV.move rfl) rfl (by decide) ?_
            refine TL.skip rfl (fun k hk => by cases hk; decide) ?_
            refine TL.skip rfl (fun k hk => by cases hk; decide) ?_
            refine TL.pure (PV.pickF rfl rfl) rfl (by decide) ?_
            refine TL.pure (PV.move rfl) rfl (by decide) ?_
            refine TL.skip rfl (fun k hk => by cases hk; decide) ?_
            refine TL.skip rfl (fun k hk => by cases hk; decide) ?_
            refine TL.skip rfl (fun k hk => by cases hk; decide) ?_
            refine TL.pure (PV.pickF rfl rfl) rfl (by decide) ?_
            refine TL.pure (PV.move rfl) rfl (by decide) ?_
            refine TL.skip rfl (fun k hk => by cases hk; decide) ?_
            refine TL.skip rfl (fun k hk => by cases hk; decide) ?_
            refine TL.pure (PV.pickF rfl rfl) rfl (by decide) ?_
            refine TL.pure (PV.move rfl) rfl (by decide) ?_
            refine TL.skip rfl (fun k hk => by cases hk; decide) ?_
            refine TL.skip rfl (fun k hk => by cases hk; decide) ?_
            refine TL.skip rfl (fun k hk => by cases hk; decide) ?_
            refine TL.pure (PV.pickF rfl rfl) rfl (by decide) ?_
            refine TL.pure (PV.move rfl) rfl (by decide) ?_
            refine TL.skip rfl (fun k hk => by cases hk; decide) ?_
            refine TL.pure (PV.pickF rfl rfl) rfl (by decide) ?_
            refine TL.pure (PV.assign rfl) rfl (by decide) ?_
            refine TL.nil ?_
            refine TQ.thenC ?_
            refine TC.ret ?_
            refine TQ.retE1 rfl rfl ?_
            first | exact ⟨(), rfl, trivial, List.nil_sublist _⟩ | (exfalso; simp_all; done)

end Go.Proofs.Ytgafpkcnhpoobaa

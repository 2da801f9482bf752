/- A proof that reaches the bound: contract. -/
import Derived.Test.YtfgjojoipbbacaaQPH
set_option linter.unusedVariables false
set_option linter.unusedSimpArgs false
namespace Go.Proofs.Ytfgjojoipbbacaa
open Go.Sx Go.RowKit


theorem fill_pg (h : HD) (N b : Nat) : Instr.fill ([(0, 1), (1, 1)][·]?) #[(.slice none 0 0), (.map none)] [(0, gval h N), (1, Value.map (some b))] = some #[gval h N, .map (some b)] := by cases h <;> kernel_rfl
theorem fill_bl (a b : Int) : Instr.fill ([(0, 1), (1, 1)][·]?) #[(Value.int .i64 0), (Value.int .i64 0)] [(0, Value.int .i64 a), (1, Value.int .i64 b)] = some #[.int .i64 a, .int .i64 b] := by kernel_rfl
theorem pg_one (h : HD) (N b : Nat) : [gval h N, Value.map (some b)].all Value.oneCell' = true := by cases h <;> rfl
theorem Full.keep {ls : List (List Int)} {ps ps' : List Ps} {m m' : List (List Int)} (h : Full ls ps) (hk : PKeep ls ps m ps' m') : Full ls ps' := fun q hq => by
  obtain ⟨p, hp, h1, h2, h3⟩ := h q hq
  obtain ⟨k, hk1, rfl⟩ := mem_at hp
  obtain ⟨g1, g2, g3⟩ := hk.same k
  exact ⟨ps'.getD k default, getD_mem' (by rw [hk.len]; exact hk1), g1.trans h1, g2.trans h2, g3.trans h3⟩
/-- A proof that is found. -/
structure PrfP (ls : List (List Int)) (ps : List Ps) : Prop where
  bad : validI ls ≠ 0 → ps = []
  ok : ¬ validI ls ≠ 0 → prI ls ps = 0 ∧ ∃ xs, HO ls xs ∧ worH ls xs = prV ls ps
  len : ps.length ≤ 60


set_option maxRecDepth 100000 in
set_option maxHeartbeats 4000000 in
theorem Proof_ok (w0 : World) (p : Option Addr) (cap : Nat) (ls : List (List Int)) (hr : LsAt w0 p ls) :
    Calls Try.prog 59 #[bv p ls.length cap] w0 (Post (X := HD × List Ps) (fun x => .tuple #[gval x.1 x.2.length, .int .i64 (validI ls)]) (fun x => goR rP x.1 x.2 ∧ PrfP ls x.2) (fun x => gbR rP 90 x.1 x.2) w0) := by
  refine calls Try.func59 rfl (n := 38) rfl (by simp) ?_
  refine TC.seq ?_
  refine TC.region ?_
  refine TL.box rfl rfl (by decide) (fun b0 hb0 => ?_)
  refine TL.pure (PV.assign rfl) rfl (by decide) ?_
  refine TL.pure (PV.assign rfl) rfl (by decide) ?_
  refine TL.nil ?_
  refine TQ.thenC ?_
  refine TC.seq ?_
  refine TC.seq ?_
  refine TC.region ?_
  refine TL.pure (PV.loadBox rfl Tb.agg_24 (by repeat (first | exact List.Mem.head _ | refine List.Mem.tail _ ?_ | refine List.mem_append_right _ ?_)) rfl) rfl (by decide) ?_
  refine TL.call rfl Tb.gofn_21 (fun a w hs => validate_ok w _ _ _ (hr.new hs.new)) rfl (by decide) (fun _ _ => ?_)
  refine TL.pure (PV.assign rfl) rfl (by decide) ?_
  refine TL.nil ?_
  refine TQ.thenC ?_
  refine TC.seq ?_
  refine TC.region ?_
  refine TL.pure (PV.move rfl) rfl (by decide) ?_
  refine TL.pure (PV.neq rfl rfl) rfl (by decide) ?_
  refine TL.nil ?_
  refine TQ.thenC ?_
  first | refine TC.condD rfl (fun hbad => ?_) (fun hbad => ?_) | refine TC.cond rfl (fun hbad => ?_) (fun hbad => ?_)
  · skip
    refine TC.seq ?_
    refine TC.region ?_
    refine TL.pure (PV.move rfl) rfl (by decide) ?_
    refine TL.pure (PV.assign rfl) rfl (by decide) ?_
    refine TL.pure (PV.assign rfl) rfl (by decide) ?_
    refine TL.nil ?_
    refine TQ.thenC ?_
    refine TC.ret ?_
    refine TQ.thenR ?_
    refine TQ.retE2 rfl rfl rfl ?_
    exact ⟨(none, []), rfl, ⟨⟨rfl, rfl⟩, fun _ => rfl, fun h => absurd hbad h, Nat.zero_le _⟩, List.nil_sublist _⟩
  · skip
    refine TC.skip ?_
    refine TQ.thenC ?_
    refine TC.seq ?_
    have hv := vb_of hbad
    have hn9 := hv.n
    have hd9 := hv.d
    have h60 := allP_len hv
    refine TC.mixV [true, false, true, false, true, false, false] _ 7 Tb.mixed rfl (by kernel_rfl) (by kernel_rfl) (by kernel_rfl) (by kernel_rfl) (List.Sublist.refl _) ?_
    refine TV.virt 0 rfl rfl (by decide) rfl (by kernel_rfl) (SOK.pure (PV.loadBox rfl Tb.agg_24 (by repeat (first | exact List.Mem.head _ | refine List.Mem.tail _ ?_ | refine List.mem_append_right _ ?_)) rfl) rfl) ?_
    refine TV.virt 2 rfl rfl (by decide) rfl (by kernel_rfl) (SOK.pure (PV.loadBox rfl Tb.agg_24 (by repeat (first | exact List.Mem.head _ | refine List.Mem.tail _ ?_ | refine List.mem_append_right _ ?_)) rfl) rfl) ?_
    refine TV.step [1, 5] (by kernel_rfl) (by decide) rfl ⟨⟨_, rfl, ?_⟩, ⟨_, rfl, ?_⟩, trivial⟩
    · skip
      refine TL.call rfl Tb.gofn_97 (fun a w hs => allPasses_ok w _ _ _ (hr.new hs.new) hv) rfl (by decide) (fun hA hAo => ?_)
      refine TL.nil ?_
      refine TV.next (.inl (by repeat (first | exact List.Sublist.slnil | exact List.nil_sublist _ | exact List.Sublist.refl _ | refine List.Sublist.cons_cons _ ?_ | refine List.Sublist.cons _ ?_ | refine List.Sublist.trans ?_ (List.sublist_append_right _ _)))) ?_
      refine TV.step [3, 5] (by kernel_rfl) (by decide) rfl ⟨⟨_, rfl, ?_⟩, ⟨_, rfl, ?_⟩, trivial⟩
      · skip
        refine TL.call rfl Tb.gofn_93 (fun a w hs => worthOfBlocks_ok w _ _ _ (hr.new hs.new) hv) rfl (by decide) (fun bM _ => ?_)
        refine TL.nil ?_
        refine TV.next (.inl (by repeat (first | exact List.Sublist.slnil | exact List.nil_sublist _ | exact List.Sublist.refl _ | refine List.Sublist.cons_cons _ ?_ | refine List.Sublist.cons _ ?_ | refine List.Sublist.trans ?_ (List.sublist_append_right _ _)))) ?_
        refine TV.virt 4 rfl rfl (by decide) rfl (by kernel_rfl) (SOK.pure (PV.build rfl Tb.zero_99 Tb.pl_99 (fill_pg _ _ _)) rfl) ?_
        refine TV.step [5] (by kernel_rfl) (by decide) rfl ⟨⟨_, rfl, ?_⟩, trivial⟩
        refine TL.alloc Tb.zero_99 rfl (by decide) (fun bP hbP => ?_)
        refine TL.nil ?_
        refine TV.next (.inl (by repeat (first | exact List.Sublist.slnil | exact List.nil_sublist _ | exact List.Sublist.refl _ | refine List.Sublist.cons_cons _ ?_ | refine List.Sublist.cons _ ?_ | refine List.Sublist.trans ?_ (List.sublist_append_right _ _)))) ?_
        refine TV.step [6] (by kernel_rfl) (by decide) rfl ⟨⟨_, rfl, ?_⟩, trivial⟩
        refine TL.storeAgg (vs := [gval hA (allP ls).length, .map (some bM)]) rfl rfl Tb.cells_99 (by repeat (first | exact Upd.head _ | apply Upd.tail | apply Upd.appR)) rfl rfl (pg_one _ _ _) rfl rfl ?_
        refine TL.nil ?_
        refine TV.next (.inr (by kernel_rfl)) ?_
        refine TV.done (by kernel_rfl) ?_
        refine TQ.thenC ?_
        refine TC.seq ?_
        refine TC.seq ?_
        refine TC.region ?_
        refine TL.pure (PV.fieldAddr rfl Tb.fo_24_0) rfl (by decide) ?_
        refine TL.pure (PV.load rfl Tb.one_22 (by repeat (first | exact List.Mem.head _ | refine List.Mem.tail _ ?_ | refine List.mem_append_right _ ?_)) rfl) rfl (by decide) ?_
        refine TL.pure (PV.len rfl Tb.sl_22) rfl (by decide) ?_
        refine TL.pure (PV.move rfl) rfl (by decide) ?_
        refine TL.nil ?_
        refine TQ.thenC ?_
        refine TC.block ?_
        refine TC.perm (G' := GP bP bM hA ls (allP ls).length [(b0, Obj.cells #[.slice p ls.length cap] 24 (0, 0))] (allP ls) (ls)) (perm_of fun c9 => by have hb9 : c9 (b0, Obj.cells (bv p ls.length cap).cells 24 (0, 0)) = c9 (b0, Obj.cells #[.slice p ls.length cap] 24 (0, 0)) := rfl; simp only [gbR, List.map_append, List.sum_append, List.map_cons, List.sum_cons, List.map_nil, List.sum_nil] at hb9 ⊢; omega) ?_
        refine TC.loopK [1, 2, 3, 5, 20] (X := Nat × List Ps × List (List Int)) (fun x => x.1 ≤ ls.length ∧ PKeep ls (allP ls) ls x.2.1 x.2.2 ∧ ∀ c j, c < x.1 → j < dep ls → DoneB ls x.2.1 x.2.2 c j) (fun x => [(21, .int .i64 (x.1 : Nat))]) (fun x => GP bP bM hA ls (allP ls).length [(b0, Obj.cells #[.slice p ls.length cap] 24 (0, 0))] (x.2.1) (x.2.2)) (fun x => ls.length - x.1) (0, allP ls, ls) ⟨Nat.zero_le _, PKeep.refl (PInv.start hv), fun c j h => absurd h (Nat.not_lt_zero _)⟩ (by repeat (first | exact True.intro | refine And.intro rfl ?_)) (List.Sublist.refl _) ?_
        intro x hx
        have hx1 := hx.1
        refine TC.seq ?_
        refine TC.region ?_
        refine TL.pure (PV.lss rfl rfl) rfl (by decide) ?_
        refine TL.nil ?_
        refine TQ.thenC ?_
        refine TC.seq ?_
        first | refine TC.condD rfl (fun hlt => ?_) (fun hlt => ?_) | refine TC.cond rfl (fun hlt => ?_) (fun hlt => ?_)
        · skip
          refine TC.skip ?_
          refine TQ.thenC ?_
          refine TC.seq ?_
          refine TC.block ?_
          refine TC.seq ?_
          refine TC.region ?_
          refine TL.pure (PV.move rfl) rfl (by decide) ?_
          refine TL.pure (PV.assign rfl) rfl (by decide) ?_
          refine TL.nil ?_
          refine TQ.thenC ?_
          refine TC.seq ?_
          refine TC.region ?_
          refine TL.pure (PV.loadBox rfl Tb.agg_24 (by repeat (first | exact List.Mem.head _ | refine List.Mem.tail _ ?_ | refine List.mem_append_right _ ?_)) rfl) rfl (by decide) ?_
          refine TL.call rfl Tb.gofn_62 (fun a w hs => depth_ok w _ _ _ (hr.new hs.new) (by omega)) rfl (by decide) (fun _ _ => ?_)
          refine TL.pure (PV.move rfl) rfl (by decide) ?_
          refine TL.nil ?_
          refine TQ.thenC ?_
          refine TC.block ?_
          refine TC.loopK [1, 2, 3, 5, 6, 20, 21, 25] (X := Nat × List Ps × List (List Int)) (fun z => z.1 ≤ dep ls ∧ PKeep ls (allP ls) ls z.2.1 z.2.2 ∧ (∀ c j, c < x.1 → j < dep ls → DoneB ls z.2.1 z.2.2 c j) ∧ ∀ j, j < z.1 → DoneB ls z.2.1 z.2.2 x.1 j) (fun z => [(26, .int .i64 (z.1 : Nat))]) (fun z => GP bP bM hA ls (allP ls).length [(b0, Obj.cells #[.slice p ls.length cap] 24 (0, 0))] (z.2.1) (z.2.2)) (fun z => dep ls - z.1) (0, x.2.1, x.2.2) ⟨Nat.zero_le _, hx.2.1, hx.2.2, fun j h => absurd h (Nat.not_lt_zero _)⟩ (by repeat (first | exact True.intro | refine And.intro rfl ?_)) (List.Sublist.refl _) ?_
          intro z hz
          have hz1 := hz.1
          refine TC.seq ?_
          refine TC.region ?_
          refine TL.pure (PV.lss rfl rfl) rfl (by decide) ?_
          refine TL.nil ?_
          refine TQ.thenC ?_
          refine TC.seq ?_
          first | refine TC.condD rfl (fun hlt2 => ?_) (fun hlt2 => ?_) | refine TC.cond rfl (fun hlt2 => ?_) (fun hlt2 => ?_)
          · skip
            refine TC.skip ?_
            refine TQ.thenC ?_
            refine TC.seq ?_
            refine TC.block ?_
            refine TC.seq ?_
            refine TC.region ?_
            refine TL.pure (PV.move rfl) rfl (by decide) ?_
            refine TL.pure (PV.assign rfl) rfl (by decide) ?_
            refine TL.nil ?_
            refine TQ.thenC ?_
            refine TC.region ?_
            refine TL.pure (PV.move rfl) rfl (by decide) ?_
            refine TL.pure (PV.move rfl) rfl (by decide) ?_
            refine TL.pure (PV.build rfl Tb.zero_95 Tb.pl_95 (fill_bl _ _)) rfl (by decide) ?_
            refine TL.callW (X := List Ps × List (List Int)) (fun _ => .tuple #[]) (fun y => PKeep ls z.2.1 z.2.2 y.1 y.2 ∧ DoneB ls y.1 y.2 x.1 z.1) (fun y => GP bP bM hA ls (allP ls).length [(b0, Obj.cells #[.slice p ls.length cap] 24 (0, 0))] (y.1) (y.2)) rfl Tb.gofn_98 (fun a w hs => passFrom_ok w0 w bP bM hA ls (allP ls).length z.2.1 z.2.2 x.1 z.1 [(b0, Obj.cells #[.slice p ls.length cap] 24 (0, 0))] hv (hz.2.1.len) h60 hz.2.1.inv (by omega) (by omega) (goR_len hAo hz.2.1.len) hs.new) rfl (by decide) (fun y hy => ?_)
            refine TL.nil ?_
            refine TQ.blkN ?_
            refine TQ.thenC ?_
            refine TC.region ?_
            refine TL.pure (PV.add rfl rfl (by omega)) rfl (by decide) ?_
            refine TL.pure (PV.move rfl) rfl (by decide) ?_
            refine TL.nil ?_
            refine TQ.thenN ?_
            refine TQ.backK (z.1 + 1, y.1, y.2) (by repeat (first | exact True.intro | refine And.intro rfl ?_)) (by repeat (first | exact True.intro | refine And.intro rfl ?_)) (List.Sublist.refl _) ⟨by simp only; omega, hz.2.1.trans hy.1, fun c j hc hj => (hz.2.2.1 c j hc hj).keep (by omega) hj hy.1, fun j hj => by
              by_cases e : j = z.1
              · subst e; exact hy.2
              · exact (hz.2.2.2 j (by simp only at hj; omega)).keep (by omega) (by simp only at hj; omega) hy.1⟩ (by simp only; omega)
          · skip
            refine TC.exit ?_
            refine TQ.thenE ?_
            refine TQ.thenE ?_
            refine TQ.blkS ?_
            refine TQ.blkN ?_
            refine TQ.thenC ?_
            refine TC.region ?_
            refine TL.pure (PV.add rfl rfl (by omega)) rfl (by decide) ?_
            refine TL.pure (PV.move rfl) rfl (by decide) ?_
            refine TL.nil ?_
            refine TQ.thenN ?_
            refine TQ.backK (x.1 + 1, z.2.1, z.2.2) (by repeat (first | exact True.intro | refine And.intro rfl ?_)) (by repeat (first | exact True.intro | refine And.intro rfl ?_)) (List.Sublist.refl _) ⟨by simp only; omega, hz.2.1, fun c j hc hj => by
              by_cases e : c = x.1
              · subst e; exact hz.2.2.2 j (by omega)
              · exact hz.2.2.1 c j (by simp only at hc; omega) hj⟩ (by simp only; omega)
        · skip
          refine TC.exit ?_
          refine TQ.thenE ?_
          refine TQ.thenE ?_
          refine TQ.blkS ?_
          refine TQ.thenC ?_
          refine TC.seq ?_
          have hxe : x.1 = ls.length := by omega
          refine TC.region ?_
          refine TL.pure (PV.fieldAddr rfl Tb.fo_99_0) rfl (by decide) ?_
          refine TL.pure (PV.load rfl Tb.one_55 (by repeat (first | exact List.Mem.head _ | refine List.Mem.tail _ ?_ | refine List.mem_append_right _ ?_)) rfl) rfl (by decide) ?_
          refine TL.callW (X := HD) (fun h => gval h (x.2.1.filter nz).length) (fun h => goR rP h (x.2.1.filter nz)) (fun h => gbR rP 90 h (x.2.1.filter nz) ++ [(bP, Obj.cells #[gval hA (allP ls).length, .map (some bM)] 99 (0, 0)), (bM, mobj (entK (dep ls) (x.2.2) (ls.length * dep ls))), (b0, Obj.cells #[.slice p ls.length cap] 24 (0, 0))]) rfl Tb.gofn_99 (fun a w hs => deleteA_ok w0 w hA (allP ls).length x.2.1 hx.2.1.len h60 (goR_len hAo hx.2.1.len) [(bP, Obj.cells #[gval hA (allP ls).length, .map (some bM)] 99 (0, 0)), (bM, mobj (entK (dep ls) (x.2.2) (ls.length * dep ls))), (b0, Obj.cells #[.slice p ls.length cap] 24 (0, 0))] (hs.new.perm (perm_of fun c9 => by simp only [gbR, List.map_append, List.sum_append, List.map_cons, List.sum_cons, List.map_nil, List.sum_nil]; omega))) rfl (by decide) (fun hD hDo => ?_)
          refine TL.pure (PV.assign rfl) rfl (by decide) ?_
          refine TL.pure (PV.assign rfl) rfl (by decide) ?_
          refine TL.nil ?_
          refine TQ.thenC ?_
          refine TC.ret ?_
          refine TQ.retE2 rfl rfl rfl ?_
          exact ⟨(hD, x.2.1.filter nz), by rw [Decidable.not_not.1 hbad], ⟨hDo, fun h => absurd h hbad, fun h => proof_ends h hx.2.1.inv ((allP_full hv).keep hx.2.1) (by rw [hx.2.1.len]; exact h60) (fun c j hc hj => hx.2.2 c j (by omega) hj), Nat.le_trans (List.length_filter_le _ _) (by rw [hx.2.1.len]; exact h60)⟩, List.sublist_append_left _ _⟩
      · skip
        refine TL.alloc Tb.zero_99 rfl (by decide) (fun bP hbP => ?_)
        refine TL.nil ?_
        refine TV.next (.inl (by repeat (first | exact List.Sublist.slnil | exact List.nil_sublist _ | exact List.Sublist.refl _ | refine List.Sublist.cons_cons _ ?_ | refine List.Sublist.cons _ ?_ | refine List.Sublist.trans ?_ (List.sublist_append_right _ _)))) ?_
        refine TV.step [3] (by kernel_rfl) (by decide) rfl ⟨⟨_, rfl, ?_⟩, trivial⟩
        refine TL.call rfl Tb.gofn_93 (fun a w hs => worthOfBlocks_ok w _ _ _ (hr.new hs.new) hv) rfl (by decide) (fun bM _ => ?_)
        refine TL.nil ?_
        refine TV.next (.inl (by repeat (first | exact List.Sublist.slnil | exact List.nil_sublist _ | exact List.Sublist.refl _ | refine List.Sublist.cons_cons _ ?_ | refine List.Sublist.cons _ ?_ | refine List.Sublist.trans ?_ (List.sublist_append_right _ _)))) ?_
        refine TV.virt 4 rfl rfl (by decide) rfl (by kernel_rfl) (SOK.pure (PV.build rfl Tb.zero_99 Tb.pl_99 (fill_pg _ _ _)) rfl) ?_
        refine TV.step [6] (by kernel_rfl) (by decide) rfl ⟨⟨_, rfl, ?_⟩, trivial⟩
        refine TL.storeAgg (vs := [gval hA (allP ls).length, .map (some bM)]) rfl rfl Tb.cells_99 (by repeat (first | exact Upd.head _ | apply Upd.tail | apply Upd.appR)) rfl rfl (pg_one _ _ _) rfl rfl ?_
        refine TL.nil ?_
        refine TV.next (.inr (by kernel_rfl)) ?_
        refine TV.done (by kernel_rfl) ?_
        refine TQ.thenC ?_
        refine TC.seq ?_
        refine TC.seq ?_
        refine TC.region ?_
        refine TL.pure (PV.fieldAddr rfl Tb.fo_24_0) rfl (by decide) ?_
        refine TL.pure (PV.load rfl Tb.one_22 (by repeat (first | exact List.Mem.head _ | refine List.Mem.tail _ ?_ | refine List.mem_append_right _ ?_)) rfl) rfl (by decide) ?_
        refine TL.pure (PV.len rfl Tb.sl_22) rfl (by decide) ?_
        refine TL.pure (PV.move rfl) rfl (by decide) ?_
        refine TL.nil ?_
        refine TQ.thenC ?_
        refine TC.block ?_
        refine TC.perm (G' := GP bP bM hA ls (allP ls).length [(b0, Obj.cells #[.slice p ls.length cap] 24 (0, 0))] (allP ls) (ls)) (perm_of fun c9 => by have hb9 : c9 (b0, Obj.cells (bv p ls.length cap).cells 24 (0, 0)) = c9 (b0, Obj.cells #[.slice p ls.length cap] 24 (0, 0)) := rfl; simp only [gbR, List.map_append, List.sum_append, List.map_cons, List.sum_cons, List.map_nil, List.sum_nil] at hb9 ⊢; omega) ?_
        refine TC.loopK [1, 2, 3, 5, 20] (X := Nat × List Ps × List (List Int)) (fun x => x.1 ≤ ls.length ∧ PKeep ls (allP ls) ls x.2.1 x.2.2 ∧ ∀ c j, c < x.1 → j < dep ls → DoneB ls x.2.1 x.2.2 c j) (fun x => [(21, .int .i64 (x.1 : Nat))]) (fun x => GP bP bM hA ls (allP ls).length [(b0, Obj.cells #[.slice p ls.length cap] 24 (0, 0))] (x.2.1) (x.2.2)) (fun x => ls.length - x.1) (0, allP ls, ls) ⟨Nat.zero_le _, PKeep.refl (PInv.start hv), fun c j h => absurd h (Nat.not_lt_zero _)⟩ (by repeat (first | exact True.intro | refine And.intro rfl ?_)) (List.Sublist.refl _) ?_
        intro x hx
        have hx1 := hx.1
        refine TC.seq ?_
        refine TC.region ?_
        refine TL.pure (PV.lss rfl rfl) rfl (by decide) ?_
        refine TL.nil ?_
        refine TQ.thenC ?_
        refine TC.seq ?_
        first | refine TC.condD rfl (fun hlt => ?_) (fun hlt => ?_) | refine TC.cond rfl (fun hlt => ?_) (fun hlt => ?_)
        · skip
          refine TC.skip ?_
          refine TQ.thenC ?_
          refine TC.seq ?_
          refine TC.block ?_
          refine TC.seq ?_
          refine TC.region ?_
          refine TL.pure (PV.move rfl) rfl (by decide) ?_
          refine TL.pure (PV.assign rfl) rfl (by decide) ?_
          refine TL.nil ?_
          refine TQ.thenC ?_
          refine TC.seq ?_
          refine TC.region ?_
          refine TL.pure (PV.loadBox rfl Tb.agg_24 (by repeat (first | exact List.Mem.head _ | refine List.Mem.tail _ ?_ | refine List.mem_append_right _ ?_)) rfl) rfl (by decide) ?_
          refine TL.call rfl Tb.gofn_62 (fun a w hs => depth_ok w _ _ _ (hr.new hs.new) (by omega)) rfl (by decide) (fun _ _ => ?_)
          refine TL.pure (PV.move rfl) rfl (by decide) ?_
          refine TL.nil ?_
          refine TQ.thenC ?_
          refine TC.block ?_
          refine TC.loopK [1, 2, 3, 5, 6, 20, 21, 25] (X := Nat × List Ps × List (List Int)) (fun z => z.1 ≤ dep ls ∧ PKeep ls (allP ls) ls z.2.1 z.2.2 ∧ (∀ c j, c < x.1 → j < dep ls → DoneB ls z.2.1 z.2.2 c j) ∧ ∀ j, j < z.1 → DoneB ls z.2.1 z.2.2 x.1 j) (fun z => [(26, .int .i64 (z.1 : Nat))]) (fun z => GP bP bM hA ls (allP ls).length [(b0, Obj.cells #[.slice p ls.length cap] 24 (0, 0))] (z.2.1) (z.2.2)) (fun z => dep ls - z.1) (0, x.2.1, x.2.2) ⟨Nat.zero_le _, hx.2.1, hx.2.2, fun j h => absurd h (Nat.not_lt_zero _)⟩ (by repeat (first | exact True.intro | refine And.intro rfl ?_)) (List.Sublist.refl _) ?_
          intro z hz
          have hz1 := hz.1
          refine TC.seq ?_
          refine TC.region ?_
          refine TL.pure (PV.lss rfl rfl) rfl (by decide) ?_
          refine TL.nil ?_
          refine TQ.thenC ?_
          refine TC.seq ?_
          first | refine TC.condD rfl (fun hlt2 => ?_) (fun hlt2 => ?_) | refine TC.cond rfl (fun hlt2 => ?_) (fun hlt2 => ?_)
          · skip
            refine TC.skip ?_
            refine TQ.thenC ?_
            refine TC.seq ?_
            refine TC.block ?_
            refine TC.seq ?_
            refine TC.region ?_
            refine TL.pure (PV.move rfl) rfl (by decide) ?_
            refine TL.pure (PV.assign rfl) rfl (by decide) ?_
            refine TL.nil ?_
            refine TQ.thenC ?_
            refine TC.region ?_
            refine TL.pure (PV.move rfl) rfl (by decide) ?_
            refine TL.pure (PV.move rfl) rfl (by decide) ?_
            refine TL.pure (PV.build rfl Tb.zero_95 Tb.pl_95 (fill_bl _ _)) rfl (by decide) ?_
            refine TL.callW (X := List Ps × List (List Int)) (fun _ => .tuple #[]) (fun y => PKeep ls z.2.1 z.2.2 y.1 y.2 ∧ DoneB ls y.1 y.2 x.1 z.1) (fun y => GP bP bM hA ls (allP ls).length [(b0, Obj.cells #[.slice p ls.length cap] 24 (0, 0))] (y.1) (y.2)) rfl Tb.gofn_98 (fun a w hs => passFrom_ok w0 w bP bM hA ls (allP ls).length z.2.1 z.2.2 x.1 z.1 [(b0, Obj.cells #[.slice p ls.length cap] 24 (0, 0))] hv (hz.2.1.len) h60 hz.2.1.inv (by omega) (by omega) (goR_len hAo hz.2.1.len) hs.new) rfl (by decide) (fun y hy => ?_)
            refine TL.nil ?_
            refine TQ.blkN ?_
            refine TQ.thenC ?_
            refine TC.region ?_
            refine TL.pure (PV.add rfl rfl (by omega)) rfl (by decide) ?_
            refine TL.pure (PV.move rfl) rfl (by decide) ?_
            refine TL.nil ?_
            refine TQ.thenN ?_
            refine TQ.backK (z.1 + 1, y.1, y.2) (by repeat (first | exact True.intro | refine And.intro rfl ?_)) (by repeat (first | exact True.intro | refine And.intro rfl ?_)) (List.Sublist.refl _) ⟨by simp only; omega, hz.2.1.trans hy.1, fun c j hc hj => (hz.2.2.1 c j hc hj).keep (by omega) hj hy.1, fun j hj => by
              by_cases e : j = z.1
              · subst e; exact hy.2
              · exact (hz.2.2.2 j (by simp only at hj; omega)).keep (by omega) (by simp only at hj; omega) hy.1⟩ (by simp only; omega)
          · skip
            refine TC.exit ?_
            refine TQ.thenE ?_
            refine TQ.thenE ?_
            refine TQ.blkS ?_
            refine TQ.blkN ?_
            refine TQ.thenC ?_
            refine TC.region ?_
            refine TL.pure (PV.add rfl rfl (by omega)) rfl (by decide) ?_
            refine TL.pure (PV.move rfl) rfl (by decide) ?_
            refine TL.nil ?_
            refine TQ.thenN ?_
            refine TQ.backK (x.1 + 1, z.2.1, z.2.2) (by repeat (first | exact True.intro | refine And.intro rfl ?_)) (by repeat (first | exact True.intro | refine And.intro rfl ?_)) (List.Sublist.refl _) ⟨by simp only; omega, hz.2.1, fun c j hc hj => by
              by_cases e : c = x.1
              · subst e; exact hz.2.2.2 j (by omega)
              · exact hz.2.2.1 c j (by simp only at hc; omega) hj⟩ (by simp only; omega)
        · skip
          refine TC.exit ?_
          refine TQ.thenE ?_
          refine TQ.thenE ?_
          refine TQ.blkS ?_
          refine TQ.thenC ?_
          refine TC.seq ?_
          have hxe : x.1 = ls.length := by omega
          refine TC.region ?_
          refine TL.pure (PV.fieldAddr rfl Tb.fo_99_0) rfl (by decide) ?_
          refine TL.pure (PV.load rfl Tb.one_55 (by repeat (first | exact List.Mem.head _ | refine List.Mem.tail _ ?_ | refine List.mem_append_right _ ?_)) rfl) rfl (by decide) ?_
          refine TL.callW (X := HD) (fun h => gval h (x.2.1.filter nz).length) (fun h => goR rP h (x.2.1.filter nz)) (fun h => gbR rP 90 h (x.2.1.filter nz) ++ [(bP, Obj.cells #[gval hA (allP ls).length, .map (some bM)] 99 (0, 0)), (bM, mobj (entK (dep ls) (x.2.2) (ls.length * dep ls))), (b0, Obj.cells #[.slice p ls.length cap] 24 (0, 0))]) rfl Tb.gofn_99 (fun a w hs => deleteA_ok w0 w hA (allP ls).length x.2.1 hx.2.1.len h60 (goR_len hAo hx.2.1.len) [(bP, Obj.cells #[gval hA (allP ls).length, .map (some bM)] 99 (0, 0)), (bM, mobj (entK (dep ls) (x.2.2) (ls.length * dep ls))), (b0, Obj.cells #[.slice p ls.length cap] 24 (0, 0))] (hs.new.perm (perm_of fun c9 => by simp only [gbR, List.map_append, List.sum_append, List.map_cons, List.sum_cons, List.map_nil, List.sum_nil]; omega))) rfl (by decide) (fun hD hDo => ?_)
          refine TL.pure (PV.assign rfl) rfl (by decide) ?_
          refine TL.pure (PV.assign rfl) rfl (by decide) ?_
          refine TL.nil ?_
          refine TQ.thenC ?_
          refine TC.ret ?_
          refine TQ.retE2 rfl rfl rfl ?_
          exact ⟨(hD, x.2.1.filter nz), by rw [Decidable.not_not.1 hbad], ⟨hDo, fun h => absurd h hbad, fun h => proof_ends h hx.2.1.inv ((allP_full hv).keep hx.2.1) (by rw [hx.2.1.len]; exact h60) (fun c j hc hj => hx.2.2 c j (by omega) hj), Nat.le_trans (List.length_filter_le _ _) (by rw [hx.2.1.len]; exact h60)⟩, List.sublist_append_left _ _⟩
    · skip
      refine TL.alloc Tb.zero_99 rfl (by decide) (fun bP hbP => ?_)
      refine TL.nil ?_
      refine TV.next (.inl (by repeat (first | exact List.Sublist.slnil | exact List.nil_sublist _ | exact List.Sublist.refl _ | refine List.Sublist.cons_cons _ ?_ | refine List.Sublist.cons _ ?_ | refine List.Sublist.trans ?_ (List.sublist_append_right _ _)))) ?_
      refine TV.step [1] (by kernel_rfl) (by decide) rfl ⟨⟨_, rfl, ?_⟩, trivial⟩
      refine TL.call rfl Tb.gofn_97 (fun a w hs => allPasses_ok w _ _ _ (hr.new hs.new) hv) rfl (by decide) (fun hA hAo => ?_)
      refine TL.nil ?_
      refine TV.next (.inl (by repeat (first | exact List.Sublist.slnil | exact List.nil_sublist _ | exact List.Sublist.refl _ | refine List.Sublist.cons_cons _ ?_ | refine List.Sublist.cons _ ?_ | refine List.Sublist.trans ?_ (List.sublist_append_right _ _)))) ?_
      refine TV.step [3] (by kernel_rfl) (by decide) rfl ⟨⟨_, rfl, ?_⟩, trivial⟩
      refine TL.call rfl Tb.gofn_93 (fun a w hs => worthOfBlocks_ok w _ _ _ (hr.new hs.new) hv) rfl (by decide) (fun bM _ => ?_)
      refine TL.nil ?_
      refine TV.next (.inl (by repeat (first | exact List.Sublist.slnil | exact List.nil_sublist _ | exact List.Sublist.refl _ | refine List.Sublist.cons_cons _ ?_ | refine List.Sublist.cons _ ?_ | refine List.Sublist.trans ?_ (List.sublist_append_right _ _)))) ?_
      refine TV.virt 4 rfl rfl (by decide) rfl (by kernel_rfl) (SOK.pure (PV.build rfl Tb.zero_99 Tb.pl_99 (fill_pg _ _ _)) rfl) ?_
      refine TV.step [6] (by kernel_rfl) (by decide) rfl ⟨⟨_, rfl, ?_⟩, trivial⟩
      refine TL.storeAgg (vs := [gval hA (allP ls).length, .map (some bM)]) rfl rfl Tb.cells_99 (by repeat (first | exact Upd.head _ | apply Upd.tail | apply Upd.appR)) rfl rfl (pg_one _ _ _) rfl rfl ?_
      refine TL.nil ?_
      refine TV.next (.inr (by kernel_rfl)) ?_
      refine TV.done (by kernel_rfl) ?_
      refine TQ.thenC ?_
      refine TC.seq ?_
      refine TC.seq ?_
      refine TC.region ?_
      refine TL.pure (PV.fieldAddr rfl Tb.fo_24_0) rfl (by decide) ?_
      refine TL.pure (PV.load rfl Tb.one_22 (by repeat (first | exact List.Mem.head _ | refine List.Mem.tail _ ?_ | refine List.mem_append_right _ ?_)) rfl) rfl (by decide) ?_
      refine TL.pure (PV.len rfl Tb.sl_22) rfl (by decide) ?_
      refine TL.pure (PV.move rfl) rfl (by decide) ?_
      refine TL.nil ?_
      refine TQ.thenC ?_
      refine TC.block ?_
      refine TC.perm (G' := GP bP bM hA ls (allP ls).length [(b0, Obj.cells #[.slice p ls.length cap] 24 (0, 0))] (allP ls) (ls)) (perm_of fun c9 => by have hb9 : c9 (b0, Obj.cells (bv p ls.length cap).cells 24 (0, 0)) = c9 (b0, Obj.cells #[.slice p ls.length cap] 24 (0, 0)) := rfl; simp only [gbR, List.map_append, List.sum_append, List.map_cons, List.sum_cons, List.map_nil, List.sum_nil] at hb9 ⊢; omega) ?_
      refine TC.loopK [1, 2, 3, 5, 20] (X := Nat × List Ps × List (List Int)) (fun x => x.1 ≤ ls.length ∧ PKeep ls (allP ls) ls x.2.1 x.2.2 ∧ ∀ c j, c < x.1 → j < dep ls → DoneB ls x.2.1 x.2.2 c j) (fun x => [(21, .int .i64 (x.1 : Nat))]) (fun x => GP bP bM hA ls (allP ls).length [(b0, Obj.cells #[.slice p ls.length cap] 24 (0, 0))] (x.2.1) (x.2.2)) (fun x => ls.length - x.1) (0, allP ls, ls) ⟨Nat.zero_le _, PKeep.refl (PInv.start hv), fun c j h => absurd h (Nat.not_lt_zero _)⟩ (by repeat (first | exact True.intro | refine And.intro rfl ?_)) (List.Sublist.refl _) ?_
      intro x hx
      have hx1 := hx.1
      refine TC.seq ?_
      refine TC.region ?_
      refine TL.pure (PV.lss rfl rfl) rfl (by decide) ?_
      refine TL.nil ?_
      refine TQ.thenC ?_
      refine TC.seq ?_
      first | refine TC.condD rfl (fun hlt => ?_) (fun hlt => ?_) | refine TC.cond rfl (fun hlt => ?_) (fun hlt => ?_)
      · skip
        refine TC.skip ?_
        refine TQ.thenC ?_
        refine TC.seq ?_
        refine TC.block ?_
        refine TC.seq ?_
        refine TC.region ?_
        refine TL.pure (PV.move rfl) rfl (by decide) ?_
        refine TL.pure (PV.assign rfl) rfl (by decide) ?_
        refine TL.nil ?_
        refine TQ.thenC ?_
        refine TC.seq ?_
        refine TC.region ?_
        refine TL.pure (PV.loadBox rfl Tb.agg_24 (by repeat (first | exact List.Mem.head _ | refine List.Mem.tail _ ?_ | refine List.mem_append_right _ ?_)) rfl) rfl (by decide) ?_
        refine TL.call rfl Tb.gofn_62 (fun a w hs => depth_ok w _ _ _ (hr.new hs.new) (by omega)) rfl (by decide) (fun _ _ => ?_)
        refine TL.pure (PV.move rfl) rfl (by decide) ?_
        refine TL.nil ?_
        refine TQ.thenC ?_
        refine TC.block ?_
        refine TC.loopK [1, 2, 3, 5, 6, 20, 21, 25] (X := Nat × List Ps × List (List Int)) (fun z => z.1 ≤ dep ls ∧ PKeep ls (allP ls) ls z.2.1 z.2.2 ∧ (∀ c j, c < x.1 → j < dep ls → DoneB ls z.2.1 z.2.2 c j) ∧ ∀ j, j < z.1 → DoneB ls z.2.1 z.2.2 x.1 j) (fun z => [(26, .int .i64 (z.1 : Nat))]) (fun z => GP bP bM hA ls (allP ls).length [(b0, Obj.cells #[.slice p ls.length cap] 24 (0, 0))] (z.2.1) (z.2.2)) (fun z => dep ls - z.1) (0, x.2.1, x.2.2) ⟨Nat.zero_le _, hx.2.1, hx.2.2, fun j h => absurd h (Nat.not_lt_zero _)⟩ (by repeat (first | exact True.intro | refine And.intro rfl ?_)) (List.Sublist.refl _) ?_
        intro z hz
        have hz1 := hz.1
        refine TC.seq ?_
        refine TC.region ?_
        refine TL.pure (PV.lss rfl rfl) rfl (by decide) ?_
        refine TL.nil ?_
        refine TQ.thenC ?_
        refine TC.seq ?_
        first | refine TC.condD rfl (fun hlt2 => ?_) (fun hlt2 => ?_) | refine TC.cond rfl (fun hlt2 => ?_) (fun hlt2 => ?_)
        · skip
          refine TC.skip ?_
          refine TQ.thenC ?_
          refine TC.seq ?_
          refine TC.block ?_
          refine TC.seq ?_
          refine TC.region ?_
          refine TL.pure (PV.move rfl) rfl (by decide) ?_
          refine TL.pure (PV.assign rfl) rfl (by decide) ?_
          refine TL.nil ?_
          refine TQ.thenC ?_
          refine TC.region ?_
          refine TL.pure (PV.move rfl) rfl (by decide) ?_
          refine TL.pure (PV.move rfl) rfl (by decide) ?_
          refine TL.pure (PV.build rfl Tb.zero_95 Tb.pl_95 (fill_bl _ _)) rfl (by decide) ?_
          refine TL.callW (X := List Ps × List (List Int)) (fun _ => .tuple #[]) (fun y => PKeep ls z.2.1 z.2.2 y.1 y.2 ∧ DoneB ls y.1 y.2 x.1 z.1) (fun y => GP bP bM hA ls (allP ls).length [(b0, Obj.cells #[.slice p ls.length cap] 24 (0, 0))] (y.1) (y.2)) rfl Tb.gofn_98 (fun a w hs => passFrom_ok w0 w bP bM hA ls (allP ls).length z.2.1 z.2.2 x.1 z.1 [(b0, Obj.cells #[.slice p ls.length cap] 24 (0, 0))] hv (hz.2.1.len) h60 hz.2.1.inv (by omega) (by omega) (goR_len hAo hz.2.1.len) hs.new) rfl (by decide) (fun y hy => ?_)
          refine TL.nil ?_
          refine TQ.blkN ?_
          refine TQ.thenC ?_
          refine TC.region ?_
          refine TL.pure (PV.add rfl rfl (by omega)) rfl (by decide) ?_
          refine TL.pure (PV.move rfl) rfl (by decide) ?_
          refine TL.nil ?_
          refine TQ.thenN ?_
          refine TQ.backK (z.1 + 1, y.1, y.2) (by repeat (first | exact True.intro | refine And.intro rfl ?_)) (by repeat (first | exact True.intro | refine And.intro rfl ?_)) (List.Sublist.refl _) ⟨by simp only; omega, hz.2.1.trans hy.1, fun c j hc hj => (hz.2.2.1 c j hc hj).keep (by omega) hj hy.1, fun j hj => by
            by_cases e : j = z.1
            · subst e; exact hy.2
            · exact (hz.2.2.2 j (by simp only at hj; omega)).keep (by omega) (by simp only at hj; omega) hy.1⟩ (by simp only; omega)
        · skip
          refine TC.exit ?_
          refine TQ.thenE ?_
          refine TQ.thenE ?_
          refine TQ.blkS ?_
          refine TQ.blkN ?_
          refine TQ.thenC ?_
          refine TC.region ?_
          refine TL.pure (PV.add rfl rfl (by omega)) rfl (by decide) ?_
          refine TL.pure (PV.move rfl) rfl (by decide) ?_
          refine TL.nil ?_
          refine TQ.thenN ?_
          refine TQ.backK (x.1 + 1, z.2.1, z.2.2) (by repeat (first | exact True.intro | refine And.intro rfl ?_)) (by repeat (first | exact True.intro | refine And.intro rfl ?_)) (List.Sublist.refl _) ⟨by simp only; omega, hz.2.1, fun c j hc hj => by
            by_cases e : c = x.1
            · subst e; exact hz.2.2.2 j (by omega)
            · exact hz.2.2.1 c j (by simp only at hc; omega) hj⟩ (by simp only; omega)
      · skip
        refine TC.exit ?_
        refine TQ.thenE ?_
        refine TQ.thenE ?_
        refine TQ.blkS ?_
        refine TQ.thenC ?_
        refine TC.seq ?_
        have hxe : x.1 = ls.length := by omega
        refine TC.region ?_
        refine TL.pure (PV.fieldAddr rfl Tb.fo_99_0) rfl (by decide) ?_
        refine TL.pure (PV.load rfl Tb.one_55 (by repeat (first | exact List.Mem.head _ | refine List.Mem.tail _ ?_ | refine List.mem_append_right _ ?_)) rfl) rfl (by decide) ?_
        refine TL.callW (X := HD) (fun h => gval h (x.2.1.filter nz).length) (fun h => goR rP h (x.2.1.filter nz)) (fun h => gbR rP 90 h (x.2.1.filter nz) ++ [(bP, Obj.cells #[gval hA (allP ls).length, .map (some bM)] 99 (0, 0)), (bM, mobj (entK (dep ls) (x.2.2) (ls.length * dep ls))), (b0, Obj.cells #[.slice p ls.length cap] 24 (0, 0))]) rfl Tb.gofn_99 (fun a w hs => deleteA_ok w0 w hA (allP ls).length x.2.1 hx.2.1.len h60 (goR_len hAo hx.2.1.len) [(bP, Obj.cells #[gval hA (allP ls).length, .map (some bM)] 99 (0, 0)), (bM, mobj (entK (dep ls) (x.2.2) (ls.length * dep ls))), (b0, Obj.cells #[.slice p ls.length cap] 24 (0, 0))] (hs.new.perm (perm_of fun c9 => by simp only [gbR, List.map_append, List.sum_append, List.map_cons, List.sum_cons, List.map_nil, List.sum_nil]; omega))) rfl (by decide) (fun hD hDo => ?_)
        refine TL.pure (PV.assign rfl) rfl (by decide) ?_
        refine TL.pure (PV.assign rfl) rfl (by decide) ?_
        refine TL.nil ?_
        refine TQ.thenC ?_
        refine TC.ret ?_
        refine TQ.retE2 rfl rfl rfl ?_
        exact ⟨(hD, x.2.1.filter nz), by rw [Decidable.not_not.1 hbad], ⟨hDo, fun h => absurd h hbad, fun h => proof_ends h hx.2.1.inv ((allP_full hv).keep hx.2.1) (by rw [hx.2.1.len]; exact h60) (fun c j hc hj => hx.2.2 c j (by omega) hj), Nat.le_trans (List.length_filter_le _ _) (by rw [hx.2.1.len]; exact h60)⟩, List.sublist_append_left _ _⟩

end Go.Proofs.Ytfgjojoipbbacaa

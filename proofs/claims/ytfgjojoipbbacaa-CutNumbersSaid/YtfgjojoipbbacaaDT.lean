/- Hollows in ascending order, ranks: contracts; the law's contract. -/
import Derived.Test.YtfgjojoipbbacaaDS
set_option linter.unusedVariables false
set_option linter.unusedSimpArgs false
namespace Go.Proofs.Ytfgjojoipbbacaa
open Go.Sx Go.RowKit

theorem goR_len {h : HD} {l m : List Hv} (ho : goR hR h l) (e : m.length = l.length) : goR hR h m := by
  have h1 := rcs_len (R := hR) l
  have h2 := rcs_len (R := hR) m
  obtain ⟨a, b⟩ := ho
  refine ⟨by rw [h2], ?_⟩
  cases h with
  | none => rw [e]; exact b
  | some hh =>
    obtain ⟨b9, c9, s9⟩ := hh
    refine ⟨by have := b.1; rw [h2, e, ← h1]; exact this, by rw [e]; exact b.2⟩
theorem toHv_inj {ls : List (List Int)} {s t : List Int} (h1 : HO ls s) (h2 : HO ls t) (e : toHv s = toHv t) : s = t := by
  have hn := h1.vb.n
  have a := h1.len
  have b := h2.len
  have e2 := congrArg Vector.toList e
  rw [toHv_pad (by omega), toHv_pad (by omega)] at e2
  rw [← pad_take a, e2, pad_take b]


set_option maxRecDepth 100000 in
theorem collect_ok {w0 w : World} {bM bB : Nat} {es : List Ent} {R : Heap} (hn : New w0 w ((bB, Obj.cells #[.map (some bM)] 79 (0, 0)) :: (bM, mobj es) :: R)) (h6 : ∀ q ∈ es, q.1.length = 6) (hl : es.length ≤ 100000) :
    Calls Try.prog 108 #[.func (.func 110) #[] #[.pointer (some ⟨bB, 0, none⟩)]] w (Post (X := HD × List Hv) (fun x => gval x.1 x.2.length) (fun x => (x.2.map Vector.toList).Perm (keysE es) ∧ goR hR x.1 x.2) (fun x => gbR hR 69 x.1 x.2 ++ ((bB, Obj.cells #[.map (some bM)] 79 (0, 0)) :: (bM, mobj es) :: R)) w0) := by
  refine callsM hn Try.func108 rfl (n := 5) rfl (by simp) ?_
  refine TC.seq ?_
  refine TC.region ?_
  refine TL.pure (PV.assign rfl) rfl (by decide) ?_
  refine TL.nil ?_
  refine TQ.thenC ?_
  refine TC.seq ?_
  refine TC.region ?_
  refine TL.pure (PV.move rfl) rfl (by decide) ?_
  refine TL.callW (X := HD × List Hv) (fun x => gval x.1 x.2.length) (fun x => (x.2.map Vector.toList).Perm (keysE es) ∧ goR hR x.1 x.2) (fun x => gbR hR 69 x.1 x.2 ++ ((bB, Obj.cells #[.map (some bM)] 79 (0, 0)) :: (bM, mobj es) :: R)) rfl Tb.gofn_114 (fun a w hs => appendSeq_ok hs.new h6 (by omega)) rfl (by decide) (fun x9 hx9 => ?_)
  refine TL.pure (PV.assign rfl) rfl (by decide) ?_
  refine TL.nil ?_
  refine TQ.thenC ?_
  refine TC.ret ?_
  refine TQ.retE1 rfl rfl ?_
  exact ⟨x9, rfl, hx9, List.Sublist.refl _⟩

set_option maxRecDepth 100000 in
set_option maxHeartbeats 1000000 in
theorem sortedFunc_ok {w0 w : World} {bM bB : Nat} {es : List Ent} {R : Heap} (hn : New w0 w ((bB, Obj.cells #[.map (some bM)] 79 (0, 0)) :: (bM, mobj es) :: R)) (h6 : ∀ q ∈ es, q.1.length = 6) (hl : es.length ≤ 100000) (hpos : 0 < es.length) :
    Calls Try.prog 101 #[.func (.func 110) #[] #[.pointer (some ⟨bB, 0, none⟩)], .func (.func 103) #[] #[]] w (Post (X := HD × List Hv) (fun x => gval x.1 x.2.length) (fun x => (∃ l, (l.map Vector.toList).Perm (keysE es) ∧ x.2.Perm l ∧ x.2.Pairwise LeH) ∧ goR hR x.1 x.2) (fun x => gbR hR 69 x.1 x.2 ++ ((bB, Obj.cells #[.map (some bM)] 79 (0, 0)) :: (bM, mobj es) :: R)) w0) := by
  refine callsM hn Try.func101 rfl (n := 12) rfl (by simp) ?_
  refine TC.seq ?_
  refine TC.region ?_
  refine TL.pure (PV.assign rfl) rfl (by decide) ?_
  refine TL.nil ?_
  refine TQ.thenC ?_
  refine TC.seq ?_
  refine TC.region ?_
  refine TL.pure (PV.move rfl) rfl (by decide) ?_
  refine TL.callW (X := HD × List Hv) (fun x => gval x.1 x.2.length) (fun x => (x.2.map Vector.toList).Perm (keysE es) ∧ goR hR x.1 x.2) (fun x => gbR hR 69 x.1 x.2 ++ ((bB, Obj.cells #[.map (some bM)] 79 (0, 0)) :: (bM, mobj es) :: R)) rfl Tb.gofn_108 (fun a w hs => collect_ok hs.new h6 hl) rfl (by decide) (fun x9 hx9 => ?_)
  refine TL.pure (PV.assign rfl) rfl (by decide) ?_
  refine TL.nil ?_
  refine TQ.thenC ?_
  refine TC.seq ?_
  have hlen : x9.2.length = es.length := by have h7 := hx9.1.length_eq; simpa [keysE] using h7
  obtain ⟨h9, l9⟩ := x9
  obtain ⟨b9, c9, s9, rfl⟩ := hdr_some hx9.2 (by show 0 < l9.length; have h7 : l9.length = es.length := hlen; omega)
  have hlen2 : l9.length = es.length := hlen
  refine TC.region ?_
  refine TL.pure (PV.move rfl) rfl (by decide) ?_
  refine TL.pure (PV.move rfl) rfl (by decide) ?_
  refine TL.callW (X := List Hv) (fun _ => .tuple #[]) (fun m => m.Perm l9 ∧ m.Pairwise LeH) (fun m => (b9, Obj.cells (rcs hR m ++ s9).toArray 69 (0, 0)) :: ((bB, Obj.cells #[.map (some bM)] 79 (0, 0)) :: (bM, mobj es) :: R)) rfl Tb.gofn_109 (fun a w hs => sort_ok hs.new rfl (by omega)) rfl (by decide) (fun m9 hm9 => ?_)
  refine TL.nil ?_
  refine TQ.thenC ?_
  refine TC.seq ?_
  refine TC.region ?_
  refine TL.pure (PV.move rfl) rfl (by decide) ?_
  refine TL.pure (PV.assign rfl) rfl (by decide) ?_
  refine TL.nil ?_
  refine TQ.thenC ?_
  refine TC.ret ?_
  refine TQ.retE1 rfl rfl ?_
  have hml := hm9.1.length_eq
  exact ⟨(some (b9, c9, s9), m9), by show _ = gval (some (b9, c9, s9)) m9.length; rw [hml], ⟨⟨l9, hx9.1, hm9⟩, goR_len hx9.2 hml⟩, List.Sublist.refl _⟩

set_option maxRecDepth 100000 in
set_option maxHeartbeats 1000000 in
theorem ascending_ok (w0 : World) (p : Option Addr) (cap : Nat) (ls : List (List Int)) (hr : LsAt w0 p ls) (hb : VB ls) :
    Calls Try.prog 83 #[bv p ls.length cap] w0 (Post (X := HD) (fun h => gval h (allV ls).length) (fun h => goR hR h (allV ls)) (fun h => gbR hR 69 h (allV ls)) w0) := by
  refine calls Try.func83 rfl (n := 7) rfl (by simp) ?_
  refine TC.seq ?_
  refine TC.region ?_
  refine TL.box rfl rfl (by decide) (fun b0 hb0 => ?_)
  refine TL.pure (PV.assign rfl) rfl (by decide) ?_
  refine TL.nil ?_
  refine TQ.thenC ?_
  refine TC.seq ?_
  refine TC.region ?_
  refine TL.pure (PV.loadBox rfl Tb.agg_24 (by repeat (first | exact List.Mem.head _ | refine List.Mem.tail _ ?_ | refine List.mem_append_right _ ?_)) rfl) rfl (by decide) ?_
  refine TL.call rfl Tb.gofn_81 (fun a w hs => worths_ok w _ _ _ (hr.new hs.new) hb) rfl (by decide) (fun y9 hy9 => ?_)
  refine TL.call rfl Tb.gofn_102 (fun a w hs => keys_ok w y9.1) rfl (by decide) (fun k9 _ => ?_)
  refine TL.callW (X := HD × List Hv) (fun x => gval x.1 x.2.length) (fun x => (∃ l, (l.map Vector.toList).Perm (keysE y9.2) ∧ x.2.Perm l ∧ x.2.Pairwise LeH) ∧ goR hR x.1 x.2) (fun x => gbR hR 69 x.1 x.2 ++ ((k9, Obj.cells #[.map (some y9.1)] 79 (0, 0)) :: (y9.1, mobj y9.2) :: [(b0, Obj.cells #[.slice p ls.length cap] 24 (0, 0))])) rfl Tb.gofn_101 (fun a w hs => sortedFunc_ok hs.new (fun q hq => (hy9.good q hq).1.len) (by have h7 := count_is hb hy9; have h8 := allH_15625 hb; omega) (by have h7 := hy9.zero; cases h8 : y9.2 with | nil => rw [h8] at h7; cases h7 | cons _ _ => simp)) rfl (by decide) (fun x9 hx9 => ?_)
  refine TL.pure (PV.assign rfl) rfl (by decide) ?_
  refine TL.nil ?_
  refine TQ.thenC ?_
  refine TC.ret ?_
  refine TQ.retE1 rfl rfl ?_
  obtain ⟨⟨l9, hp9, hq9, hs9⟩, hg9⟩ := hx9
  have hm9 := keys_sorted hb hy9 hp9 hq9 hs9
  rw [hm9] at hg9
  exact ⟨x9.1, by rw [hm9], hg9, by rw [hm9]; exact List.sublist_append_left _ _⟩

set_option maxRecDepth 100000 in
set_option maxHeartbeats 1000000 in
theorem Rank_ok (w0 : World) (p : Option Addr) (cap : Nat) (ls : List (List Int)) (hr : LsAt w0 p ls) (pl : Option Addr) (cl : Nat) (xs : List Int) (hx : IntsAt w0 pl xs) :
    Calls Try.prog 47 #[bv p ls.length cap, .slice pl xs.length cl] w0 (Post (X := Nat) (fun r => .tuple #[.int .i64 r, .int .i64 (holI ls xs)]) (fun r => RkP ls xs r) (fun _ => []) w0) := by
  refine calls Try.func47 rfl (n := 18) rfl (by simp) ?_
  refine TC.seq ?_
  refine TC.region ?_
  refine TL.box rfl rfl (by decide) (fun b0 hb0 => ?_)
  refine TL.pure (PV.assign rfl) rfl (by decide) ?_
  refine TL.pure (PV.assign rfl) rfl (by decide) ?_
  refine TL.nil ?_
  refine TQ.thenC ?_
  refine TC.seq ?_
  refine TC.seq ?_
  refine TC.region ?_
  refine TL.pure (PV.loadBox rfl Tb.agg_24 (by repeat (first | exact List.Mem.head _ | refine List.Mem.tail _ ?_ | refine List.mem_append_right _ ?_)) rfl) rfl (by decide) ?_
  refine TL.pure (PV.move rfl) rfl (by decide) ?_
  refine TL.call rfl Tb.gofn_23 (fun a w hs => checkHollow_ok w _ _ _ (hr.new hs.new) _ _ _ (hx.new hs.new)) rfl (by decide) (fun _ _ => ?_)
  refine TL.pure (PV.assign rfl) rfl (by decide) ?_
  refine TL.nil ?_
  refine TQ.thenC ?_
  refine TC.seq ?_
  refine TC.region ?_
  refine TL.pure (PV.move rfl) rfl (by decide) ?_
  refine TL.pure (PV.neq rfl rfl) rfl (by decide) ?_
  refine TL.nil ?_
  refine TQ.thenC ?_
  first | refine TC.condD rfl (fun hbad => ?_) (fun hbad => ?_) | refine TC.cond rfl (fun hbad => ?_) (fun hbad => ?_)
  · skip
    refine TC.seq ?_
    refine TC.region ?_
    refine TL.pure (PV.move rfl) rfl (by decide) ?_
    refine TL.pure (PV.assign rfl) rfl (by decide) ?_
    refine TL.pure (PV.assign rfl) rfl (by decide) ?_
    refine TL.nil ?_
    refine TQ.thenC ?_
    refine TC.ret ?_
    refine TQ.thenR ?_
    refine TQ.retE2 rfl rfl rfl ?_
    exact ⟨0, rfl, ⟨fun _ => rfl, fun h => absurd h hbad⟩, List.nil_sublist _⟩
  · skip
    refine TC.skip ?_
    refine TQ.thenC ?_
    refine TC.seq ?_
    have hh := ho_of hbad
    have hb := hh.vb
    have hn9 := hb.n
    have hxl := hh.len
    have hv0 : holI ls xs = 0 := Decidable.of_not_not hbad
    have hal := allH_15625 hb
    refine TC.region ?_
    refine TL.pure (PV.loadBox rfl Tb.agg_24 (by repeat (first | exact List.Mem.head _ | refine List.Mem.tail _ ?_ | refine List.mem_append_right _ ?_)) rfl) rfl (by decide) ?_
    refine TL.call rfl Tb.gofn_83 (fun a w hs => ascending_ok w _ _ _ (hr.new hs.new) hb) rfl (by decide) (fun h8 hh8 => ?_)
    refine TL.pure (PV.move rfl) rfl (by decide) ?_
    refine TL.call rfl Tb.gofn_84 (fun a w hs => hollowOf_ok w _ _ _ (hx.new hs.new) (by omega)) rfl (by decide) (fun _ _ => ?_)
    refine TL.call rfl Tb.gofn_82 (fun a w hs => (by rw [← toHv_pad (xs := xs) (by omega), show gval h8 (allV ls).length = .slice (gp h8) (allV ls).length (gc h8) from gval_eq hh8]; exact index_ok w _ _ (allV ls) (RecsAt.s (e := 69) hs.new (fun yy hyy => by simp only [List.mem_append, List.mem_cons]; simp [hyy]) hh8) (by rw [allV_len]; omega) (toHv xs))) rfl (by decide) (fun i9 hi9 => ?_)
    refine TL.pure (PV.assign rfl) rfl (by decide) ?_
    refine TL.pure (PV.assign rfl) rfl (by decide) ?_
    refine TL.nil ?_
    refine TQ.thenC ?_
    refine TC.ret ?_
    refine TQ.retE2 rfl rfl rfl ?_
    rcases hi9 with ⟨k9, rfl, hk9, hke⟩ | ⟨_, hno⟩
    · rw [allV_len] at hk9
      exact ⟨k9, by rw [hv0], ⟨fun h => absurd hv0 h, fun _ => ⟨hk9, by rw [allV_at hk9] at hke; exact toHv_inj (ho_at hb hk9) hh hke⟩⟩, List.nil_sublist _⟩
    · exact absurd ((allV_mem hb _).2 (by rw [toHv_pad (by omega)]; exact ho_rh hh)) hno

set_option maxRecDepth 100000 in
set_option maxHeartbeats 1000000 in
theorem Unrank_ok (w0 : World) (p : Option Addr) (cap : Nat) (ls : List (List Int)) (hr : LsAt w0 p ls) (i : Int) :
    Calls Try.prog 49 #[bv p ls.length cap, .int .i64 i] w0 (Post (X := HD) (fun h => .tuple #[gval h (urL ls i).length, .int .i64 (urI ls i)]) (fun h => goI (h, urL ls i)) (fun h => gbI (h, urL ls i)) w0) := by
  refine calls Try.func49 rfl (n := 27) rfl (by simp) ?_
  refine TC.seq ?_
  refine TC.region ?_
  refine TL.box rfl rfl (by decide) (fun b0 hb0 => ?_)
  refine TL.pure (PV.assign rfl) rfl (by decide) ?_
  refine TL.pure (PV.assign rfl) rfl (by decide) ?_
  refine TL.nil ?_
  refine TQ.thenC ?_
  refine TC.seq ?_
  refine TC.seq ?_
  refine TC.region ?_
  refine TL.pure (PV.loadBox rfl Tb.agg_24 (by repeat (first | exact List.Mem.head _ | refine List.Mem.tail _ ?_ | refine List.mem_append_right _ ?_)) rfl) rfl (by decide) ?_
  refine TL.call rfl Tb.gofn_21 (fun a w hs => validate_ok w _ _ _ (hr.new hs.new)) rfl (by decide) (fun _ _ => ?_)
  refine TL.pure (PV.assign rfl) rfl (by decide) ?_
  refine TL.nil ?_
  refine TQ.thenC ?_
  refine TC.seq ?_
  refine TC.region ?_
  refine TL.pure (PV.move rfl) rfl (by decide) ?_
  refine TL.pure (PV.neq rfl rfl) rfl (by decide) ?_
  refine TL.nil ?_
  refine TQ.thenC ?_
  first | refine TC.condD rfl (fun hbad => ?_) (fun hbad => ?_) | refine TC.cond rfl (fun hbad => ?_) (fun hbad => ?_)
  · skip
    refine TC.seq ?_
    refine TC.region ?_
    refine TL.pure (PV.move rfl) rfl (by decide) ?_
    refine TL.pure (PV.assign rfl) rfl (by decide) ?_
    refine TL.pure (PV.assign rfl) rfl (by decide) ?_
    refine TL.nil ?_
    refine TQ.thenC ?_
    refine TC.ret ?_
    refine TQ.thenR ?_
    refine TQ.retE2 rfl rfl rfl ?_
    first | exact ⟨none, by rw [urL_no (by rw [ur_1 hbad]; exact hbad), ur_1 hbad]; rfl, by rw [urL_no (by rw [ur_1 hbad]; exact hbad)]; exact goI_nil, by rw [urL_no (by rw [ur_1 hbad]; exact hbad)]; exact List.nil_sublist _⟩ | exact ⟨none, by rw [urL_no (by rw [ur_4 hbad (by omega)]; decide), ur_4 hbad (by omega)]; rfl, by rw [urL_no (by rw [ur_4 hbad (by omega)]; decide)]; exact goI_nil, by rw [urL_no (by rw [ur_4 hbad (by omega)]; decide)]; exact List.nil_sublist _⟩ | (rw [htk] at hh9; exact ⟨h9, by rw [h0, htk], hh9, by rw [htk]; exact List.sublist_append_left _ _⟩)
  · skip
    refine TC.skip ?_
    refine TQ.thenC ?_
    refine TC.seq ?_
    have hb := vb_of hbad
    have hn9 := hb.n
    have hal := allH_15625 hb
    have hvl := allV_len ls
    refine TC.region ?_
    refine TL.pure (PV.loadBox rfl Tb.agg_24 (by repeat (first | exact List.Mem.head _ | refine List.Mem.tail _ ?_ | refine List.mem_append_right _ ?_)) rfl) rfl (by decide) ?_
    refine TL.call rfl Tb.gofn_83 (fun a w hs => ascending_ok w _ _ _ (hr.new hs.new) hb) rfl (by decide) (fun h8 hh8 => ?_)
    refine TL.pure (PV.assign rfl) rfl (by decide) ?_
    refine TL.nil ?_
    refine TQ.thenC ?_
    refine TC.seq ?_
    refine TC.seq ?_
    refine TC.region ?_
    refine TL.pure (PV.move rfl) rfl (by decide) ?_
    refine TL.pure (PV.move rfl) rfl (by decide) ?_
    refine TL.pure (PV.lenG rfl hh8 Tb.sl_82) rfl (by decide) ?_
    refine TL.pure (PV.sub rfl rfl (by omega)) rfl (by decide) ?_
    refine TL.call rfl Tb.gofn_65 (fun a w hs => isWithin_ok w _ _ _) rfl (by decide) (fun _ _ => ?_)
    refine TL.pure ((by first | exact PV.notD rfl | exact PV.not rfl)) rfl (by decide) ?_
    refine TL.nil ?_
    refine TQ.thenC ?_
    first | refine TC.condD rfl (fun hr1 => ?_) (fun hr1 => ?_) | refine TC.cond rfl (fun hr1 => ?_) (fun hr1 => ?_)
    · skip
      refine TC.seq ?_
      refine TC.region ?_
      refine TL.pure (PV.assign rfl) rfl (by decide) ?_
      refine TL.pure (PV.assign rfl) rfl (by decide) ?_
      refine TL.nil ?_
      refine TQ.thenC ?_
      refine TC.ret ?_
      refine TQ.thenR ?_
      refine TQ.retE2 rfl rfl rfl ?_
      first | exact ⟨none, by rw [urL_no (by rw [ur_1 hbad]; exact hbad), ur_1 hbad]; rfl, by rw [urL_no (by rw [ur_1 hbad]; exact hbad)]; exact goI_nil, by rw [urL_no (by rw [ur_1 hbad]; exact hbad)]; exact List.nil_sublist _⟩ | exact ⟨none, by rw [urL_no (by rw [ur_4 hbad (by omega)]; decide), ur_4 hbad (by omega)]; rfl, by rw [urL_no (by rw [ur_4 hbad (by omega)]; decide)]; exact goI_nil, by rw [urL_no (by rw [ur_4 hbad (by omega)]; decide)]; exact List.nil_sublist _⟩ | (rw [htk] at hh9; exact ⟨h9, by rw [h0, htk], hh9, by rw [htk]; exact List.sublist_append_left _ _⟩)
    · skip
      refine TC.skip ?_
      refine TQ.thenC ?_
      refine TC.seq ?_
      have hir : 0 ≤ i ∧ i < (allH ls).length := by omega
      have h0 : urI ls i = 0 := ur_0 hbad hir
      have hil : i.toNat < (allH ls).length := by omega
      have hht := ho_at hb hil
      have htk : (toHv ((allH ls).getD i.toNat [])).toList.take ls.length = urL ls i := by rw [urL_ok h0, toHv_pad (by have := hht.len; omega)]; exact pad_take hht.len
      refine TC.mix [true, true, true, true, true, false, false, false] _ 3 Tb.mixed rfl (by kernel_rfl) (by kernel_rfl) (by kernel_rfl) (by kernel_rfl) (List.Sublist.refl _) ?_
      refine TB.op (SOK.pure (PV.move rfl) rfl) (by decide) ?_
      refine TB.op (SOK.pure (PV.move rfl) rfl) (by decide) ?_
      refine TB.op (SOK.pure (PV.indexG (j := i.toNat) rfl rfl hh8 Tb.elm_82 (by omega) (by omega)) rfl) (by decide) ?_
      refine TB.op (SOK.pure (PV.loadRec (e := 69) (R := hR) (h := h8) (l := allV ls) (j := i.toNat) (r := toHv ((allH ls).getD i.toNat [])) rfl Tb.agg_69 (fun yy hyy => by simp only [List.mem_append, List.mem_cons]; simp [hyy]) hh8 (by omega) (allV_at hil)) rfl) (by decide) ?_
      refine TB.op (SOK.pure (PV.loadBox rfl Tb.agg_24 (by repeat (first | exact List.Mem.head _ | refine List.Mem.tail _ ?_ | refine List.mem_append_right _ ?_)) rfl) rfl) (by decide) ?_
      refine TB.no ?_
      refine TB.no ?_
      refine TB.no ?_
      refine TB.fin ?_
      refine TX.step [5] (by kernel_rfl) (by decide) ⟨⟨_, rfl, ?_⟩, trivial⟩
      refine TL.call rfl Tb.gofn_85 (fun a w hs => in_ok w (toHv ((allH ls).getD i.toNat [])).toList (by simp) _ _ _ (hr.new hs.new) hn9) rfl (by decide) (fun h9 hh9 => ?_)
      refine TL.nil ?_
      refine TX.next (.inl (by repeat (first | exact List.Sublist.slnil | exact List.nil_sublist _ | exact List.Sublist.refl _ | refine List.Sublist.cons_cons _ ?_ | refine List.Sublist.cons _ ?_ | refine List.Sublist.trans ?_ (List.sublist_append_right _ _)))) ?_
      refine TX.step [6] (by kernel_rfl) (by decide) ⟨⟨_, rfl, ?_⟩, trivial⟩
      refine TL.pure (PV.assign rfl) rfl (by decide) ?_
      refine TL.nil ?_
      refine TX.next (.inr (by kernel_rfl)) ?_
      refine TX.step [7] (by kernel_rfl) (by decide) ⟨⟨_, rfl, ?_⟩, trivial⟩
      refine TL.pure (PV.assign rfl) rfl (by decide) ?_
      refine TL.nil ?_
      refine TX.next (.inr (by kernel_rfl)) ?_
      refine TX.done (by kernel_rfl) ?_
      refine TQ.thenC ?_
      refine TC.ret ?_
      refine TQ.retE2 rfl rfl rfl ?_
      first | exact ⟨none, by rw [urL_no (by rw [ur_1 hbad]; exact hbad), ur_1 hbad]; rfl, by rw [urL_no (by rw [ur_1 hbad]; exact hbad)]; exact goI_nil, by rw [urL_no (by rw [ur_1 hbad]; exact hbad)]; exact List.nil_sublist _⟩ | exact ⟨none, by rw [urL_no (by rw [ur_4 hbad (by omega)]; decide), ur_4 hbad (by omega)]; rfl, by rw [urL_no (by rw [ur_4 hbad (by omega)]; decide)]; exact goI_nil, by rw [urL_no (by rw [ur_4 hbad (by omega)]; decide)]; exact List.nil_sublist _⟩ | (rw [htk] at hh9; exact ⟨h9, by rw [h0, htk], hh9, by rw [htk]; exact List.sublist_append_left _ _⟩)

set_option maxRecDepth 100000 in
set_option maxHeartbeats 2000000 in
theorem cutRanks_ok (w0 : World) (p : Option Addr) (cap : Nat) (ls : List (List Int)) (hr : LsAt w0 p ls) (hl2 : ls.length ≤ 9223372036854775807) (hcap : CapsAt w0 p ls) (pl : Option Addr) (cl : Nat) (xs : List Int) (hx : IntsAt w0 pl xs) (i : Int) (hi : -9223372036854775808 ≤ i ∧ i ≤ 9223372036854775807) :
    Calls Try.prog 9 #[bv p ls.length cap, .slice pl xs.length cl, .int .i64 i] w0 (Post (X := Unit) (fun _ => .bool true) (fun _ => True) (fun _ => []) w0) := by
  refine calls Try.func9 rfl (n := 89) rfl (by simp) ?_
  refine TC.seq ?_
  refine TC.region ?_
  refine TL.box rfl rfl (by decide) (fun b0 hb0 => ?_)
  refine TL.pure (PV.assign rfl) rfl (by decide) ?_
  refine TL.nil ?_
  refine TQ.thenC ?_
  refine TC.seq ?_
  refine TC.seq ?_
  refine TC.region ?_
  refine TL.pure (PV.loadBox rfl Tb.agg_24 (by repeat (first | exact List.Mem.head _ | refine List.Mem.tail _ ?_ | refine List.mem_append_right _ ?_)) rfl) rfl (by decide) ?_
  refine TL.pure (PV.move rfl) rfl (by decide) ?_
  refine TL.buildSlice (cs := #[.slice pl xs.length cl]) rfl Tb.sl_22 Tb.zi_25 (by decide) (fill_o _ _ _) (by decide) rfl (by decide) (fun bS hbS => ?_)
  refine TL.call rfl Tb.gofn_17 (fun a w hs => long_ok w _ _ _ (hr.new hs.new) _ 1 [xs] (LsAt.one hs.new (by repeat (first | exact List.Mem.head _ | refine List.Mem.tail _ ?_ | refine List.mem_append_right _ ?_)) (hx.new hs.new)) (show 1 ≤ 1000 by decide) hl2) rfl (by decide) (fun _ _ => ?_)
  refine TL.nil ?_
  refine TQ.thenC ?_
  first | refine TC.condD rfl (fun hlong => ?_) (fun hlong => ?_) | refine TC.cond rfl (fun hlong => ?_) (fun hlong => ?_)
  · skip
    refine TC.seq ?_
    refine TC.region ?_
    refine TL.call rfl Tb.gofn_18 (fun a w hs => sane_ok w) rfl (by decide) (fun _ _ => ?_)
    refine TL.pure (PV.assign rfl) rfl (by decide) ?_
    refine TL.nil ?_
    refine TQ.thenC ?_
    refine TC.ret ?_
    refine TQ.thenR ?_
    refine TQ.retE1 rfl rfl ?_
    first | exact ⟨(), rfl, trivial, List.nil_sublist _⟩ | contradiction | (exfalso; omega) | (exfalso; simp_all; done)
  · skip
    refine TC.skip ?_
    refine TQ.thenC ?_
    refine TC.seq ?_
    refine TC.region ?_
    refine TL.pure (PV.loadBox rfl Tb.agg_24 (by repeat (first | exact List.Mem.head _ | refine List.Mem.tail _ ?_ | refine List.mem_append_right _ ?_)) rfl) rfl (by decide) ?_
    refine TL.call rfl Tb.gofn_45 (fun a w hs => Count_ok w _ _ _ (hr.new hs.new)) rfl (by decide) (fun c9 hc9 => ?_)
    refine TL.pure (PV.move rfl) rfl (by decide) ?_
    refine TL.pure (PV.extract rfl rfl) rfl (by decide) ?_
    refine TL.pure (PV.extract rfl rfl) rfl (by decide) ?_
    refine TL.pure (PV.assign rfl) rfl (by decide) ?_
    refine TL.pure (PV.assign rfl) rfl (by decide) ?_
    refine TL.nil ?_
    refine TQ.thenC ?_
    refine TC.seq ?_
    refine TC.region ?_
    refine TL.pure (PV.loadBox rfl Tb.agg_24 (by repeat (first | exact List.Mem.head _ | refine List.Mem.tail _ ?_ | refine List.mem_append_right _ ?_)) rfl) rfl (by decide) ?_
    refine TL.call rfl Tb.gofn_46 (fun a w hs => rCount_ok w _ _ _ (hr.new hs.new)) rfl (by decide) (fun _ _ => ?_)
    refine TL.pure (PV.move rfl) rfl (by decide) ?_
    refine TL.pure (PV.extract rfl rfl) rfl (by decide) ?_
    refine TL.pure (PV.extract rfl rfl) rfl (by decide) ?_
    refine TL.pure (PV.assign rfl) rfl (by decide) ?_
    refine TL.pure (PV.assign rfl) rfl (by decide) ?_
    refine TL.nil ?_
    refine TQ.thenC ?_
    refine TC.seq ?_
    refine TC.region ?_
    refine TL.pure (PV.loadBox rfl Tb.agg_24 (by repeat (first | exact List.Mem.head _ | refine List.Mem.tail _ ?_ | refine List.mem_append_right _ ?_)) rfl) rfl (by decide) ?_
    refine TL.pure (PV.move rfl) rfl (by decide) ?_
    refine TL.call rfl Tb.gofn_47 (fun a w hs => Rank_ok w _ _ _ (hr.new hs.new) _ _ _ (hx.new hs.new)) rfl (by decide) (fun p9 hp9 => ?_)
    refine TL.pure (PV.move rfl) rfl (by decide) ?_
    refine TL.pure (PV.extract rfl rfl) rfl (by decide) ?_
    refine TL.pure (PV.extract rfl rfl) rfl (by decide) ?_
    refine TL.pure (PV.assign rfl) rfl (by decide) ?_
    refine TL.pure (PV.assign rfl) rfl (by decide) ?_
    refine TL.nil ?_
    refine TQ.thenC ?_
    refine TC.seq ?_
    refine TC.region ?_
    refine TL.pure (PV.loadBox rfl Tb.agg_24 (by repeat (first | exact List.Mem.head _ | refine List.Mem.tail _ ?_ | refine List.mem_append_right _ ?_)) rfl) rfl (by decide) ?_
    refine TL.pure (PV.move rfl) rfl (by decide) ?_
    refine TL.call rfl Tb.gofn_48 (fun a w hs => rRank_ok w _ _ _ (hr.new hs.new) _ _ _ (hx.new hs.new)) rfl (by decide) (fun q9 hq9 => ?_)
    refine TL.pure (PV.move rfl) rfl (by decide) ?_
    refine TL.pure (PV.extract rfl rfl) rfl (by decide) ?_
    refine TL.pure (PV.extract rfl rfl) rfl (by decide) ?_
    refine TL.pure (PV.assign rfl) rfl (by decide) ?_
    refine TL.pure (PV.assign rfl) rfl (by decide) ?_
    refine TL.nil ?_
    refine TQ.thenC ?_
    refine TC.seq ?_
    refine TC.region ?_
    refine TL.pure (PV.loadBox rfl Tb.agg_24 (by repeat (first | exact List.Mem.head _ | refine List.Mem.tail _ ?_ | refine List.mem_append_right _ ?_)) rfl) rfl (by decide) ?_
    refine TL.pure (PV.move rfl) rfl (by decide) ?_
    refine TL.call rfl Tb.gofn_49 (fun a w hs => Unrank_ok w _ _ _ (hr.new hs.new) i) rfl (by decide) (fun x9 hx9 => ?_)
    refine TL.pure (PV.move rfl) rfl (by decide) ?_
    refine TL.pure (PV.extract rfl rfl) rfl (by decide) ?_
    refine TL.pure (PV.extract rfl rfl) rfl (by decide) ?_
    refine TL.pure (PV.assign rfl) rfl (by decide) ?_
    refine TL.pure (PV.assign rfl) rfl (by decide) ?_
    refine TL.nil ?_
    refine TQ.thenC ?_
    refine TC.seq ?_
    refine TC.region ?_
    refine TL.pure (PV.loadBox rfl Tb.agg_24 (by repeat (first | exact List.Mem.head _ | refine List.Mem.tail _ ?_ | refine List.mem_append_right _ ?_)) rfl) rfl (by decide) ?_
    refine TL.pure (PV.move rfl) rfl (by decide) ?_
    refine TL.call rfl Tb.gofn_50 (fun a w hs => rUnrank_ok w _ _ _ (hr.new hs.new) i) rfl (by decide) (fun y9 hy9 => ?_)
    refine TL.pure (PV.move rfl) rfl (by decide) ?_
    refine TL.pure (PV.extract rfl rfl) rfl (by decide) ?_
    refine TL.pure (PV.extract rfl rfl) rfl (by decide) ?_
    refine TL.pure (PV.assign rfl) rfl (by decide) ?_
    refine TL.pure (PV.assign rfl) rfl (by decide) ?_
    refine TL.nil ?_
    refine TQ.thenC ?_
    refine TC.seq ?_
    have e1 : (if validI ls = 0 then (c9.length : Int) else 0) = (if validI ls = 0 then ((allH ls).length : Int) else 0) := by by_cases h0 : validI ls = 0; · { rw [if_pos h0, if_pos h0, count_is (vb_of (by rw [h0]; decide)) (hc9 h0)] }; · { rw [if_neg h0, if_neg h0] }
    have e2 := hp9.unique hq9
    subst e2
    rw [e1]
    refine TC.region ?_
    refine TL.pure (PV.move rfl) rfl (by decide) ?_
    refine TL.pure (PV.move rfl) rfl (by decide) ?_
    refine TL.pure (PV.eql rfl rfl) rfl (by decide) ?_
    refine TL.pure (PV.move rfl) rfl (by decide) ?_
    first | refine TL.splitD 61 rfl (fun h1 => ?_) (fun h1 => ?_) | refine TL.split 61 rfl (fun h1 => ?_) (fun h1 => ?_)
    · skip
      refine TL.pure (PV.move rfl) rfl (by decide) ?_
      refine TL.pure (PV.move rfl) rfl (by decide) ?_
      refine TL.pure (PV.eql rfl rfl) rfl (by decide) ?_
      refine TL.pure (PV.pickT rfl rfl) rfl (by decide) ?_
      refine TL.pure (PV.move rfl) rfl (by decide) ?_
      first | refine TL.splitD 66 rfl (fun h2 => ?_) (fun h2 => ?_) | refine TL.split 66 rfl (fun h2 => ?_) (fun h2 => ?_)
      · skip
        refine TL.pure (PV.move rfl) rfl (by decide) ?_
        refine TL.pure (PV.move rfl) rfl (by decide) ?_
        refine TL.pure (PV.eql rfl rfl) rfl (by decide) ?_
        refine TL.pure (PV.pickT rfl rfl) rfl (by decide) ?_
        refine TL.pure (PV.move rfl) rfl (by decide) ?_
        first | refine TL.splitD 71 rfl (fun h3 => ?_) (fun h3 => ?_) | refine TL.split 71 rfl (fun h3 => ?_) (fun h3 => ?_)
        · skip
          refine TL.pure (PV.move rfl) rfl (by decide) ?_
          refine TL.pure (PV.move rfl) rfl (by decide) ?_
          refine TL.pure (PV.eql rfl rfl) rfl (by decide) ?_
          refine TL.pure (PV.pickT rfl rfl) rfl (by decide) ?_
          refine TL.pure (PV.move rfl) rfl (by decide) ?_
          first | refine TL.splitD 76 rfl (fun h4 => ?_) (fun h4 => ?_) | refine TL.split 76 rfl (fun h4 => ?_) (fun h4 => ?_)
          · skip
            refine TL.pure (PV.move rfl) rfl (by decide) ?_
            refine TL.pure (PV.move rfl) rfl (by decide) ?_
            refine TL.call rfl Tb.gofn_29 (fun a w hs => (by have h0 := sameGG w x9 (urL ls i) hx9 (IntsAt.g (x := (x9, urL ls i)) hs.new (fun yy hyy => by simp only [List.mem_append, List.mem_cons]; simp [hyy]) hx9) y9 (urL ls i) hy9 (IntsAt.g (x := (y9, urL ls i)) hs.new (fun yy hyy => by simp only [List.mem_append, List.mem_cons]; simp [hyy]) hy9) urL_len urL_len; rw [decide_eq_true rfl] at h0; exact h0)) rfl (by decide) (fun _ _ => ?_)
            refine TL.pure (PV.pickT rfl rfl) rfl (by decide) ?_
            refine TL.pure (PV.move rfl) rfl (by decide) ?_
            first | refine TL.splitD 81 rfl (fun h5 => ?_) (fun h5 => ?_) | refine TL.split 81 rfl (fun h5 => ?_) (fun h5 => ?_)
            · skip
              refine TL.pure (PV.move rfl) rfl (by decide) ?_
              refine TL.pure (PV.move rfl) rfl (by decide) ?_
              refine TL.pure (PV.eql rfl rfl) rfl (by decide) ?_
              refine TL.pure (PV.pickT rfl rfl) rfl (by decide) ?_
              refine TL.pure (PV.move rfl) rfl (by decide) ?_
              first | refine TL.splitD 86 rfl (fun h6 => ?_) (fun h6 => ?_) | refine TL.split 86 rfl (fun h6 => ?_) (fun h6 => ?_)
              · skip
                refine TL.call rfl Tb.gofn_18 (fun a w hs => sane_ok w) rfl (by decide) (fun _ _ => ?_)
                refine TL.pure (PV.pickT rfl rfl) rfl (by decide) ?_
                refine TL.pure (PV.assign rfl) rfl (by decide) ?_
                refine TL.nil ?_
                refine TQ.thenC ?_
                refine TC.ret ?_
                refine TQ.retE1 rfl rfl ?_
                first | exact ⟨(), rfl, trivial, List.nil_sublist _⟩ | contradiction | (exfalso; omega) | (exfalso; simp_all; done)
              · skip
                refine TL.skip rfl (fun k hk => by cases hk; decide) ?_
                refine TL.pure (PV.pickF rfl rfl) rfl (by decide) ?_
                refine TL.pure (PV.assign rfl) rfl (by decide) ?_
                refine TL.nil ?_
                refine TQ.thenC ?_
                refine TC.ret ?_
                refine TQ.retE1 rfl rfl ?_
                first | exact ⟨(), rfl, trivial, List.nil_sublist _⟩ | contradiction | (exfalso; omega) | (exfalso; simp_all; done)
            · skip
              refine TL.skip rfl (fun k hk => by cases hk; decide) ?_
              refine TL.skip rfl (fun k hk => by cases hk; decide) ?_
              refine TL.skip rfl (fun k hk => by cases hk; decide) ?_
              refine TL.pure (PV.pickF rfl rfl) rfl (by decide) ?_
              refine TL.pure (PV.move rfl) rfl (by decide) ?_
              refine TL.skip rfl (fun k hk => by cases hk; decide) ?_
              refine TL.pure (PV.pickF rfl rfl) rfl (by decide) ?_
              refine TL.pure (PV.assign rfl) rfl (by decide) ?_
              refine TL.nil ?_
              refine TQ.thenC ?_
              refine TC.ret ?_
              refine TQ.retE1 rfl rfl ?_
              first | exact ⟨(), rfl, trivial, List.nil_sublist _⟩ | contradiction | (exfalso; omega) | (exfalso; simp_all; done)
          · skip
            refine TL.skip rfl (fun k hk => by cases hk; decide) ?_
            refine TL.skip rfl (fun k hk => by cases hk; decide) ?_
            refine TL.skip rfl (fun k hk => by cases hk; decide) ?_
            refine TL.pure (PV.pickF rfl rfl) rfl (by decide) ?_
            refine TL.pure (PV.move rfl) rfl (by decide) ?_
            refine TL.skip rfl (fun k hk => by cases hk; decide) ?_
            refine TL.skip rfl (fun k hk => by cases hk; decide) ?_
            refine TL.skip rfl (fun k hk => by cases hk; decide) ?_
            refine TL.pure (PV.pickF rfl rfl) rfl (by decide) ?_
            refine TL.pure (PV.move rfl) rfl (by decide) ?_
            refine TL.skip rfl (fun k hk => by cases hk; decide) ?_
            refine TL.pure (PV.pickF rfl rfl) rfl (by decide) ?_
            refine TL.pure (PV.assign rfl) rfl (by decide) ?_
            refine TL.nil ?_
            refine TQ.thenC ?_
            refine TC.ret ?_
            refine TQ.retE1 rfl rfl ?_
            first | exact ⟨(), rfl, trivial, List.nil_sublist _⟩ | contradiction | (exfalso; omega) | (exfalso; simp_all; done)
        · skip
          refine TL.skip rfl (fun k hk => by cases hk; decide) ?_
          refine TL.skip rfl (fun k hk => by cases hk; decide) ?_
          refine TL.skip rfl (fun k hk => by cases hk; decide) ?_
          refine TL.pure (PV.pickF rfl rfl) rfl (by decide) ?_
          refine TL.pure (PV.move rfl) rfl (by decide) ?_
          refine TL.skip rfl (fun k hk => by cases hk; decide) ?_
          refine TL.skip rfl (fun k hk => by cases hk; decide) ?_
          refine TL.skip rfl (fun k hk => by cases hk; decide) ?_
          refine TL.pure (PV.pickF rfl rfl) rfl (by decide) ?_
          refine TL.pure (PV.move rfl) rfl (by decide) ?_
          refine TL.skip rfl (fun k hk => by cases hk; decide) ?_
          refine TL.skip rfl (fun k hk => by cases hk; decide) ?_
          refine TL.skip rfl (fun k hk => by cases hk; decide) ?_
          refine TL.pure (PV.pickF rfl rfl) rfl (by decide) ?_
          refine TL.pure (PV.move rfl) rfl (by decide) ?_
          refine TL.skip rfl (fun k hk => by cases hk; decide) ?_
          refine TL.pure (PV.pickF rfl rfl) rfl (by decide) ?_
          refine TL.pure (PV.assign rfl) rfl (by decide) ?_
          refine TL.nil ?_
          refine TQ.thenC ?_
          refine TC.ret ?_
          refine TQ.retE1 rfl rfl ?_
          first | exact ⟨(), rfl, trivial, List.nil_sublist _⟩ | contradiction | (exfalso; omega) | (exfalso; simp_all; done)
      · skip
        refine TL.skip rfl (fun k hk => by cases hk; decide) ?_
        refine TL.skip rfl (fun k hk => by cases hk; decide) ?_
        refine TL.skip rfl (fun k hk => by cases hk; decide) ?_
        refine TL.pure (PV.pickF rfl rfl) rfl (by decide) ?_
        refine TL.pure (PV.move rfl) rfl (by decide) ?_
        refine TL.skip rfl (fun k hk => by cases hk; decide) ?_
        refine TL.skip rfl (fun k hk => by cases hk; decide) ?_
        refine TL.skip rfl (fun k hk => by cases hk; decide) ?_
        refine TL.pure (PV.pickF rfl rfl) rfl (by decide) ?_
        refine TL.pure (PV.move rfl) rfl (by decide) ?_
        refine TL.skip rfl (fun k hk => by cases hk; decide) ?_
        refine TL.skip rfl (fun k hk => by cases hk; decide) ?_
        refine TL.skip rfl (fun k hk => by cases hk; decide) ?_
        refine TL.pure (PV.pickF rfl rfl) rfl (by decide) ?_
        refine TL.pure (PV.move rfl) rfl (by decide) ?_
        refine TL.skip rfl (fun k hk => by cases hk; decide) ?_
        refine TL.skip rfl (fun k hk => by cases hk; decide) ?_
        refine TL.skip rfl (fun k hk => by cases hk; decide) ?_
        refine TL.pure (PV.pickF rfl rfl) rfl (by decide) ?_
        refine TL.pure (PV.move rfl) rfl (by decide) ?_
        refine TL.skip rfl (fun k hk => by cases hk; decide) ?_
        refine TL.pure (PV.pickF rfl rfl) rfl (by decide) ?_
        refine TL.pure (PV.assign rfl) rfl (by decide) ?_
        refine TL.nil ?_
        refine TQ.thenC ?_
        refine TC.ret ?_
        refine TQ.retE1 rfl rfl ?_
        first | exact ⟨(), rfl, trivial, List.nil_sublist _⟩ | contradiction | (exfalso; omega) | (exfalso; simp_all; done)
    · skip
      refine TL.skip rfl (fun k hk => by cases hk; decide) ?_
      refine TL.skip rfl (fun k hk => by cases hk; decide) ?_
      refine TL.skip rfl (fun k hk => by cases hk; decide) ?_
      refine TL.pure (PV.pickF rfl rfl) rfl (by decide) ?_
      refine TL.pure (PV.move rfl) rfl (by decide) ?_
      refine TL.skip rfl (fun k hk => by cases hk; decide) ?_
      refine TL.skip rfl (fun k hk => by cases hk; decide) ?_
      refine TL.skip rfl (fun k hk => by cases hk; decide) ?_
      refine TL.pure (PV.pickF rfl rfl) rfl (by decide) ?_
      refine TL.pure (PV.move rfl) rfl (by decide) ?_
      refine TL.skip rfl (fun k hk => by cases hk; decide) ?_
      refine TL.skip rfl (fun k hk => by cases hk; decide) ?_
      refine TL.skip rfl (fun k hk => by cases hk; decide) ?_
      refine TL.pure (PV.pickF rfl rfl) rfl (by decide) ?_
      refine TL.pure (PV.move rfl) rfl (by decide) ?_
      refine TL.skip rfl (fun k hk => by cases hk; decide) ?_
      refine TL.skip rfl (fun k hk => by cases hk; decide) ?_
      refine TL.skip rfl (fun k hk => by cases hk; decide) ?_
      refine TL.pure (PV.pickF rfl rfl) rfl (by decide) ?_
      refine TL.pure (PV.move rfl) rfl (by decide) ?_
      refine TL.skip rfl (fun k hk => by cases hk; decide) ?_
      refine TL.skip rfl (fun k hk => by cases hk; decide) ?_
      refine TL.skip rfl (fun k hk => by cases hk; decide) ?_
      refine TL.pure (PV.pickF rfl rfl) rfl (by decide) ?_
      refine TL.pure (PV.move rfl) rfl (by decide) ?_
      refine TL.skip rfl (fun k hk => by cases hk; decide) ?_
      refine TL.pure (PV.pickF rfl rfl) rfl (by decide) ?_
      refine TL.pure (PV.assign rfl) rfl (by decide) ?_
      refine TL.nil ?_
      refine TQ.thenC ?_
      refine TC.ret ?_
      refine TQ.retE1 rfl rfl ?_
      first | exact ⟨(), rfl, trivial, List.nil_sublist _⟩ | contradiction | (exfalso; omega) | (exfalso; simp_all; done)

end Go.Proofs.Ytfgjojoipbbacaa

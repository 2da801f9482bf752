/- Count, and what is joined of the best hollows: contracts. -/
import Derived.Test.YtfgjojoipbbacaaCJ
set_option linter.unusedVariables false
set_option linter.unusedSimpArgs false
namespace Go.Proofs.Ytfgjojoipbbacaa
open Go.Sx Go.RowKit
def joinS (J : Int → Int → Int) (s : List Int × Int) (e : Ent) : List Int × Int := if s.2 < e.2 then e else if e.2 = s.2 then (List.zipWith J s.1 e.1, s.2) else s
def joinF (J : Int → Int → Int) (es : List Ent) (v : List Nat) : List Int × Int := v.foldl (fun s j => joinS J s (es.getD j default)) (Zl, 0)
theorem joinF_snoc (J : Int → Int → Int) (es : List Ent) (v : List Nat) (j : Nat) : joinF J es (v ++ [j]) = joinS J (joinF J es v) (es.getD j default) := by simp [joinF, List.foldl_append]
/-- The order in which a map's entries came. -/
structure Ord (N : Nat) (v : List Nat) : Prop where
  nd : v.Nodup
  lt : ∀ j ∈ v, j < N
theorem Ord.len {N : Nat} {v : List Nat} (h : Ord N v) : v.length ≤ N := by
  have := h.nd.length_le_of_subset (l₂ := List.range N) (fun j hj => List.mem_range.2 (h.lt j hj))
  rwa [List.length_range] at this
theorem Ord.snoc {N : Nat} {v : List Nat} {j : Nat} (h : Ord N v) (hj : j < N) (hn : j ∉ v) : Ord N (v ++ [j]) :=
  ⟨by rw [List.nodup_append]; exact ⟨h.nd, by simp, fun a ha b hb e => hn (by obtain rfl := List.mem_singleton.1 hb; exact e ▸ ha)⟩, fun i hi => by
    rcases List.mem_append.1 hi with hi | hi
    · exact h.lt i hi
    · obtain rfl := List.mem_singleton.1 hi; exact hj⟩
theorem fold_len {J : Int → Int → Int} {es : List Ent} (he : ∀ q ∈ es, q.1.length = 6) : ∀ {v : List Nat}, (∀ j ∈ v, j < es.length) → (joinF J es v).1.length = 6 := by
  intro v
  suffices h : ∀ (v : List Nat) (s : List Int × Int), s.1.length = 6 → (∀ j ∈ v, j < es.length) → (v.foldl (fun s j => joinS J s (es.getD j default)) s).1.length = 6 from h v _ rfl
  intro v
  induction v with
  | nil => intro s hs _; exact hs
  | cons j r ih =>
    intro s hs hj
    refine ih _ ?_ (fun i hi => hj i (.tail _ hi))
    have h1 : (es.getD j default).1.length = 6 := he _ (by have := hj j (.head _); simp [List.getD, this])
    show (joinS J s (es.getD j default)).1.length = 6
    unfold joinS
    split
    · exact h1
    · split
      · rw [List.length_zipWith]; omega
      · exact hs
theorem fold_bd {J : Int → Int → Int} {es : List Ent} {v : List Nat} : True := trivial


set_option maxRecDepth 100000 in
set_option maxHeartbeats 1000000 in
theorem Count_ok (w0 : World) (p : Option Addr) (cap : Nat) (ls : List (List Int)) (hr : LsAt w0 p ls) :
    Calls Try.prog 45 #[bv p ls.length cap] w0 (Post (X := List Ent) (fun es => .tuple #[.int .i64 (if validI ls = 0 then (es.length : Int) else 0), .int .i64 (validI ls)]) (fun es => validI ls = 0 → WI ls es []) (fun _ => []) w0) := by
  refine calls Try.func45 rfl (n := 13) rfl (by simp) ?_
  refine TC.seq ?_
  refine TC.region ?_
  refine TL.box rfl rfl (by decide) (fun b0 hb0 => ?_)
  refine TL.pure (PV.assign rfl) rfl (by decide) ?_
  refine TL.pure (PV.assign rfl) rfl (by decide) ?_
  refine TL.nil ?_
  refine TQ.thenC ?_
  refine TC.seq ?_
  refine TC.seq ?_
  refine TC.region ?_
  refine TL.pure (PV.loadBox rfl Tb.agg_24 (by repeat (first | exact List.Mem.head _ | refine List.Mem.tail _ ?_ | refine List.mem_append_right _ ?_)) rfl) rfl (by decide) ?_
  refine TL.call rfl Tb.gofn_21 (fun a w hs => validate_ok w _ _ _ (hr.new hs.new)) rfl (by decide) (fun _ _ => ?_)
  refine TL.pure (PV.assign rfl) rfl (by decide) ?_
  refine TL.nil ?_
  refine TQ.thenC ?_
  refine TC.seq ?_
  refine TC.region ?_
  refine TL.pure (PV.move rfl) rfl (by decide) ?_
  refine TL.pure (PV.neq rfl rfl) rfl (by decide) ?_
  refine TL.nil ?_
  refine TQ.thenC ?_
  first | refine TC.condD rfl (fun hbad => ?_) (fun hbad => ?_) | refine TC.cond rfl (fun hbad => ?_) (fun hbad => ?_)
  · skip
    refine TC.seq ?_
    refine TC.region ?_
    refine TL.pure (PV.move rfl) rfl (by decide) ?_
    refine TL.pure (PV.assign rfl) rfl (by decide) ?_
    refine TL.pure (PV.assign rfl) rfl (by decide) ?_
    refine TL.nil ?_
    refine TQ.thenC ?_
    refine TC.ret ?_
    refine TQ.thenR ?_
    refine TQ.retE2 rfl rfl rfl ?_
    exact ⟨[], by rw [if_neg hbad], fun h => absurd h hbad, List.nil_sublist _⟩
  · skip
    refine TC.skip ?_
    refine TQ.thenC ?_
    refine TC.seq ?_
    have hb := vb_of hbad
    have hv0 : validI ls = 0 := Decidable.of_not_not hbad
    refine TC.region ?_
    refine TL.pure (PV.loadBox rfl Tb.agg_24 (by repeat (first | exact List.Mem.head _ | refine List.Mem.tail _ ?_ | refine List.mem_append_right _ ?_)) rfl) rfl (by decide) ?_
    refine TL.call rfl Tb.gofn_81 (fun a w hs => worths_ok w _ _ _ (hr.new hs.new) hb) rfl (by decide) (fun y9 hy9 => ?_)
    refine TL.pure (PV.lenM (es := y9.2) rfl map_79 (List.mem_cons_self ..)) rfl (by decide) ?_
    refine TL.pure (PV.assign rfl) rfl (by decide) ?_
    refine TL.pure (PV.assign rfl) rfl (by decide) ?_
    refine TL.nil ?_
    refine TQ.thenC ?_
    refine TC.ret ?_
    refine TQ.retE2 rfl rfl rfl ?_
    exact ⟨y9.2, by rw [if_pos hv0, hv0], fun _ => hy9, List.nil_sublist _⟩

set_option maxRecDepth 100000 in
set_option maxHeartbeats 2000000 in
theorem joinBoth_ok (w0 : World) (p : Option Addr) (cap : Nat) (ls : List (List Int)) (hr : LsAt w0 p ls) :
    Calls Try.prog 68 #[bv p ls.length cap, .func (.func 69) #[] #[]] w0 (Post (X := HD × List Ent × List Nat) (fun x => .tuple #[gval x.1 (if validI ls = 0 then (joinF min x.2.1 x.2.2).1.take ls.length else []).length, .int .i64 (if validI ls = 0 then (joinF min x.2.1 x.2.2).2 else 0), .int .i64 (validI ls)]) (fun x => goI (x.1, if validI ls = 0 then (joinF min x.2.1 x.2.2).1.take ls.length else []) ∧ (validI ls = 0 → WI ls x.2.1 [] ∧ Ord x.2.1.length x.2.2 ∧ ∀ j, j < x.2.1.length → j ∈ x.2.2)) (fun x => gbI (x.1, if validI ls = 0 then (joinF min x.2.1 x.2.2).1.take ls.length else [])) w0) := by
  refine calls Try.func68 rfl (n := 41) rfl (by simp) ?_
  refine TC.seq ?_
  refine TC.region ?_
  refine TL.box rfl rfl (by decide) (fun b0 hb0 => ?_)
  refine TL.pure (PV.assign rfl) rfl (by decide) ?_
  refine TL.pure (PV.assign rfl) rfl (by decide) ?_
  refine TL.pure (PV.assign rfl) rfl (by decide) ?_
  refine TL.nil ?_
  refine TQ.thenC ?_
  refine TC.seq ?_
  refine TC.seq ?_
  refine TC.region ?_
  refine TL.pure (PV.loadBox rfl Tb.agg_24 (by repeat (first | exact List.Mem.head _ | refine List.Mem.tail _ ?_ | refine List.mem_append_right _ ?_)) rfl) rfl (by decide) ?_
  refine TL.call rfl Tb.gofn_21 (fun a w hs => validate_ok w _ _ _ (hr.new hs.new)) rfl (by decide) (fun _ _ => ?_)
  refine TL.pure (PV.assign rfl) rfl (by decide) ?_
  refine TL.nil ?_
  refine TQ.thenC ?_
  refine TC.seq ?_
  refine TC.region ?_
  refine TL.pure (PV.move rfl) rfl (by decide) ?_
  refine TL.pure (PV.neq rfl rfl) rfl (by decide) ?_
  refine TL.nil ?_
  refine TQ.thenC ?_
  first | refine TC.condD rfl (fun hbad => ?_) (fun hbad => ?_) | refine TC.cond rfl (fun hbad => ?_) (fun hbad => ?_)
  · skip
    refine TC.seq ?_
    refine TC.region ?_
    refine TL.pure (PV.move rfl) rfl (by decide) ?_
    refine TL.pure (PV.assign rfl) rfl (by decide) ?_
    refine TL.pure (PV.assign rfl) rfl (by decide) ?_
    refine TL.pure (PV.assign rfl) rfl (by decide) ?_
    refine TL.nil ?_
    refine TQ.thenC ?_
    refine TC.ret ?_
    refine TQ.thenR ?_
    refine TQ.retE3 rfl rfl rfl rfl ?_
    exact ⟨(none, [], []), by rw [if_neg hbad, if_neg hbad]; rfl, ⟨by rw [if_neg hbad]; exact ⟨rfl, rfl⟩, fun h => absurd h hbad⟩, by rw [if_neg hbad]; exact List.nil_sublist _⟩
  · skip
    refine TC.skip ?_
    refine TQ.thenC ?_
    refine TC.seq ?_
    have hb := vb_of hbad
    have hv0 : validI ls = 0 := Decidable.of_not_not hbad
    refine TC.region ?_
    refine TL.alloc Tb.zero_69 rfl (by decide) (fun b8 hb8 => ?_)
    refine TL.nil ?_
    refine TQ.thenC ?_
    refine TC.seq ?_
    refine TC.region ?_
    refine TL.pure (PV.assign rfl) rfl (by decide) ?_
    refine TL.nil ?_
    refine TQ.thenC ?_
    refine TC.seq ?_
    refine TC.seq ?_
    refine TC.region ?_
    refine TL.pure (PV.loadBox rfl Tb.agg_24 (by repeat (first | exact List.Mem.head _ | refine List.Mem.tail _ ?_ | refine List.mem_append_right _ ?_)) rfl) rfl (by decide) ?_
    refine TL.call rfl Tb.gofn_81 (fun a w hs => worths_ok w _ _ _ (hr.new hs.new) hb) rfl (by decide) (fun y9 hy9 => ?_)
    obtain ⟨bM, es⟩ := y9
    have hlen6 : ∀ q ∈ es, q.1.length = 6 := fun q hq => (hy9.good q hq).1.len
    refine TL.rangeM (es := es) rfl map_79 (List.mem_cons_self ..) rfl (by decide) (fun r hr9 => ?_)
    refine TL.nil ?_
    refine TQ.thenC ?_
    refine TC.block ?_
    refine TC.lit [(1, _), (2, _), (4, _), (5, _), (6, _), (8, _), (9, _), (19, _)] (by repeat (first | exact True.intro | refine And.intro rfl ?_)) ?_
    refine TC.loopK [1, 2, 4, 5, 6, 8, 19] (X := List Nat) (fun v => Ord es.length v) (fun v => [(9, .int .i64 (joinF min es v).2)]) (fun v => [(r, iobj bM es v), (bM, mobj es), (b8, Obj.cells (intsA (joinF min es v).1) 69 (0, 0)), (b0, Obj.cells #[.slice p ls.length cap] 24 (0, 0))]) (fun v => es.length - v.length) [] ⟨List.nodup_nil, fun j hj => by cases hj⟩ (by repeat (first | exact True.intro | refine And.intro rfl ?_)) (List.Sublist.refl _) ?_
    intro v hv
    refine TC.lit [(1, _), (2, _), (4, _), (5, _), (6, _), (8, _), (9, _), (19, _)] (by repeat (first | exact True.intro | refine And.intro rfl ?_)) ?_
    refine TC.seq ?_
    refine TC.region ?_
    refine TL.nextM (es := es) (seen := v) (fun o => [(r, iobj bM es (v ++ o.toList)), (bM, mobj es), (b8, Obj.cells (intsA (joinF min es v).1) 69 (0, 0)), (b0, Obj.cells #[.slice p ls.length cap] 24 (0, 0))]) rfl (by repeat (first | exact List.Mem.head _ | refine List.Mem.tail _ ?_ | refine List.mem_append_right _ ?_)) (fun o => Upd.head _) rfl (by decide) (fun o ho => ?_)
    refine TL.pure (PV.nextB rfl) rfl (by decide) ?_
    refine TL.nil ?_
    refine TQ.thenC ?_
    refine TC.seq ?_
    first | refine TC.condD rfl (fun hsome => ?_) (fun hsome => ?_) | refine TC.cond rfl (fun hsome => ?_) (fun hsome => ?_)
    · skip
      obtain ⟨j, rfl⟩ := Option.isSome_iff_exists.1 hsome
      obtain ⟨hj, hjv⟩ := ho
      have hk6 : (es.getD j default).1.length = 6 := hlen6 _ (by simp [List.getD, hj])
      have h6 := fold_len (J := min) hlen6 hv.lt
      have hnx := hv.snoc hj hjv
      have hsn := joinF_snoc min es v j
      refine TC.skip ?_
      refine TQ.thenC ?_
      refine TC.block ?_
      refine TC.seq ?_
      refine TC.region ?_
      refine TL.pure (PV.entryM (es := es) (seen := v) (j := j) rfl (by repeat (first | exact List.Mem.head _ | refine List.Mem.tail _ ?_ | refine List.mem_append_right _ ?_)) (by repeat (first | exact List.Mem.head _ | refine List.Mem.tail _ ?_ | refine List.mem_append_right _ ?_)) hj) rfl (by decide) ?_
      refine TL.pure (PV.extract rfl rfl) rfl (by decide) ?_
      refine TL.pure (PV.extract rfl rfl) rfl (by decide) ?_
      refine TL.alloc Tb.zero_69 rfl (by decide) (fun b10 hb10 => ?_)
      refine TL.storeAgg (vs := (es.getD j default).1.map (Value.int .i64)) rfl rfl Tb.cells_69 (by repeat (first | exact Upd.head _ | apply Upd.tail | apply Upd.appR)) (map_len hk6) rfl (ints_one _) rfl rfl ?_
      refine TL.pure (PV.assign rfl) rfl (by decide) ?_
      refine TL.nil ?_
      refine TQ.thenC ?_
      refine TC.seq ?_
      refine TC.region ?_
      refine TL.pure (PV.move rfl) rfl (by decide) ?_
      refine TL.pure (PV.move rfl) rfl (by decide) ?_
      refine TL.pure (PV.gtr rfl rfl) rfl (by decide) ?_
      refine TL.nil ?_
      refine TQ.thenC ?_
      first | refine TC.condD rfl (fun hgt => ?_) (fun hgt => ?_) | refine TC.cond rfl (fun hgt => ?_) (fun hgt => ?_)
      · skip
        have hst : joinF min es (v ++ [j]) = (es.getD j default) := by rw [hsn]; unfold joinS; rw [if_pos hgt]
        refine TC.region ?_
        refine TL.pure (PV.loadBox (cs := (es.getD j default).1.map (Value.int .i64)) rfl Tb.agg_69 (by repeat (first | exact List.Mem.head _ | refine List.Mem.tail _ ?_ | refine List.mem_append_right _ ?_)) (map_len hk6)) rfl (by decide) ?_
        refine TL.pure (PV.move rfl) rfl (by decide) ?_
        refine TL.storeAgg (vs := (es.getD j default).1.map (Value.int .i64)) rfl rfl Tb.cells_69 (by repeat (first | exact Upd.head _ | apply Upd.tail | apply Upd.appR)) (map_len hk6) (map_len h6) (ints_one _) rfl rfl ?_
        refine TL.pure (PV.assign rfl) rfl (by decide) ?_
        refine TL.nil ?_
        refine TQ.blkN ?_
        refine TQ.thenN ?_
        refine TQ.backK (v ++ [j]) (by rw [hst]; refine And.intro rfl True.intro) (by repeat (first | exact True.intro | refine And.intro rfl ?_)) (by rw [hst]; exact (by repeat (first | exact List.Sublist.slnil | exact List.nil_sublist _ | exact List.Sublist.refl _ | exact List.sublist_append_left _ _ | refine List.Sublist.cons_cons _ ?_ | refine (List.append_sublist_append_left _).2 ?_ | refine List.Sublist.cons _ ?_ | refine List.Sublist.trans ?_ (List.sublist_append_right _ _)))) hnx (by have h1 := hnx.len; simp only [List.length_append, List.length_singleton] at h1 ⊢; omega)
      · skip
        refine TC.seq ?_
        refine TC.region ?_
        refine TL.pure (PV.move rfl) rfl (by decide) ?_
        refine TL.pure (PV.move rfl) rfl (by decide) ?_
        refine TL.pure (PV.eql rfl rfl) rfl (by decide) ?_
        refine TL.nil ?_
        refine TQ.thenC ?_
        first | refine TC.condD rfl (fun heq => ?_) (fun heq => ?_) | refine TC.cond rfl (fun heq => ?_) (fun heq => ?_)
        · skip
          have hst : joinF min es (v ++ [j]) = (List.zipWith min (joinF min es v).1 (es.getD j default).1, (joinF min es v).2) := by rw [hsn]; unfold joinS; rw [if_neg hgt, if_pos heq]
          refine TC.region ?_
          refine TL.pure (PV.move rfl) rfl (by decide) ?_
          refine TL.pure (PV.loadBox (cs := (joinF min es v).1.map (Value.int .i64)) rfl Tb.agg_69 (by repeat (first | exact List.Mem.head _ | refine List.Mem.tail _ ?_ | refine List.mem_append_right _ ?_)) (map_len h6)) rfl (by decide) ?_
          refine TL.pure (PV.loadBox (cs := (es.getD j default).1.map (Value.int .i64)) rfl Tb.agg_69 (by repeat (first | exact List.Mem.head _ | refine List.Mem.tail _ ?_ | refine List.mem_append_right _ ?_)) (map_len hk6)) rfl (by decide) ?_
          refine TL.callF (f := 69) (caps := []) (X := Unit) (fun _ => .agg (intsA (List.zipWith min (joinF min es v).1 (es.getD j default).1))) (fun _ => True) (fun _ => [(b10, Obj.cells (intsA (es.getD j default).1) 69 (0, 0)), (r, iobj bM es (v ++ [j])), (bM, mobj es), (b8, Obj.cells (intsA (joinF min es v).1) 69 (0, 0)), (b0, Obj.cells #[.slice p ls.length cap] 24 (0, 0))]) rfl rfl Tb.gofn_69 (fun a w hs => (both_ok w (joinF min es v).1 (es.getD j default).1 h6 hk6).mono fun e w' ⟨x9, h1, h2, h3⟩ => ⟨x9, h1, h2, hs.new.trans h3⟩) rfl (by decide) (fun _ _ => ?_)
          refine TL.storeAgg (vs := (List.zipWith min (joinF min es v).1 (es.getD j default).1).map (Value.int .i64)) rfl rfl Tb.cells_69 (by repeat (first | exact Upd.head _ | apply Upd.tail | apply Upd.appR)) (map_len (by rw [List.length_zipWith, h6, hk6]; rfl)) (map_len h6) (ints_one _) rfl rfl ?_
          refine TL.nil ?_
          refine TQ.blkN ?_
          refine TQ.thenN ?_
          refine TQ.backK (v ++ [j]) (by rw [hst]; refine And.intro rfl True.intro) (by repeat (first | exact True.intro | refine And.intro rfl ?_)) (by rw [hst]; exact (by repeat (first | exact List.Sublist.slnil | exact List.nil_sublist _ | exact List.Sublist.refl _ | exact List.sublist_append_left _ _ | refine List.Sublist.cons_cons _ ?_ | refine (List.append_sublist_append_left _).2 ?_ | refine List.Sublist.cons _ ?_ | refine List.Sublist.trans ?_ (List.sublist_append_right _ _)))) hnx (by have h1 := hnx.len; simp only [List.length_append, List.length_singleton] at h1 ⊢; omega)
        · skip
          have hst : joinF min es (v ++ [j]) = (joinF min es v) := by rw [hsn]; unfold joinS; rw [if_neg hgt, if_neg heq]
          refine TC.skip ?_
          refine TQ.blkN ?_
          refine TQ.thenN ?_
          refine TQ.backK (v ++ [j]) (by rw [hst]; refine And.intro rfl True.intro) (by repeat (first | exact True.intro | refine And.intro rfl ?_)) (by rw [hst]; exact (by repeat (first | exact List.Sublist.slnil | exact List.nil_sublist _ | exact List.Sublist.refl _ | exact List.sublist_append_left _ _ | refine List.Sublist.cons_cons _ ?_ | refine (List.append_sublist_append_left _).2 ?_ | refine List.Sublist.cons _ ?_ | refine List.Sublist.trans ?_ (List.sublist_append_right _ _)))) hnx (by have h1 := hnx.len; simp only [List.length_append, List.length_singleton] at h1 ⊢; omega)
    · skip
      obtain rfl : o = none := by simpa using hsome
      have h6 := fold_len (J := min) hlen6 hv.lt
      refine TC.exit ?_
      refine TQ.thenE ?_
      refine TQ.thenE ?_
      refine TQ.blkS ?_
      refine TQ.thenC ?_
      refine TC.seq ?_
      refine TC.region ?_
      refine TL.pure (PV.loadBox (cs := (joinF min es v).1.map (Value.int .i64)) rfl Tb.agg_69 (by repeat (first | exact List.Mem.head _ | refine List.Mem.tail _ ?_ | refine List.mem_append_right _ ?_)) (map_len h6)) rfl (by decide) ?_
      refine TL.pure (PV.loadBox rfl Tb.agg_24 (by repeat (first | exact List.Mem.head _ | refine List.Mem.tail _ ?_ | refine List.mem_append_right _ ?_)) rfl) rfl (by decide) ?_
      refine TL.call rfl Tb.gofn_85 (fun a w hs => in_ok w (joinF min es v).1 h6 _ _ _ (hr.new hs.new) hb.n) rfl (by decide) (fun h9 hh9 => ?_)
      refine TL.pure (PV.move rfl) rfl (by decide) ?_
      refine TL.pure (PV.assign rfl) rfl (by decide) ?_
      refine TL.pure (PV.assign rfl) rfl (by decide) ?_
      refine TL.pure (PV.assign rfl) rfl (by decide) ?_
      refine TL.nil ?_
      refine TQ.thenC ?_
      refine TC.ret ?_
      refine TQ.retE3 rfl rfl rfl rfl ?_
      exact ⟨(h9, es, v), by rw [if_pos hv0, if_pos hv0, hv0], ⟨by rw [if_pos hv0]; exact hh9, fun _ => ⟨hy9, hv, ho⟩⟩, by rw [if_pos hv0]; exact List.sublist_append_left _ _⟩

set_option maxRecDepth 100000 in
set_option maxHeartbeats 2000000 in
theorem joinEither_ok (w0 : World) (p : Option Addr) (cap : Nat) (ls : List (List Int)) (hr : LsAt w0 p ls) :
    Calls Try.prog 68 #[bv p ls.length cap, .func (.func 72) #[] #[]] w0 (Post (X := HD × List Ent × List Nat) (fun x => .tuple #[gval x.1 (if validI ls = 0 then (joinF max x.2.1 x.2.2).1.take ls.length else []).length, .int .i64 (if validI ls = 0 then (joinF max x.2.1 x.2.2).2 else 0), .int .i64 (validI ls)]) (fun x => goI (x.1, if validI ls = 0 then (joinF max x.2.1 x.2.2).1.take ls.length else []) ∧ (validI ls = 0 → WI ls x.2.1 [] ∧ Ord x.2.1.length x.2.2 ∧ ∀ j, j < x.2.1.length → j ∈ x.2.2)) (fun x => gbI (x.1, if validI ls = 0 then (joinF max x.2.1 x.2.2).1.take ls.length else [])) w0) := by
  refine calls Try.func68 rfl (n := 41) rfl (by simp) ?_
  refine TC.seq ?_
  refine TC.region ?_
  refine TL.box rfl rfl (by decide) (fun b0 hb0 => ?_)
  refine TL.pure (PV.assign rfl) rfl (by decide) ?_
  refine TL.pure (PV.assign rfl) rfl (by decide) ?_
  refine TL.pure (PV.assign rfl) rfl (by decide) ?_
  refine TL.nil ?_
  refine TQ.thenC ?_
  refine TC.seq ?_
  refine TC.seq ?_
  refine TC.region ?_
  refine TL.pure (PV.loadBox rfl Tb.agg_24 (by repeat (first | exact List.Mem.head _ | refine List.Mem.tail _ ?_ | refine List.mem_append_right _ ?_)) rfl) rfl (by decide) ?_
  refine TL.call rfl Tb.gofn_21 (fun a w hs => validate_ok w _ _ _ (hr.new hs.new)) rfl (by decide) (fun _ _ => ?_)
  refine TL.pure (PV.assign rfl) rfl (by decide) ?_
  refine TL.nil ?_
  refine TQ.thenC ?_
  refine TC.seq ?_
  refine TC.region ?_
  refine TL.pure (PV.move rfl) rfl (by decide) ?_
  refine TL.pure (PV.neq rfl rfl) rfl (by decide) ?_
  refine TL.nil ?_
  refine TQ.thenC ?_
  first | refine TC.condD rfl (fun hbad => ?_) (fun hbad => ?_) | refine TC.cond rfl (fun hbad => ?_) (fun hbad => ?_)
  · skip
    refine TC.seq ?_
    refine TC.region ?_
    refine TL.pure (PV.move rfl) rfl (by decide) ?_
    refine TL.pure (PV.assign rfl) rfl (by decide) ?_
    refine TL.pure (PV.assign rfl) rfl (by decide) ?_
    refine TL.pure (PV.assign rfl) rfl (by decide) ?_
    refine TL.nil ?_
    refine TQ.thenC ?_
    refine TC.ret ?_
    refine TQ.thenR ?_
    refine TQ.retE3 rfl rfl rfl rfl ?_
    exact ⟨(none, [], []), by rw [if_neg hbad, if_neg hbad]; rfl, ⟨by rw [if_neg hbad]; exact ⟨rfl, rfl⟩, fun h => absurd h hbad⟩, by rw [if_neg hbad]; exact List.nil_sublist _⟩
  · skip
    refine TC.skip ?_
    refine TQ.thenC ?_
    refine TC.seq ?_
    have hb := vb_of hbad
    have hv0 : validI ls = 0 := Decidable.of_not_not hbad
    refine TC.region ?_
    refine TL.alloc Tb.zero_69 rfl (by decide) (fun b8 hb8 => ?_)
    refine TL.nil ?_
    refine TQ.thenC ?_
    refine TC.seq ?_
    refine TC.region ?_
    refine TL.pure (PV.assign rfl) rfl (by decide) ?_
    refine TL.nil ?_
    refine TQ.thenC ?_
    refine TC.seq ?_
    refine TC.seq ?_
    refine TC.region ?_
    refine TL.pure (PV.loadBox rfl Tb.agg_24 (by repeat (first | exact List.Mem.head _ | refine List.Mem.tail _ ?_ | refine List.mem_append_right _ ?_)) rfl) rfl (by decide) ?_
    refine TL.call rfl Tb.gofn_81 (fun a w hs => worths_ok w _ _ _ (hr.new hs.new) hb) rfl (by decide) (fun y9 hy9 => ?_)
    obtain ⟨bM, es⟩ := y9
    have hlen6 : ∀ q ∈ es, q.1.length = 6 := fun q hq => (hy9.good q hq).1.len
    refine TL.rangeM (es := es) rfl map_79 (List.mem_cons_self ..) rfl (by decide) (fun r hr9 => ?_)
    refine TL.nil ?_
    refine TQ.thenC ?_
    refine TC.block ?_
    refine TC.lit [(1, _), (2, _), (4, _), (5, _), (6, _), (8, _), (9, _), (19, _)] (by repeat (first | exact True.intro | refine And.intro rfl ?_)) ?_
    refine TC.loopK [1, 2, 4, 5, 6, 8, 19] (X := List Nat) (fun v => Ord es.length v) (fun v => [(9, .int .i64 (joinF max es v).2)]) (fun v => [(r, iobj bM es v), (bM, mobj es), (b8, Obj.cells (intsA (joinF max es v).1) 69 (0, 0)), (b0, Obj.cells #[.slice p ls.length cap] 24 (0, 0))]) (fun v => es.length - v.length) [] ⟨List.nodup_nil, fun j hj => by cases hj⟩ (by repeat (first | exact True.intro | refine And.intro rfl ?_)) (List.Sublist.refl _) ?_
    intro v hv
    refine TC.lit [(1, _), (2, _), (4, _), (5, _), (6, _), (8, _), (9, _), (19, _)] (by repeat (first | exact True.intro | refine And.intro rfl ?_)) ?_
    refine TC.seq ?_
    refine TC.region ?_
    refine TL.nextM (es := es) (seen := v) (fun o => [(r, iobj bM es (v ++ o.toList)), (bM, mobj es), (b8, Obj.cells (intsA (joinF max es v).1) 69 (0, 0)), (b0, Obj.cells #[.slice p ls.length cap] 24 (0, 0))]) rfl (by repeat (first | exact List.Mem.head _ | refine List.Mem.tail _ ?_ | refine List.mem_append_right _ ?_)) (fun o => Upd.head _) rfl (by decide) (fun o ho => ?_)
    refine TL.pure (PV.nextB rfl) rfl (by decide) ?_
    refine TL.nil ?_
    refine TQ.thenC ?_
    refine TC.seq ?_
    first | refine TC.condD rfl (fun hsome => ?_) (fun hsome => ?_) | refine TC.cond rfl (fun hsome => ?_) (fun hsome => ?_)
    · skip
      obtain ⟨j, rfl⟩ := Option.isSome_iff_exists.1 hsome
      obtain ⟨hj, hjv⟩ := ho
      have hk6 : (es.getD j default).1.length = 6 := hlen6 _ (by simp [List.getD, hj])
      have h6 := fold_len (J := max) hlen6 hv.lt
      have hnx := hv.snoc hj hjv
      have hsn := joinF_snoc max es v j
      refine TC.skip ?_
      refine TQ.thenC ?_
      refine TC.block ?_
      refine TC.seq ?_
      refine TC.region ?_
      refine TL.pure (PV.entryM (es := es) (seen := v) (j := j) rfl (by repeat (first | exact List.Mem.head _ | refine List.Mem.tail _ ?_ | refine List.mem_append_right _ ?_)) (by repeat (first | exact List.Mem.head _ | refine List.Mem.tail _ ?_ | refine List.mem_append_right _ ?_)) hj) rfl (by decide) ?_
      refine TL.pure (PV.extract rfl rfl) rfl (by decide) ?_
      refine TL.pure (PV.extract rfl rfl) rfl (by decide) ?_
      refine TL.alloc Tb.zero_69 rfl (by decide) (fun b10 hb10 => ?_)
      refine TL.storeAgg (vs := (es.getD j default).1.map (Value.int .i64)) rfl rfl Tb.cells_69 (by repeat (first | exact Upd.head _ | apply Upd.tail | apply Upd.appR)) (map_len hk6) rfl (ints_one _) rfl rfl ?_
      refine TL.pure (PV.assign rfl) rfl (by decide) ?_
      refine TL.nil ?_
      refine TQ.thenC ?_
      refine TC.seq ?_
      refine TC.region ?_
      refine TL.pure (PV.move rfl) rfl (by decide) ?_
      refine TL.pure (PV.move rfl) rfl (by decide) ?_
      refine TL.pure (PV.gtr rfl rfl) rfl (by decide) ?_
      refine TL.nil ?_
      refine TQ.thenC ?_
      first | refine TC.condD rfl (fun hgt => ?_) (fun hgt => ?_) | refine TC.cond rfl (fun hgt => ?_) (fun hgt => ?_)
      · skip
        have hst : joinF max es (v ++ [j]) = (es.getD j default) := by rw [hsn]; unfold joinS; rw [if_pos hgt]
        refine TC.region ?_
        refine TL.pure (PV.loadBox (cs := (es.getD j default).1.map (Value.int .i64)) rfl Tb.agg_69 (by repeat (first | exact List.Mem.head _ | refine List.Mem.tail _ ?_ | refine List.mem_append_right _ ?_)) (map_len hk6)) rfl (by decide) ?_
        refine TL.pure (PV.move rfl) rfl (by decide) ?_
        refine TL.storeAgg (vs := (es.getD j default).1.map (Value.int .i64)) rfl rfl Tb.cells_69 (by repeat (first | exact Upd.head _ | apply Upd.tail | apply Upd.appR)) (map_len hk6) (map_len h6) (ints_one _) rfl rfl ?_
        refine TL.pure (PV.assign rfl) rfl (by decide) ?_
        refine TL.nil ?_
        refine TQ.blkN ?_
        refine TQ.thenN ?_
        refine TQ.backK (v ++ [j]) (by rw [hst]; refine And.intro rfl True.intro) (by repeat (first | exact True.intro | refine And.intro rfl ?_)) (by rw [hst]; exact (by repeat (first | exact List.Sublist.slnil | exact List.nil_sublist _ | exact List.Sublist.refl _ | exact List.sublist_append_left _ _ | refine List.Sublist.cons_cons _ ?_ | refine (List.append_sublist_append_left _).2 ?_ | refine List.Sublist.cons _ ?_ | refine List.Sublist.trans ?_ (List.sublist_append_right _ _)))) hnx (by have h1 := hnx.len; simp only [List.length_append, List.length_singleton] at h1 ⊢; omega)
      · skip
        refine TC.seq ?_
        refine TC.region ?_
        refine TL.pure (PV.move rfl) rfl (by decide) ?_
        refine TL.pure (PV.move rfl) rfl (by decide) ?_
        refine TL.pure (PV.eql rfl rfl) rfl (by decide) ?_
        refine TL.nil ?_
        refine TQ.thenC ?_
        first | refine TC.condD rfl (fun heq => ?_) (fun heq => ?_) | refine TC.cond rfl (fun heq => ?_) (fun heq => ?_)
        · skip
          have hst : joinF max es (v ++ [j]) = (List.zipWith max (joinF max es v).1 (es.getD j default).1, (joinF max es v).2) := by rw [hsn]; unfold joinS; rw [if_neg hgt, if_pos heq]
          refine TC.region ?_
          refine TL.pure (PV.move rfl) rfl (by decide) ?_
          refine TL.pure (PV.loadBox (cs := (joinF max es v).1.map (Value.int .i64)) rfl Tb.agg_69 (by repeat (first | exact List.Mem.head _ | refine List.Mem.tail _ ?_ | refine List.mem_append_right _ ?_)) (map_len h6)) rfl (by decide) ?_
          refine TL.pure (PV.loadBox (cs := (es.getD j default).1.map (Value.int .i64)) rfl Tb.agg_69 (by repeat (first | exact List.Mem.head _ | refine List.Mem.tail _ ?_ | refine List.mem_append_right _ ?_)) (map_len hk6)) rfl (by decide) ?_
          refine TL.callF (f := 72) (caps := []) (X := Unit) (fun _ => .agg (intsA (List.zipWith max (joinF max es v).1 (es.getD j default).1))) (fun _ => True) (fun _ => [(b10, Obj.cells (intsA (es.getD j default).1) 69 (0, 0)), (r, iobj bM es (v ++ [j])), (bM, mobj es), (b8, Obj.cells (intsA (joinF max es v).1) 69 (0, 0)), (b0, Obj.cells #[.slice p ls.length cap] 24 (0, 0))]) rfl rfl Tb.gofn_72 (fun a w hs => (either_ok w (joinF max es v).1 (es.getD j default).1 h6 hk6).mono fun e w' ⟨x9, h1, h2, h3⟩ => ⟨x9, h1, h2, hs.new.trans h3⟩) rfl (by decide) (fun _ _ => ?_)
          refine TL.storeAgg (vs := (List.zipWith max (joinF max es v).1 (es.getD j default).1).map (Value.int .i64)) rfl rfl Tb.cells_69 (by repeat (first | exact Upd.head _ | apply Upd.tail | apply Upd.appR)) (map_len (by rw [List.length_zipWith, h6, hk6]; rfl)) (map_len h6) (ints_one _) rfl rfl ?_
          refine TL.nil ?_
          refine TQ.blkN ?_
          refine TQ.thenN ?_
          refine TQ.backK (v ++ [j]) (by rw [hst]; refine And.intro rfl True.intro) (by repeat (first | exact True.intro | refine And.intro rfl ?_)) (by rw [hst]; exact (by repeat (first | exact List.Sublist.slnil | exact List.nil_sublist _ | exact List.Sublist.refl _ | exact List.sublist_append_left _ _ | refine List.Sublist.cons_cons _ ?_ | refine (List.append_sublist_append_left _).2 ?_ | refine List.Sublist.cons _ ?_ | refine List.Sublist.trans ?_ (List.sublist_append_right _ _)))) hnx (by have h1 := hnx.len; simp only [List.length_append, List.length_singleton] at h1 ⊢; omega)
        · skip
          have hst : joinF max es (v ++ [j]) = (joinF max es v) := by rw [hsn]; unfold joinS; rw [if_neg hgt, if_neg heq]
          refine TC.skip ?_
          refine TQ.blkN ?_
          refine TQ.thenN ?_
          refine TQ.backK (v ++ [j]) (by rw [hst]; refine And.intro rfl True.intro) (by repeat (first | exact True.intro | refine And.intro rfl ?_)) (by rw [hst]; exact (by repeat (first | exact List.Sublist.slnil | exact List.nil_sublist _ | exact List.Sublist.refl _ | exact List.sublist_append_left _ _ | refine List.Sublist.cons_cons _ ?_ | refine (List.append_sublist_append_left _).2 ?_ | refine List.Sublist.cons _ ?_ | refine List.Sublist.trans ?_ (List.sublist_append_right _ _)))) hnx (by have h1 := hnx.len; simp only [List.length_append, List.length_singleton] at h1 ⊢; omega)
    · skip
      obtain rfl : o = none := by simpa using hsome
      have h6 := fold_len (J := max) hlen6 hv.lt
      refine TC.exit ?_
      refine TQ.thenE ?_
      refine TQ.thenE ?_
      refine TQ.blkS ?_
      refine TQ.thenC ?_
      refine TC.seq ?_
      refine TC.region ?_
      refine TL.pure (PV.loadBox (cs := (joinF max es v).1.map (Value.int .i64)) rfl Tb.agg_69 (by repeat (first | exact List.Mem.head _ | refine List.Mem.tail _ ?_ | refine List.mem_append_right _ ?_)) (map_len h6)) rfl (by decide) ?_
      refine TL.pure (PV.loadBox rfl Tb.agg_24 (by repeat (first | exact List.Mem.head _ | refine List.Mem.tail _ ?_ | refine List.mem_append_right _ ?_)) rfl) rfl (by decide) ?_
      refine TL.call rfl Tb.gofn_85 (fun a w hs => in_ok w (joinF max es v).1 h6 _ _ _ (hr.new hs.new) hb.n) rfl (by decide) (fun h9 hh9 => ?_)
      refine TL.pure (PV.move rfl) rfl (by decide) ?_
      refine TL.pure (PV.assign rfl) rfl (by decide) ?_
      refine TL.pure (PV.assign rfl) rfl (by decide) ?_
      refine TL.pure (PV.assign rfl) rfl (by decide) ?_
      refine TL.nil ?_
      refine TQ.thenC ?_
      refine TC.ret ?_
      refine TQ.retE3 rfl rfl rfl rfl ?_
      exact ⟨(h9, es, v), by rw [if_pos hv0, if_pos hv0, hv0], ⟨by rw [if_pos hv0]; exact hh9, fun _ => ⟨hy9, hv, ho⟩⟩, by rw [if_pos hv0]; exact List.sublist_append_left _ _⟩

end Go.Proofs.Ytfgjojoipbbacaa

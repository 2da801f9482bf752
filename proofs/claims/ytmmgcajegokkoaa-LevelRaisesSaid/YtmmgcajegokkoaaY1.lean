/- Tables of weights between some points: the given side's functions. -/
import Derived.Test.YtmmgcajegokkoaaX1
import Derived.Test.YtmmgcajegokkoaaQ1
namespace Go.Proofs.Ytmmgcajegokkoaa
open Go.Sx Go.RowKit

def ltP (pts : List Int) (i k : Nat) (r : Rd) : Int := if i = k ∧ (r.fr = pts.getD i 0 ∨ r.to = pts.getD i 0) then r.wt else 0
def ltM (pts : List Int) (i k : Nat) (r : Rd) : Int := if i ≠ k ∧ ((r.fr = pts.getD i 0 ∧ r.to = pts.getD k 0) ∨ (r.to = pts.getD i 0 ∧ r.fr = pts.getD k 0)) then r.wt else 0
def lterm (pts : List Int) (i k : Nat) (r : Rd) : Int := ltP pts i k r - ltM pts i k r
def lapS (rs : List Rd) (pts : List Int) (i k m : Nat) : Int := sumN m fun n => lterm pts i k (rs.getD n default)
def lapE (rs : List Rd) (pts : List Int) (i k : Nat) : Int := lapS rs pts i k rs.length
theorem lapS_bn {n : Int} {rs : List Rd} (hv : Valid n rs) (pts : List Int) (i k : Nat) : ∀ m, m ≤ rs.length → Bn (lapS rs pts i k m) (3 * m)
  | 0, _ => by simp [lapS, sumN, Bn]
  | m + 1, h => by
    have ih := lapS_bn hv pts i k m (by omega)
    have h1 := hv.at (k := m) (by omega)
    have h2 : Bn (lterm pts i k (rs.getD m default)) 3 := by
      unfold lterm ltP ltM Bn
      split <;> split <;> omega
    exact (ih.add h2).mono (by omega)
def rowX (F : Nat → Int) (K k : Nat) (v : Int) : List Int := (fillZ F K k).set k v
theorem rowX_len (F : Nat → Int) (K k : Nat) (v : Int) : (rowX F K k v).length = K := by simp [rowX, fillZ]
theorem rowX_zero {F : Nat → Int} {K k : Nat} (hk : k < K) : fillZ F K k = rowX F K k 0 := by
  apply List.ext_getElem
  · simp [rowX, fillZ]
  · intro i h1 h2
    simp only [rowX, fillZ, List.getElem_set, List.getElem_map, List.getElem_range]
    by_cases h : k = i
    · subst h; simp
    · simp [h]
theorem rowX_full {F : Nat → Int} {K k : Nat} (hk : k < K) : rowX F K k (F k) = fillZ F K (k + 1) := fillZ_set hk
theorem rowX_get {F : Nat → Int} {K k : Nat} {v : Int} (hk : k < K) : (rowX F K k v).getD k 0 = v := by simp [rowX, fillZ, List.getD, hk]
theorem rowX_set (F : Nat → Int) (K k : Nat) (v u : Int) : (rowX F K k v).set k u = rowX F K k u := by simp [rowX]
structure LI (rs : List Rd) (pts : List Int) (K i : Nat) (x : HD × List (HD × List Int)) : Prop where
  le : i ≤ K
  eq : x.2.map (·.2) = (List.range i).map fun a => (List.range K).map (lapE rs pts a)
  ok : goP x
  all : ∀ y ∈ x.2, goI y
theorem LI.zero (rs : List Rd) (pts : List Int) (K : Nat) : LI rs pts K 0 (none, []) := ⟨Nat.zero_le _, rfl, ⟨rfl, rfl⟩, by simp⟩
theorem LI.len {rs : List Rd} {pts : List Int} {K i : Nat} {x : HD × List (HD × List Int)} (h : LI rs pts K i x) : x.2.length = i := by
  have := congrArg List.length h.eq
  simpa using this
theorem goI_fill (b K : Nat) (F : Nat → Int) : goI (some (b, K, []), fillZ F K K) := by
  constructor
  · simp [ival]
  · simp [ival, fillZ]
theorem LI.step {rs : List Rd} {pts : List Int} {K i b : Nat} {x : HD × List (HD × List Int)} {h' : HD} (h : LI rs pts K i x) (hi : i < K) (ho : goP (h', x.2 ++ [(some (b, K, []), fillZ (lapE rs pts i) K K)])) :
    LI rs pts K (i + 1) (h', x.2 ++ [(some (b, K, []), fillZ (lapE rs pts i) K K)]) := ⟨hi, by
      simp only [List.map_append, List.map_cons, List.map_nil]
      rw [h.eq, List.range_succ, List.map_append, fillZ_all]; rfl, ho, fun z hz => by
      rcases List.mem_append.1 hz with hz | hz
      · exact h.all z hz
      · rw [List.mem_singleton.1 hz]; exact goI_fill _ _ _⟩
theorem gv_fill (b K : Nat) (F : Nat → Int) : gvI (some (b, K, []), fillZ F K K) = .slice (some ⟨b, 0, none⟩) K K := by show gval _ _ = _; rw [fillZ_len]; rfl


set_option maxRecDepth 100000 in
set_option maxHeartbeats 4000000 in
theorem laplace_ok (w0 : World) (n : Int) (p : Option Addr) (cap : Nat) (rs : List Rd) (hr : RdsAt w0 p rs) (hv : Valid n rs) (pp : Option Addr) (cp K : Nat) (pts : List Int) (hp : IntsAt w0 pp pts) (hK : pts.length = K) (hK5 : K ≤ 5) :
    Calls Try.prog 100 #[sv n p rs.length cap, .slice pp K cp] w0 (Post (X := HD × List (HD × List Int)) (fun x => gvP x) (LI rs pts K K) (fun x => gbP x ++ bl x.2) w0) := by
  have hll := hv.len
  refine calls Try.func100 rfl (n := 119) rfl (by simp) ?_
  refine TC.seq ?_
  refine TC.region ?_
  refine TL.box rfl rfl (by decide) (fun b0 hb0 => ?_)
  refine TL.pure (PV.assign rfl) rfl (by decide) ?_
  refine TL.nil ?_
  refine TQ.thenC ?_
  refine TC.seq ?_
  refine TC.region ?_
  refine TL.pure (PV.assign rfl) rfl (by decide) ?_
  refine TL.nil ?_
  refine TQ.thenC ?_
  refine TC.seq ?_
  refine TC.seq ?_
  refine TC.region ?_
  refine TL.pure (PV.assign rfl) rfl (by decide) ?_
  refine TL.nil ?_
  refine TQ.thenC ?_
  refine TC.block ?_
  refine TC.lit [(1, _), (2, _), (5, _), (6, _)] (by repeat (first | exact True.intro | refine And.intro rfl ?_)) ?_
  refine TC.loopK [1, 2, 4] (X := Nat × HD × List (HD × List Int)) (fun x => LI rs pts K x.1 x.2) (fun x => [(6, .int .i64 x.1), (5, gvP x.2)]) (fun x => gbP x.2 ++ (bl x.2.2 ++ [(b0, .cells #[.int .i64 n, .slice p rs.length cap] 24 (0, 0))])) (fun x => K - x.1) (0, none, []) (LI.zero _ _ _) (by repeat (first | exact True.intro | refine And.intro rfl ?_)) (by repeat (first | exact List.Sublist.slnil | exact List.nil_sublist _ | exact List.Sublist.refl _ | refine List.Sublist.cons_cons _ ?_ | refine List.Sublist.cons _ ?_ | refine List.Sublist.trans ?_ (List.sublist_append_right _ _))) ?_
  intro x hx
  have hxle := hx.le
  refine TC.seq ?_
  refine TC.seq ?_
  refine TC.region ?_
  refine TL.pure (PV.move rfl) rfl (by decide) ?_
  refine TL.pure (PV.move rfl) rfl (by decide) ?_
  refine TL.pure (PV.len rfl Tb.sl_31) rfl (by decide) ?_
  refine TL.pure (PV.lss rfl rfl) rfl (by decide) ?_
  refine TL.nil ?_
  refine TQ.thenC ?_
  first | refine TC.condD rfl (fun hlt0 => ?_) (fun hlt0 => ?_) | refine TC.cond rfl (fun hlt0 => ?_) (fun hlt0 => ?_)
  · skip
    refine TC.skip ?_
    refine TQ.thenC ?_
    refine TC.seq ?_
    refine TC.block ?_
    refine TC.seq ?_
    refine TC.region ?_
    refine TL.pure (PV.move rfl) rfl (by decide) ?_
    refine TL.pure (PV.len rfl Tb.sl_31) rfl (by decide) ?_
    refine TL.makeI rfl rfl Tb.sl_31 Tb.zi_3 (k := K) rfl (by omega) (by omega) rfl (by decide) (fun b1 hb1 => ?_)
    refine TL.pure (PV.assign rfl) rfl (by decide) ?_
    refine TL.nil ?_
    refine TQ.thenC ?_
    refine TC.seq ?_
    refine TC.seq ?_
    refine TC.region ?_
    refine TL.pure (PV.assign rfl) rfl (by decide) ?_
    refine TL.nil ?_
    refine TQ.thenC ?_
    refine TC.block ?_
    refine TC.lit [(1, _), (2, _), (5, _), (6, _), (7, _), (8, _)] (by repeat (first | exact True.intro | refine And.intro rfl ?_)) ?_
    refine TC.loopK [1, 2, 4, 5, 6, 7] (X := Nat) (fun k => k ≤ K) (fun k => [(8, .int .i64 k)]) (fun k => arrI b1 (fillZ (lapE rs pts x.1) K k) :: (gbP x.2 ++ (bl x.2.2 ++ [(b0, .cells #[.int .i64 n, .slice p rs.length cap] 24 (0, 0))]))) (fun k => K - k) 0 (Nat.zero_le _) (by repeat (first | exact True.intro | refine And.intro rfl ?_)) (by rw [fillZ_zero]; exact List.Sublist.refl _) ?_
    intro k hk
    refine TC.seq ?_
    refine TC.seq ?_
    refine TC.region ?_
    refine TL.pure (PV.move rfl) rfl (by decide) ?_
    refine TL.pure (PV.move rfl) rfl (by decide) ?_
    refine TL.pure (PV.len rfl Tb.sl_31) rfl (by decide) ?_
    refine TL.pure (PV.lss rfl rfl) rfl (by decide) ?_
    refine TL.nil ?_
    refine TQ.thenC ?_
    first | refine TC.condD rfl (fun hlt1 => ?_) (fun hlt1 => ?_) | refine TC.cond rfl (fun hlt1 => ?_) (fun hlt1 => ?_)
    · skip
      refine TC.skip ?_
      refine TQ.thenC ?_
      refine TC.seq ?_
      refine TC.block ?_
      refine TC.seq ?_
      refine TC.region ?_
      refine TL.pure (PV.assign rfl) rfl (by decide) ?_
      refine TL.nil ?_
      refine TQ.thenC ?_
      refine TC.block ?_
      refine TC.lit [(1, _), (2, _), (5, _), (6, _), (7, _), (8, _), (9, _)] (by repeat (first | exact True.intro | refine And.intro rfl ?_)) ?_
      refine TC.loopK [1, 2, 4, 5, 6, 7, 8] (X := Nat) (fun m => m ≤ rs.length) (fun m => [(9, .int .i64 m)]) (fun m => arrI b1 (rowX (lapE rs pts x.1) K k (lapS rs pts x.1 k m)) :: (gbP x.2 ++ (bl x.2.2 ++ [(b0, .cells #[.int .i64 n, .slice p rs.length cap] 24 (0, 0))]))) (fun m => rs.length - m) 0 (Nat.zero_le _) (by repeat (first | exact True.intro | refine And.intro rfl ?_)) (by rw [rowX_zero (by omega)]; exact List.Sublist.refl _) ?_
      intro m hm
      refine TC.seq ?_
      refine TC.seq ?_
      refine TC.region ?_
      refine TL.pure (PV.move rfl) rfl (by decide) ?_
      refine TL.pure (PV.fieldAddr rfl Tb.fo_24_1) rfl (by decide) ?_
      refine TL.pure (PV.load rfl Tb.one_22 (by repeat (first | exact List.Mem.head _ | refine List.Mem.tail _ ?_ | refine List.mem_append_right _ ?_)) rfl) rfl (by decide) ?_
      refine TL.pure (PV.len rfl Tb.sl_22) rfl (by decide) ?_
      refine TL.pure (PV.lss rfl rfl) rfl (by decide) ?_
      refine TL.nil ?_
      refine TQ.thenC ?_
      first | refine TC.condD rfl (fun hlt2 => ?_) (fun hlt2 => ?_) | refine TC.cond rfl (fun hlt2 => ?_) (fun hlt2 => ?_)
      · skip
        refine TC.skip ?_
        refine TQ.thenC ?_
        refine TC.seq ?_
        refine TC.block ?_
        refine TC.seq ?_
        have hml : m < rs.length := by omega
        have hxl : x.1 < K := by omega
        have hkl : k < K := by omega
        obtain ⟨q, hqp, hq⟩ := hr m (by omega)
        obtain ⟨qi, hqip, hqi⟩ := hp x.1 (by omega)
        obtain ⟨qk, hqkp, hqk⟩ := hp k (by omega)
        have hlb := lapS_bn hv pts x.1 k m (by omega)
        have hvk := hv.at hml
        unfold Bn at hlb
        have hsucc : lapS rs pts x.1 k (m + 1) = lapS rs pts x.1 k m + ltP pts x.1 k (rs.getD m default) - ltM pts x.1 k (rs.getD m default) := by
          have e : lapS rs pts x.1 k (m + 1) = lapS rs pts x.1 k m + (ltP pts x.1 k (rs.getD m default) - ltM pts x.1 k (rs.getD m default)) := rfl
          omega
        generalize rs.getD m default = r at hq hvk hsucc
        have hlp : 0 ≤ ltP pts x.1 k r ∧ ltP pts x.1 k r ≤ 3 := by unfold ltP; split <;> omega
        refine TC.region ?_
        refine TL.pure (PV.fieldAddr rfl Tb.fo_24_1) rfl (by decide) ?_
        refine TL.pure (PV.load rfl Tb.one_22 (by repeat (first | exact List.Mem.head _ | refine List.Mem.tail _ ?_ | refine List.mem_append_right _ ?_)) rfl) rfl (by decide) ?_
        refine TL.pure (PV.move rfl) rfl (by decide) ?_
        refine TL.pure (PV.indexA rfl hqp rfl Tb.elm_22 rfl (by omega)) rfl (by decide) ?_
        refine TL.pure (PV.loadAggA rfl Tb.agg_61 rfl hq) rfl (by decide) ?_
        refine TL.alloc Tb.zero_61 rfl (by decide) (fun b2 hb2 => ?_)
        refine TL.storeAgg rfl rfl Tb.cells_61 (by repeat (first | exact Upd.head _ | apply Upd.tail | apply Upd.appR)) rfl rfl rfl rfl rfl ?_
        refine TL.nil ?_
        refine TQ.thenC ?_
        refine TC.seqK [1, 2, 4, 5, 6, 7, 8, 9, 10] (X := Int) (fun v1 => v1 = lapS rs pts x.1 k m + ltP pts x.1 k r) (fun v1 => []) (fun v1 => (b2, Obj.cells r.cells.toArray 61 (0, 0)) :: arrI b1 (rowX (lapE rs pts x.1) K k v1) :: (gbP x.2 ++ (bl x.2.2 ++ [(b0, .cells #[.int .i64 n, .slice p rs.length cap] 24 (0, 0))]))) ?_ ?_
        · skip
          refine TC.seq ?_
          refine TC.lit [(1, _), (2, _), (5, _), (6, _), (7, _), (8, _), (9, _), (10, _)] (by repeat (first | exact True.intro | refine And.intro rfl ?_)) ?_
          refine TC.any Tb.mixed rfl rfl ?_
          refine TA.op (OpOK.pure (PV.move rfl) rfl (by decide)) (by decide) ?_
          refine TA.op (OpOK.pure (PV.move rfl) rfl (by decide)) (by decide) ?_
          refine TA.op (OpOK.pure (PV.eql rfl rfl) rfl (by decide)) (by decide) ?_
          refine TA.op (OpOK.pure (PV.move rfl) rfl (by decide)) (by decide) ?_
          first | refine TA.splitD 41 rfl (fun h3 => ?_) (fun h3 => ?_) | refine TA.split 41 rfl (fun h3 => ?_) (fun h3 => ?_)
          · skip
            refine TA.op (OpOK.pure (PV.fieldAddr rfl Tb.fo_61_0) rfl (by decide)) (by decide) ?_
            refine TA.op (OpOK.pure (PV.load rfl Tb.one_3 (by repeat (first | exact List.Mem.head _ | refine List.Mem.tail _ ?_ | refine List.mem_append_right _ ?_)) rfl) rfl (by decide)) (by decide) ?_
            refine TA.op (OpOK.pure (PV.move rfl) rfl (by decide)) (by decide) ?_
            refine TA.op (OpOK.pure (PV.move rfl) rfl (by decide)) (by decide) ?_
            refine TA.op (OpOK.pure (PV.indexA rfl hqip rfl Tb.elm_31 rfl (by omega)) rfl (by decide)) (by decide) ?_
            refine TA.op (OpOK.pure (PV.loadOld rfl Tb.one_3 hqi) rfl (by decide)) (by decide) ?_
            refine TA.op (OpOK.pure (PV.eql rfl rfl) rfl (by decide)) (by decide) ?_
            refine TA.op (OpOK.pure (PV.move rfl) rfl (by decide)) (by decide) ?_
            first | refine TA.splitD 49 rfl (fun h4 => ?_) (fun h4 => ?_) | refine TA.split 49 rfl (fun h4 => ?_) (fun h4 => ?_)
            · skip
              refine TA.op (OpOK.skip rfl) (by decide) ?_
              refine TA.op (OpOK.skip rfl) (by decide) ?_
              refine TA.op (OpOK.skip rfl) (by decide) ?_
              refine TA.op (OpOK.skip rfl) (by decide) ?_
              refine TA.op (OpOK.skip rfl) (by decide) ?_
              refine TA.op (OpOK.skip rfl) (by decide) ?_
              refine TA.op (OpOK.skip rfl) (by decide) ?_
              refine TA.op (OpOK.pure (PV.pickT rfl rfl) rfl (by decide)) (by decide) ?_
              refine TA.op (OpOK.pure (PV.pickT rfl rfl) rfl (by decide)) (by decide) ?_
              show TQ _ _ _ _ _
              refine TQ.thenC ?_
              refine TC.condT rfl ?_
              refine TC.draw 8 Tb.mixed (by kernel_rfl) ?_
              simp only [List.take_succ_cons, List.take_zero, List.drop_succ_cons, List.drop_zero]
              refine TS.pure (PV.move rfl) rfl (by decide) ?_
              refine TS.pure (PV.move rfl) rfl (by decide) ?_
              refine TS.pure (PV.index1 rfl rfl Tb.elm_31 rfl (by omega)) rfl (by decide) ?_
              refine TS.pure (PV.loadI rfl Tb.one_3 (by repeat (first | exact List.Mem.head _ | refine List.Mem.tail _ ?_ | refine List.mem_append_right _ ?_)) (by rw [rowX_len]; omega)) rfl (by decide) ?_
              refine TS.pure (PV.fieldAddr rfl Tb.fo_61_3) rfl (by decide) ?_
              refine TS.pure (PV.load rfl Tb.one_3 (by repeat (first | exact List.Mem.head _ | refine List.Mem.tail _ ?_ | refine List.mem_append_right _ ?_)) rfl) rfl (by decide) ?_
              refine TS.pure (PV.add rfl rfl (by rw [rowX_get hkl]; omega)) rfl (by decide) ?_
              refine TS.pure (PV.index1 rfl rfl Tb.elm_31 rfl (by omega)) rfl (by decide) ?_
              refine TS.nil ?_
              refine TL.storeI rfl rfl Tb.cells_3 (by repeat (first | exact Upd.head _ | apply Upd.tail | apply Upd.appR)) (by rw [rowX_len]; omega) rfl rfl ?_
              refine TL.congrG (G' := (b2, Obj.cells r.cells.toArray 61 (0, 0)) :: arrI b1 (rowX (lapE rs pts x.1) K k (lapS rs pts x.1 k m + r.wt)) :: (gbP x.2 ++ (bl x.2.2 ++ [(b0, .cells #[.int .i64 n, .slice p rs.length cap] 24 (0, 0))]))) (by rw [rowX_set, rowX_get hkl]) ?_
              refine TL.nil ?_
              refine TQ.thenN ?_
              refine TQ.midK _ (by repeat (first | exact True.intro | refine And.intro rfl ?_)) (by repeat (first | exact True.intro | refine And.intro rfl ?_)) (List.Sublist.refl _) (by first | (rw [ltP, if_pos (by first | (simp_all; done) | (simp_all; omega) | omega)]) | (rw [ltP, if_neg (by first | (simp_all; done) | (simp_all; omega) | omega)]; omega))
            · skip
              refine TA.op (OpOK.pure (PV.fieldAddr rfl Tb.fo_61_1) rfl (by decide)) (by decide) ?_
              refine TA.op (OpOK.pure (PV.load rfl Tb.one_3 (by repeat (first | exact List.Mem.head _ | refine List.Mem.tail _ ?_ | refine List.mem_append_right _ ?_)) rfl) rfl (by decide)) (by decide) ?_
              refine TA.op (OpOK.pure (PV.move rfl) rfl (by decide)) (by decide) ?_
              refine TA.op (OpOK.pure (PV.move rfl) rfl (by decide)) (by decide) ?_
              refine TA.op (OpOK.pure (PV.indexA rfl hqip rfl Tb.elm_31 rfl (by omega)) rfl (by decide)) (by decide) ?_
              refine TA.op (OpOK.pure (PV.loadOld rfl Tb.one_3 hqi) rfl (by decide)) (by decide) ?_
              refine TA.op (OpOK.pure (PV.eql rfl rfl) rfl (by decide)) (by decide) ?_
              refine TA.op (OpOK.pure (PV.pickF rfl rfl) rfl (by decide)) (by decide) ?_
              refine TA.op (OpOK.pure (PV.pickT rfl rfl) rfl (by decide)) (by decide) ?_
              show TQ _ _ _ _ _
              refine TQ.thenC ?_
              first | refine TC.condD rfl (fun hpl => ?_) (fun hpl => ?_) | refine TC.cond rfl (fun hpl => ?_) (fun hpl => ?_)
              · skip
                refine TC.draw 8 Tb.mixed (by kernel_rfl) ?_
                simp only [List.take_succ_cons, List.take_zero, List.drop_succ_cons, List.drop_zero]
                refine TS.pure (PV.move rfl) rfl (by decide) ?_
                refine TS.pure (PV.move rfl) rfl (by decide) ?_
                refine TS.pure (PV.index1 rfl rfl Tb.elm_31 rfl (by omega)) rfl (by decide) ?_
                refine TS.pure (PV.loadI rfl Tb.one_3 (by repeat (first | exact List.Mem.head _ | refine List.Mem.tail _ ?_ | refine List.mem_append_right _ ?_)) (by rw [rowX_len]; omega)) rfl (by decide) ?_
                refine TS.pure (PV.fieldAddr rfl Tb.fo_61_3) rfl (by decide) ?_
                refine TS.pure (PV.load rfl Tb.one_3 (by repeat (first | exact List.Mem.head _ | refine List.Mem.tail _ ?_ | refine List.mem_append_right _ ?_)) rfl) rfl (by decide) ?_
                refine TS.pure (PV.add rfl rfl (by rw [rowX_get hkl]; omega)) rfl (by decide) ?_
                refine TS.pure (PV.index1 rfl rfl Tb.elm_31 rfl (by omega)) rfl (by decide) ?_
                refine TS.nil ?_
                refine TL.storeI rfl rfl Tb.cells_3 (by repeat (first | exact Upd.head _ | apply Upd.tail | apply Upd.appR)) (by rw [rowX_len]; omega) rfl rfl ?_
                refine TL.congrG (G' := (b2, Obj.cells r.cells.toArray 61 (0, 0)) :: arrI b1 (rowX (lapE rs pts x.1) K k (lapS rs pts x.1 k m + r.wt)) :: (gbP x.2 ++ (bl x.2.2 ++ [(b0, .cells #[.int .i64 n, .slice p rs.length cap] 24 (0, 0))]))) (by rw [rowX_set, rowX_get hkl]) ?_
                refine TL.nil ?_
                refine TQ.thenN ?_
                refine TQ.midK _ (by repeat (first | exact True.intro | refine And.intro rfl ?_)) (by repeat (first | exact True.intro | refine And.intro rfl ?_)) (List.Sublist.refl _) (by first | (rw [ltP, if_pos (by first | (simp_all; done) | (simp_all; omega) | omega)]) | (rw [ltP, if_neg (by first | (simp_all; done) | (simp_all; omega) | omega)]; omega))
              · skip
                refine TC.skip ?_
                refine TQ.thenN ?_
                refine TQ.midK _ (by repeat (first | exact True.intro | refine And.intro rfl ?_)) (by repeat (first | exact True.intro | refine And.intro rfl ?_)) (List.Sublist.refl _) (by first | (rw [ltP, if_pos (by first | (simp_all; done) | (simp_all; omega) | omega)]) | (rw [ltP, if_neg (by first | (simp_all; done) | (simp_all; omega) | omega)]; omega))
          · skip
            refine TA.op (OpOK.skip rfl) (by decide) ?_
            refine TA.op (OpOK.skip rfl) (by decide) ?_
            refine TA.op (OpOK.skip rfl) (by decide) ?_
            refine TA.op (OpOK.skip rfl) (by decide) ?_
            refine TA.op (OpOK.skip rfl) (by decide) ?_
            refine TA.op (OpOK.skip rfl) (by decide) ?_
            refine TA.op (OpOK.skip rfl) (by decide) ?_
            refine TA.op (OpOK.skip rfl) (by decide) ?_
            refine TA.op (OpOK.skipU rfl) (by decide) ?_
            refine TA.op (OpOK.skipU rfl) (by decide) ?_
            refine TA.op (OpOK.skipU rfl) (by decide) ?_
            refine TA.op (OpOK.skipU rfl) (by decide) ?_
            refine TA.op (OpOK.skipU rfl) (by decide) ?_
            refine TA.op (OpOK.skipU rfl) (by decide) ?_
            refine TA.op (OpOK.skipU rfl) (by decide) ?_
            refine TA.op (OpOK.skip rfl) (by decide) ?_
            refine TA.op (OpOK.pure (PV.pickF rfl rfl) rfl (by decide)) (by decide) ?_
            show TQ _ _ _ _ _
            refine TQ.thenC ?_
            refine TC.condF rfl ?_
            refine TC.skip ?_
            refine TQ.thenN ?_
            refine TQ.midK _ (by repeat (first | exact True.intro | refine And.intro rfl ?_)) (by repeat (first | exact True.intro | refine And.intro rfl ?_)) (List.Sublist.refl _) (by first | (rw [ltP, if_pos (by first | (simp_all; done) | (simp_all; omega) | omega)]) | (rw [ltP, if_neg (by first | (simp_all; done) | (simp_all; omega) | omega)]; omega))
        · skip
          intro v1 hv1
          refine TC.seq ?_
          refine TC.lit [(1, _), (2, _), (5, _), (6, _), (7, _), (8, _), (9, _), (10, _)] (by repeat (first | exact True.intro | refine And.intro rfl ?_)) ?_
          refine TC.any Tb.mixed rfl rfl ?_
          refine TA.op (OpOK.pure (PV.move rfl) rfl (by decide)) (by decide) ?_
          refine TA.op (OpOK.pure (PV.move rfl) rfl (by decide)) (by decide) ?_
          refine TA.op (OpOK.pure (PV.neq rfl rfl) rfl (by decide)) (by decide) ?_
          refine TA.op (OpOK.pure (PV.move rfl) rfl (by decide)) (by decide) ?_
          first | refine TA.splitD 70 rfl (fun h6 => ?_) (fun h6 => ?_) | refine TA.split 70 rfl (fun h6 => ?_) (fun h6 => ?_)
          · skip
            refine TA.op (OpOK.pure (PV.fieldAddr rfl Tb.fo_61_0) rfl (by decide)) (by decide) ?_
            refine TA.op (OpOK.pure (PV.load rfl Tb.one_3 (by repeat (first | exact List.Mem.head _ | refine List.Mem.tail _ ?_ | refine List.mem_append_right _ ?_)) rfl) rfl (by decide)) (by decide) ?_
            refine TA.op (OpOK.pure (PV.move rfl) rfl (by decide)) (by decide) ?_
            refine TA.op (OpOK.pure (PV.move rfl) rfl (by decide)) (by decide) ?_
            refine TA.op (OpOK.pure (PV.indexA rfl hqip rfl Tb.elm_31 rfl (by omega)) rfl (by decide)) (by decide) ?_
            refine TA.op (OpOK.pure (PV.loadOld rfl Tb.one_3 hqi) rfl (by decide)) (by decide) ?_
            refine TA.op (OpOK.pure (PV.eql rfl rfl) rfl (by decide)) (by decide) ?_
            refine TA.op (OpOK.pure (PV.move rfl) rfl (by decide)) (by decide) ?_
            first | refine TA.splitD 78 rfl (fun h7 => ?_) (fun h7 => ?_) | refine TA.split 78 rfl (fun h7 => ?_) (fun h7 => ?_)
            · skip
              refine TA.op (OpOK.pure (PV.fieldAddr rfl Tb.fo_61_1) rfl (by decide)) (by decide) ?_
              refine TA.op (OpOK.pure (PV.load rfl Tb.one_3 (by repeat (first | exact List.Mem.head _ | refine List.Mem.tail _ ?_ | refine List.mem_append_right _ ?_)) rfl) rfl (by decide)) (by decide) ?_
              refine TA.op (OpOK.pure (PV.move rfl) rfl (by decide)) (by decide) ?_
              refine TA.op (OpOK.pure (PV.move rfl) rfl (by decide)) (by decide) ?_
              refine TA.op (OpOK.pure (PV.indexA rfl hqkp rfl Tb.elm_31 rfl (by omega)) rfl (by decide)) (by decide) ?_
              refine TA.op (OpOK.pure (PV.loadOld rfl Tb.one_3 hqk) rfl (by decide)) (by decide) ?_
              refine TA.op (OpOK.pure (PV.eql rfl rfl) rfl (by decide)) (by decide) ?_
              refine TA.op (OpOK.pure (PV.pickT rfl rfl) rfl (by decide)) (by decide) ?_
              refine TA.op (OpOK.pure (PV.move rfl) rfl (by decide)) (by decide) ?_
              first | refine TA.splitD 87 rfl (fun h8 => ?_) (fun h8 => ?_) | refine TA.split 87 rfl (fun h8 => ?_) (fun h8 => ?_)
              · skip
                refine TA.op (OpOK.skip rfl) (by decide) ?_
                refine TA.op (OpOK.skip rfl) (by decide) ?_
                refine TA.op (OpOK.skip rfl) (by decide) ?_
                refine TA.op (OpOK.skip rfl) (by decide) ?_
                refine TA.op (OpOK.skip rfl) (by decide) ?_
                refine TA.op (OpOK.skip rfl) (by decide) ?_
                refine TA.op (OpOK.skip rfl) (by decide) ?_
                refine TA.op (OpOK.skip rfl) (by decide) ?_
                refine TA.op (OpOK.skipU rfl) (by decide) ?_
                refine TA.op (OpOK.skipU rfl) (by decide) ?_
                refine TA.op (OpOK.skipU rfl) (by decide) ?_
                refine TA.op (OpOK.skipU rfl) (by decide) ?_
                refine TA.op (OpOK.skipU rfl) (by decide) ?_
                refine TA.op (OpOK.skipU rfl) (by decide) ?_
                refine TA.op (OpOK.skipU rfl) (by decide) ?_
                refine TA.op (OpOK.skip rfl) (by decide) ?_
                refine TA.op (OpOK.pure (PV.pickT rfl rfl) rfl (by decide)) (by decide) ?_
                refine TA.op (OpOK.pure (PV.pickT rfl rfl) rfl (by decide)) (by decide) ?_
                show TQ _ _ _ _ _
                refine TQ.thenC ?_
                refine TC.condT rfl ?_
                refine TC.draw 8 Tb.mixed (by kernel_rfl) ?_
                simp only [List.take_succ_cons, List.take_zero, List.drop_succ_cons, List.drop_zero]
                refine TS.pure (PV.move rfl) rfl (by decide) ?_
                refine TS.pure (PV.move rfl) rfl (by decide) ?_
                refine TS.pure (PV.index1 rfl rfl Tb.elm_31 rfl (by omega)) rfl (by decide) ?_
                refine TS.pure (PV.loadI rfl Tb.one_3 (by repeat (first | exact List.Mem.head _ | refine List.Mem.tail _ ?_ | refine List.mem_append_right _ ?_)) (by rw [rowX_len]; omega)) rfl (by decide) ?_
                refine TS.pure (PV.fieldAddr rfl Tb.fo_61_3) rfl (by decide) ?_
                refine TS.pure (PV.load rfl Tb.one_3 (by repeat (first | exact List.Mem.head _ | refine List.Mem.tail _ ?_ | refine List.mem_append_right _ ?_)) rfl) rfl (by decide) ?_
                refine TS.pure (PV.sub rfl rfl (by rw [rowX_get hkl]; omega)) rfl (by decide) ?_
                refine TS.pure (PV.index1 rfl rfl Tb.elm_31 rfl (by omega)) rfl (by decide) ?_
                refine TS.nil ?_
                refine TL.storeI rfl rfl Tb.cells_3 (by repeat (first | exact Upd.head _ | apply Upd.tail | apply Upd.appR)) (by rw [rowX_len]; omega) rfl rfl ?_
                refine TL.congrG (G' := (b2, Obj.cells r.cells.toArray 61 (0, 0)) :: arrI b1 (rowX (lapE rs pts x.1) K k (v1 - r.wt)) :: (gbP x.2 ++ (bl x.2.2 ++ [(b0, .cells #[.int .i64 n, .slice p rs.length cap] 24 (0, 0))]))) (by rw [rowX_set, rowX_get hkl]) ?_
                refine TL.nil ?_
                refine TQ.blkN ?_
                refine TQ.thenC ?_
                refine TC.region ?_
                refine TL.pure (PV.move rfl) rfl (by decide) ?_
                refine TL.pure (PV.add rfl rfl (by omega)) rfl (by decide) ?_
                refine TL.pure (PV.assign rfl) rfl (by decide) ?_
                refine TL.nil ?_
                refine TQ.thenN ?_
                refine TQ.backK (m + 1) (by repeat (first | exact True.intro | refine And.intro rfl ?_)) (by repeat (first | exact True.intro | refine And.intro rfl ?_)) (by first | (rw [hsucc, ← hv1, ltM, if_pos (by first | omega | (simp_all; done) | (simp_all; omega))]; exact List.Sublist.cons _ (List.Sublist.refl _)) | (rw [hsucc, ← hv1, ltM, if_neg (by first | omega | (simp_all; done) | (simp_all; omega)), Int.sub_zero]; exact List.Sublist.cons _ (List.Sublist.refl _))) (by omega) (by omega)
              · skip
                refine TA.op (OpOK.pure (PV.fieldAddr rfl Tb.fo_61_1) rfl (by decide)) (by decide) ?_
                refine TA.op (OpOK.pure (PV.load rfl Tb.one_3 (by repeat (first | exact List.Mem.head _ | refine List.Mem.tail _ ?_ | refine List.mem_append_right _ ?_)) rfl) rfl (by decide)) (by decide) ?_
                refine TA.op (OpOK.pure (PV.move rfl) rfl (by decide)) (by decide) ?_
                refine TA.op (OpOK.pure (PV.move rfl) rfl (by decide)) (by decide) ?_
                refine TA.op (OpOK.pure (PV.indexA rfl hqip rfl Tb.elm_31 rfl (by omega)) rfl (by decide)) (by decide) ?_
                refine TA.op (OpOK.pure (PV.loadOld rfl Tb.one_3 hqi) rfl (by decide)) (by decide) ?_
                refine TA.op (OpOK.pure (PV.eql rfl rfl) rfl (by decide)) (by decide) ?_
                refine TA.op (OpOK.pure (PV.move rfl) rfl (by decide)) (by decide) ?_
                first | refine TA.splitD 95 rfl (fun h9 => ?_) (fun h9 => ?_) | refine TA.split 95 rfl (fun h9 => ?_) (fun h9 => ?_)
                · skip
                  refine TA.op (OpOK.pure (PV.fieldAddr rfl Tb.fo_61_0) rfl (by decide)) (by decide) ?_
                  refine TA.op (OpOK.pure (PV.load rfl Tb.one_3 (by repeat (first | exact List.Mem.head _ | refine List.Mem.tail _ ?_ | refine List.mem_append_right _ ?_)) rfl) rfl (by decide)) (by decide) ?_
                  refine TA.op (OpOK.pure (PV.move rfl) rfl (by decide)) (by decide) ?_
                  refine TA.op (OpOK.pure (PV.move rfl) rfl (by decide)) (by decide) ?_
                  refine TA.op (OpOK.pure (PV.indexA rfl hqkp rfl Tb.elm_31 rfl (by omega)) rfl (by decide)) (by decide) ?_
                  refine TA.op (OpOK.pure (PV.loadOld rfl Tb.one_3 hqk) rfl (by decide)) (by decide) ?_
                  refine TA.op (OpOK.pure (PV.eql rfl rfl) rfl (by decide)) (by decide) ?_
                  refine TA.op (OpOK.pure (PV.pickT rfl rfl) rfl (by decide)) (by decide) ?_
                  refine TA.op (OpOK.pure (PV.pickF rfl rfl) rfl (by decide)) (by decide) ?_
                  refine TA.op (OpOK.pure (PV.pickT rfl rfl) rfl (by decide)) (by decide) ?_
                  show TQ _ _ _ _ _
                  refine TQ.thenC ?_
                  first | refine TC.condD rfl (fun hmi => ?_) (fun hmi => ?_) | refine TC.cond rfl (fun hmi => ?_) (fun hmi => ?_)
                  · skip
                    refine TC.draw 8 Tb.mixed (by kernel_rfl) ?_
                    simp only [List.take_succ_cons, List.take_zero, List.drop_succ_cons, List.drop_zero]
                    refine TS.pure (PV.move rfl) rfl (by decide) ?_
                    refine TS.pure (PV.move rfl) rfl (by decide) ?_
                    refine TS.pure (PV.index1 rfl rfl Tb.elm_31 rfl (by omega)) rfl (by decide) ?_
                    refine TS.pure (PV.loadI rfl Tb.one_3 (by repeat (first | exact List.Mem.head _ | refine List.Mem.tail _ ?_ | refine List.mem_append_right _ ?_)) (by rw [rowX_len]; omega)) rfl (by decide) ?_
                    refine TS.pure (PV.fieldAddr rfl Tb.fo_61_3) rfl (by decide) ?_
                    refine TS.pure (PV.load rfl Tb.one_3 (by repeat (first | exact List.Mem.head _ | refine List.Mem.tail _ ?_ | refine List.mem_append_right _ ?_)) rfl) rfl (by decide) ?_
                    refine TS.pure (PV.sub rfl rfl (by rw [rowX_get hkl]; omega)) rfl (by decide) ?_
                    refine TS.pure (PV.index1 rfl rfl Tb.elm_31 rfl (by omega)) rfl (by decide) ?_
                    refine TS.nil ?_
                    refine TL.storeI rfl rfl Tb.cells_3 (by repeat (first | exact Upd.head _ | apply Upd.tail | apply Upd.appR)) (by rw [rowX_len]; omega) rfl rfl ?_
                    refine TL.congrG (G' := (b2, Obj.cells r.cells.toArray 61 (0, 0)) :: arrI b1 (rowX (lapE rs pts x.1) K k (v1 - r.wt)) :: (gbP x.2 ++ (bl x.2.2 ++ [(b0, .cells #[.int .i64 n, .slice p rs.length cap] 24 (0, 0))]))) (by rw [rowX_set, rowX_get hkl]) ?_
                    refine TL.nil ?_
                    refine TQ.blkN ?_
                    refine TQ.thenC ?_
                    refine TC.region ?_
                    refine TL.pure (PV.move rfl) rfl (by decide) ?_
                    refine TL.pure (PV.add rfl rfl (by omega)) rfl (by decide) ?_
                    refine TL.pure (PV.assign rfl) rfl (by decide) ?_
                    refine TL.nil ?_
                    refine TQ.thenN ?_
                    refine TQ.backK (m + 1) (by repeat (first | exact True.intro | refine And.intro rfl ?_)) (by repeat (first | exact True.intro | refine And.intro rfl ?_)) (by first | (rw [hsucc, ← hv1, ltM, if_pos (by first | omega | (simp_all; done) | (simp_all; omega))]; exact List.Sublist.cons _ (List.Sublist.refl _)) | (rw [hsucc, ← hv1, ltM, if_neg (by first | omega | (simp_all; done) | (simp_all; omega)), Int.sub_zero]; exact List.Sublist.cons _ (List.Sublist.refl _))) (by omega) (by omega)
                  · skip
                    refine TC.skip ?_
                    refine TQ.blkN ?_
                    refine TQ.thenC ?_
                    refine TC.region ?_
                    refine TL.pure (PV.move rfl) rfl (by decide) ?_
                    refine TL.pure (PV.add rfl rfl (by omega)) rfl (by decide) ?_
                    refine TL.pure (PV.assign rfl) rfl (by decide) ?_
                    refine TL.nil ?_
                    refine TQ.thenN ?_
                    refine TQ.backK (m + 1) (by repeat (first | exact True.intro | refine And.intro rfl ?_)) (by repeat (first | exact True.intro | refine And.intro rfl ?_)) (by first | (rw [hsucc, ← hv1, ltM, if_pos (by first | omega | (simp_all; done) | (simp_all; omega))]; exact List.Sublist.cons _ (List.Sublist.refl _)) | (rw [hsucc, ← hv1, ltM, if_neg (by first | omega | (simp_all; done) | (simp_all; omega)), Int.sub_zero]; exact List.Sublist.cons _ (List.Sublist.refl _))) (by omega) (by omega)
                · skip
                  refine TA.op (OpOK.skip rfl) (by decide) ?_
                  refine TA.op (OpOK.skip rfl) (by decide) ?_
                  refine TA.op (OpOK.skip rfl) (by decide) ?_
                  refine TA.op (OpOK.skip rfl) (by decide) ?_
                  refine TA.op (OpOK.skip rfl) (by decide) ?_
                  refine TA.op (OpOK.skip rfl) (by decide) ?_
                  refine TA.op (OpOK.skip rfl) (by decide) ?_
                  refine TA.op (OpOK.pure (PV.pickF rfl rfl) rfl (by decide)) (by decide) ?_
                  refine TA.op (OpOK.pure (PV.pickF rfl rfl) rfl (by decide)) (by decide) ?_
                  refine TA.op (OpOK.pure (PV.pickT rfl rfl) rfl (by decide)) (by decide) ?_
                  show TQ _ _ _ _ _
                  refine TQ.thenC ?_
                  refine TC.condF rfl ?_
                  refine TC.skip ?_
                  refine TQ.blkN ?_
                  refine TQ.thenC ?_
                  refine TC.region ?_
                  refine TL.pure (PV.move rfl) rfl (by decide) ?_
                  refine TL.pure (PV.add rfl rfl (by omega)) rfl (by decide) ?_
                  refine TL.pure (PV.assign rfl) rfl (by decide) ?_
                  refine TL.nil ?_
                  refine TQ.thenN ?_
                  refine TQ.backK (m + 1) (by repeat (first | exact True.intro | refine And.intro rfl ?_)) (by repeat (first | exact True.intro | refine And.intro rfl ?_)) (by first | (rw [hsucc, ← hv1, ltM, if_pos (by first | omega | (simp_all; done) | (simp_all; omega))]; exact List.Sublist.cons _ (List.Sublist.refl _)) | (rw [hsucc, ← hv1, ltM, if_neg (by first | omega | (simp_all; done) | (simp_all; omega)), Int.sub_zero]; exact List.Sublist.cons _ (List.Sublist.refl _))) (by omega) (by omega)
            · skip
              refine TA.op (OpOK.skip rfl) (by decide) ?_
              refine TA.op (OpOK.skip rfl) (by decide) ?_
              refine TA.op (OpOK.skip rfl) (by decide) ?_
              refine TA.op (OpOK.skip rfl) (by decide) ?_
              refine TA.op (OpOK.skip rfl) (by decide) ?_
              refine TA.op (OpOK.skip rfl) (by decide) ?_
              refine TA.op (OpOK.skip rfl) (by decide) ?_
              refine TA.op (OpOK.pure (PV.pickF rfl rfl) rfl (by decide)) (by decide) ?_
              refine TA.op (OpOK.pure (PV.move rfl) rfl (by decide)) (by decide) ?_
              refine TA.op (OpOK.pure (PV.fieldAddr rfl Tb.fo_61_1) rfl (by decide)) (by decide) ?_
              refine TA.op (OpOK.pure (PV.load rfl Tb.one_3 (by repeat (first | exact List.Mem.head _ | refine List.Mem.tail _ ?_ | refine List.mem_append_right _ ?_)) rfl) rfl (by decide)) (by decide) ?_
              refine TA.op (OpOK.pure (PV.move rfl) rfl (by decide)) (by decide) ?_
              refine TA.op (OpOK.pure (PV.move rfl) rfl (by decide)) (by decide) ?_
              refine TA.op (OpOK.pure (PV.indexA rfl hqip rfl Tb.elm_31 rfl (by omega)) rfl (by decide)) (by decide) ?_
              refine TA.op (OpOK.pure (PV.loadOld rfl Tb.one_3 hqi) rfl (by decide)) (by decide) ?_
              refine TA.op (OpOK.pure (PV.eql rfl rfl) rfl (by decide)) (by decide) ?_
              refine TA.op (OpOK.pure (PV.move rfl) rfl (by decide)) (by decide) ?_
              first | refine TA.splitD 95 rfl (fun h11 => ?_) (fun h11 => ?_) | refine TA.split 95 rfl (fun h11 => ?_) (fun h11 => ?_)
              · skip
                refine TA.op (OpOK.pure (PV.fieldAddr rfl Tb.fo_61_0) rfl (by decide)) (by decide) ?_
                refine TA.op (OpOK.pure (PV.load rfl Tb.one_3 (by repeat (first | exact List.Mem.head _ | refine List.Mem.tail _ ?_ | refine List.mem_append_right _ ?_)) rfl) rfl (by decide)) (by decide) ?_
                refine TA.op (OpOK.pure (PV.move rfl) rfl (by decide)) (by decide) ?_
                refine TA.op (OpOK.pure (PV.move rfl) rfl (by decide)) (by decide) ?_
                refine TA.op (OpOK.pure (PV.indexA rfl hqkp rfl Tb.elm_31 rfl (by omega)) rfl (by decide)) (by decide) ?_
                refine TA.op (OpOK.pure (PV.loadOld rfl Tb.one_3 hqk) rfl (by decide)) (by decide) ?_
                refine TA.op (OpOK.pure (PV.eql rfl rfl) rfl (by decide)) (by decide) ?_
                refine TA.op (OpOK.pure (PV.pickT rfl rfl) rfl (by decide)) (by decide) ?_
                refine TA.op (OpOK.pure (PV.pickF rfl rfl) rfl (by decide)) (by decide) ?_
                refine TA.op (OpOK.pure (PV.pickT rfl rfl) rfl (by decide)) (by decide) ?_
                show TQ _ _ _ _ _
                refine TQ.thenC ?_
                first | refine TC.condD rfl (fun hmi => ?_) (fun hmi => ?_) | refine TC.cond rfl (fun hmi => ?_) (fun hmi => ?_)
                · skip
                  refine TC.draw 8 Tb.mixed (by kernel_rfl) ?_
                  simp only [List.take_succ_cons, List.take_zero, List.drop_succ_cons, List.drop_zero]
                  refine TS.pure (PV.move rfl) rfl (by decide) ?_
                  refine TS.pure (PV.move rfl) rfl (by decide) ?_
                  refine TS.pure (PV.index1 rfl rfl Tb.elm_31 rfl (by omega)) rfl (by decide) ?_
                  refine TS.pure (PV.loadI rfl Tb.one_3 (by repeat (first | exact List.Mem.head _ | refine List.Mem.tail _ ?_ | refine List.mem_append_right _ ?_)) (by rw [rowX_len]; omega)) rfl (by decide) ?_
                  refine TS.pure (PV.fieldAddr rfl Tb.fo_61_3) rfl (by decide) ?_
                  refine TS.pure (PV.load rfl Tb.one_3 (by repeat (first | exact List.Mem.head _ | refine List.Mem.tail _ ?_ | refine List.mem_append_right _ ?_)) rfl) rfl (by decide) ?_
                  refine TS.pure (PV.sub rfl rfl (by rw [rowX_get hkl]; omega)) rfl (by decide) ?_
                  refine TS.pure (PV.index1 rfl rfl Tb.elm_31 rfl (by omega)) rfl (by decide) ?_
                  refine TS.nil ?_
                  refine TL.storeI rfl rfl Tb.cells_3 (by repeat (first | exact Upd.head _ | apply Upd.tail | apply Upd.appR)) (by rw [rowX_len]; omega) rfl rfl ?_
                  refine TL.congrG (G' := (b2, Obj.cells r.cells.toArray 61 (0, 0)) :: arrI b1 (rowX (lapE rs pts x.1) K k (v1 - r.wt)) :: (gbP x.2 ++ (bl x.2.2 ++ [(b0, .cells #[.int .i64 n, .slice p rs.length cap] 24 (0, 0))]))) (by rw [rowX_set, rowX_get hkl]) ?_
                  refine TL.nil ?_
                  refine TQ.blkN ?_
                  refine TQ.thenC ?_
                  refine TC.region ?_
                  refine TL.pure (PV.move rfl) rfl (by decide) ?_
                  refine TL.pure (PV.add rfl rfl (by omega)) rfl (by decide) ?_
                  refine TL.pure (PV.assign rfl) rfl (by decide) ?_
                  refine TL.nil ?_
                  refine TQ.thenN ?_
                  refine TQ.backK (m + 1) (by repeat (first | exact True.intro | refine And.intro rfl ?_)) (by repeat (first | exact True.intro | refine And.intro rfl ?_)) (by first | (rw [hsucc, ← hv1, ltM, if_pos (by first | omega | (simp_all; done) | (simp_all; omega))]; exact List.Sublist.cons _ (List.Sublist.refl _)) | (rw [hsucc, ← hv1, ltM, if_neg (by first | omega | (simp_all; done) | (simp_all; omega)), Int.sub_zero]; exact List.Sublist.cons _ (List.Sublist.refl _))) (by omega) (by omega)
                · skip
                  refine TC.skip ?_
                  refine TQ.blkN ?_
                  refine TQ.thenC ?_
                  refine TC.region ?_
                  refine TL.pure (PV.move rfl) rfl (by decide) ?_
                  refine TL.pure (PV.add rfl rfl (by omega)) rfl (by decide) ?_
                  refine TL.pure (PV.assign rfl) rfl (by decide) ?_
                  refine TL.nil ?_
                  refine TQ.thenN ?_
                  refine TQ.backK (m + 1) (by repeat (first | exact True.intro | refine And.intro rfl ?_)) (by repeat (first | exact True.intro | refine And.intro rfl ?_)) (by first | (rw [hsucc, ← hv1, ltM, if_pos (by first | omega | (simp_all; done) | (simp_all; omega))]; exact List.Sublist.cons _ (List.Sublist.refl _)) | (rw [hsucc, ← hv1, ltM, if_neg (by first | omega | (simp_all; done) | (simp_all; omega)), Int.sub_zero]; exact List.Sublist.cons _ (List.Sublist.refl _))) (by omega) (by omega)
              · skip
                refine TA.op (OpOK.skip rfl) (by decide) ?_
                refine TA.op (OpOK.skip rfl) (by decide) ?_
                refine TA.op (OpOK.skip rfl) (by decide) ?_
                refine TA.op (OpOK.skip rfl) (by decide) ?_
                refine TA.op (OpOK.skip rfl) (by decide) ?_
                refine TA.op (OpOK.skip rfl) (by decide) ?_
                refine TA.op (OpOK.skip rfl) (by decide) ?_
                refine TA.op (OpOK.pure (PV.pickF rfl rfl) rfl (by decide)) (by decide) ?_
                refine TA.op (OpOK.pure (PV.pickF rfl rfl) rfl (by decide)) (by decide) ?_
                refine TA.op (OpOK.pure (PV.pickT rfl rfl) rfl (by decide)) (by decide) ?_
                show TQ _ _ _ _ _
                refine TQ.thenC ?_
                refine TC.condF rfl ?_
                refine TC.skip ?_
                refine TQ.blkN ?_
                refine TQ.thenC ?_
                refine TC.region ?_
                refine TL.pure (PV.move rfl) rfl (by decide) ?_
                refine TL.pure (PV.add rfl rfl (by omega)) rfl (by decide) ?_
                refine TL.pure (PV.assign rfl) rfl (by decide) ?_
                refine TL.nil ?_
                refine TQ.thenN ?_
                refine TQ.backK (m + 1) (by repeat (first | exact True.intro | refine And.intro rfl ?_)) (by repeat (first | exact True.intro | refine And.intro rfl ?_)) (by first | (rw [hsucc, ← hv1, ltM, if_pos (by first | omega | (simp_all; done) | (simp_all; omega))]; exact List.Sublist.cons _ (List.Sublist.refl _)) | (rw [hsucc, ← hv1, ltM, if_neg (by first | omega | (simp_all; done) | (simp_all; omega)), Int.sub_zero]; exact List.Sublist.cons _ (List.Sublist.refl _))) (by omega) (by omega)
          · skip
            refine TA.op (OpOK.skip rfl) (by decide) ?_
            refine TA.op (OpOK.skip rfl) (by decide) ?_
            refine TA.op (OpOK.skip rfl) (by decide) ?_
            refine TA.op (OpOK.skip rfl) (by decide) ?_
            refine TA.op (OpOK.skip rfl) (by decide) ?_
            refine TA.op (OpOK.skip rfl) (by decide) ?_
            refine TA.op (OpOK.skip rfl) (by decide) ?_
            refine TA.op (OpOK.skip rfl) (by decide) ?_
            refine TA.op (OpOK.skipU rfl) (by decide) ?_
            refine TA.op (OpOK.skipU rfl) (by decide) ?_
            refine TA.op (OpOK.skipU rfl) (by decide) ?_
            refine TA.op (OpOK.skipU rfl) (by decide) ?_
            refine TA.op (OpOK.skipU rfl) (by decide) ?_
            refine TA.op (OpOK.skipU rfl) (by decide) ?_
            refine TA.op (OpOK.skipU rfl) (by decide) ?_
            refine TA.op (OpOK.skip rfl) (by decide) ?_
            refine TA.op (OpOK.skip rfl) (by decide) ?_
            refine TA.op (OpOK.skipU rfl) (by decide) ?_
            refine TA.op (OpOK.skipU rfl) (by decide) ?_
            refine TA.op (OpOK.skipU rfl) (by decide) ?_
            refine TA.op (OpOK.skipU rfl) (by decide) ?_
            refine TA.op (OpOK.skipU rfl) (by decide) ?_
            refine TA.op (OpOK.skipU rfl) (by decide) ?_
            refine TA.op (OpOK.skipU rfl) (by decide) ?_
            refine TA.op (OpOK.skipU rfl) (by decide) ?_
            refine TA.op (OpOK.skipU rfl) (by decide) ?_
            refine TA.op (OpOK.skipU rfl) (by decide) ?_
            refine TA.op (OpOK.skipU rfl) (by decide) ?_
            refine TA.op (OpOK.skipU rfl) (by decide) ?_
            refine TA.op (OpOK.skipU rfl) (by decide) ?_
            refine TA.op (OpOK.skipU rfl) (by decide) ?_
            refine TA.op (OpOK.skipU rfl) (by decide) ?_
            refine TA.op (OpOK.skipU rfl) (by decide) ?_
            refine TA.op (OpOK.skip rfl) (by decide) ?_
            refine TA.op (OpOK.pure (PV.pickF rfl rfl) rfl (by decide)) (by decide) ?_
            show TQ _ _ _ _ _
            refine TQ.thenC ?_
            refine TC.condF rfl ?_
            refine TC.skip ?_
            refine TQ.blkN ?_
            refine TQ.thenC ?_
            refine TC.region ?_
            refine TL.pure (PV.move rfl) rfl (by decide) ?_
            refine TL.pure (PV.add rfl rfl (by omega)) rfl (by decide) ?_
            refine TL.pure (PV.assign rfl) rfl (by decide) ?_
            refine TL.nil ?_
            refine TQ.thenN ?_
            refine TQ.backK (m + 1) (by repeat (first | exact True.intro | refine And.intro rfl ?_)) (by repeat (first | exact True.intro | refine And.intro rfl ?_)) (by first | (rw [hsucc, ← hv1, ltM, if_pos (by first | omega | (simp_all; done) | (simp_all; omega))]; exact List.Sublist.cons _ (List.Sublist.refl _)) | (rw [hsucc, ← hv1, ltM, if_neg (by first | omega | (simp_all; done) | (simp_all; omega)), Int.sub_zero]; exact List.Sublist.cons _ (List.Sublist.refl _))) (by omega) (by omega)
      · skip
        refine TC.exit ?_
        refine TQ.thenE ?_
        refine TQ.thenE ?_
        refine TQ.blkS ?_
        refine TQ.blkN ?_
        refine TQ.thenC ?_
        refine TC.region ?_
        refine TL.pure (PV.move rfl) rfl (by decide) ?_
        refine TL.pure (PV.add rfl rfl (by omega)) rfl (by decide) ?_
        refine TL.pure (PV.assign rfl) rfl (by decide) ?_
        refine TL.nil ?_
        refine TQ.thenN ?_
        refine TQ.backK (k + 1) (by repeat (first | exact True.intro | refine And.intro rfl ?_)) (by repeat (first | exact True.intro | refine And.intro rfl ?_)) (by rw [← rowX_full (by omega), show lapE rs pts x.1 k = lapS rs pts x.1 k m by rw [show m = rs.length by omega]; rfl]; exact List.Sublist.refl _) (by omega) (by omega)
    · skip
      refine TC.exit ?_
      refine TQ.thenE ?_
      refine TQ.thenE ?_
      refine TQ.blkS ?_
      refine TQ.thenC ?_
      refine TC.lit [(1, _), (2, _), (5, _), (6, _), (7, _)] (by repeat (first | exact True.intro | refine And.intro rfl ?_)) ?_
      refine TC.region ?_
      refine TL.pure (PV.move rfl) rfl (by decide) ?_
      refine TL.pure (PV.move rfl) rfl (by decide) ?_
      refine TL.buildSlice (cs := #[.slice (some ⟨b1, 0, none⟩) K K]) rfl Tb.sl_27 Tb.zi_31 (by decide) (fill_g (some (b1, K, [])) K) (by decide) rfl (by decide) (fun bO hbO => ?_)
      refine TL.appendP (x0 := x.2) (y := (some (b1, K, []), fillZ (lapE rs pts x.1) K K)) rfl rfl (by rw [gv_fill]; repeat (first | exact List.Mem.head _ | refine List.Mem.tail _ ?_ | refine List.mem_append_right _ ?_)) hx.ok (by repeat (first | exact TakeH.here _ _ _ _ | apply TakeH.tail | apply TakeH.app)) (by have := hx.len; omega) rfl (by decide) (fun hP_ hP => ?_)
      refine TL.pure (PV.assign rfl) rfl (by decide) ?_
      refine TL.nil ?_
      refine TQ.blkN ?_
      refine TQ.thenC ?_
      refine TC.region ?_
      refine TL.pure (PV.move rfl) rfl (by decide) ?_
      refine TL.pure (PV.add rfl rfl (by omega)) rfl (by decide) ?_
      refine TL.pure (PV.assign rfl) rfl (by decide) ?_
      refine TL.nil ?_
      refine TQ.thenN ?_
      refine TQ.backK (x.1 + 1, _, _) (by repeat (first | exact True.intro | refine And.intro rfl ?_)) (by repeat (first | exact True.intro | refine And.intro rfl ?_)) (by rw [show k = K by omega, bl_snoc, arr_gb]; simp only [List.append_assoc]; exact List.Sublist.append_left (List.Sublist.cons _ (List.Sublist.refl _)) _) (hx.step (by omega) hP) (by simp only; omega)
  · skip
    refine TC.exit ?_
    refine TQ.thenE ?_
    refine TQ.thenE ?_
    refine TQ.blkS ?_
    refine TQ.thenC ?_
    refine TC.seq ?_
    refine TC.region ?_
    refine TL.pure (PV.move rfl) rfl (by decide) ?_
    refine TL.pure (PV.assign rfl) rfl (by decide) ?_
    refine TL.nil ?_
    refine TQ.thenC ?_
    refine TC.ret ?_
    refine TQ.retE1 rfl rfl ?_
    exact ⟨x.2, rfl, by rw [show x.1 = K by omega] at hx; exact hx, by rw [← List.append_assoc]; exact List.sublist_append_left _ _⟩

end Go.Proofs.Ytmmgcajegokkoaa

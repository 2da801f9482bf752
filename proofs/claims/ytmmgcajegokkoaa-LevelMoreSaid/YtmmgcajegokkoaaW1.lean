/- The best heights are accepted as a claim, and no other number is: the statement's own function. -/
import Derived.Test.YtmmgcajegokkoaaMi
import Derived.Test.YtmmgcajegokkoaaV1
import Derived.Test.YtmmgcajegokkoaaOp
import Derived.Test.YtmmgcajegokkoaaRw
namespace Go.Proofs.Ytmmgcajegokkoaa
open Go.Sx Go.RowKit

theorem best_any (w0 : World) (n : Int) (p : Option Addr) (cap : Nat) (rs : List Rd) (hr : RdsAt w0 p rs) (hv : Valid n rs) :
    Calls Try.prog 35 #[sv n p rs.length cap] w0 (Post (X := Nat) (fun b => .tuple #[.slice (some ⟨b, 0, none⟩) n.toNat n.toNat, .int .i64 0]) (fun _ => True) (fun b => [(b, .cells (recA (lowsL (solN n.toNat rs (bestL n.toNat rs)) (solD n.toNat rs (bestL n.toNat rs)))) 46 (0, 0))]) w0) :=
  best_ok w0 n p cap rs hr hv (solved hv.nat.1 (bestL_48 hv.nat.1)).sound
/-- The best heights in memory. -/
def hRows (N : Nat) (rs : List Rd) : List (List Value) := (List.range N).map fun i => [.int .i64 (hN N rs i), .int .i64 (hD N rs i)]
theorem hRows_eq {N : Nat} {rs : List Rd} (hv : Valid (N : Int) rs) : lowsL (solN N rs (bestL N rs)) (solD N rs (bestL N rs)) = hRows N rs := by
  unfold lowsL hRows
  rw [solN_len]
  refine List.map_congr_left fun j hj => ?_
  rw [solZ_get _ _ _ (List.mem_range.1 hj), solD_eq hv]
  rfl
theorem hRows_len (N : Nat) (rs : List Rd) : (hRows N rs).length = N := by simp [hRows]
theorem hRows_two (N : Nat) (rs : List Rd) : ∀ r ∈ hRows N rs, r.length = 2 := by
  intro r hr
  obtain ⟨j, _, rfl⟩ := List.mem_map.1 hr
  rfl
theorem hRows_get {N : Nat} {rs : List Rd} {i : Nat} (hi : i < N) : (hRows N rs).getD i [] = [.int .i64 (hN N rs i), .int .i64 (hD N rs i)] := by simp [hRows, List.getD, hi]
theorem hRows_num {N : Nat} {rs : List Rd} {i : Nat} (hi : i < N) : (recA (hRows N rs))[0 + i * 2 + 0]? = some (.int .i64 (hN N rs i)) := by
  have h := flatten_get (l := hRows N rs) (k := 2) (j := i) (i := 0) (hRows_two N rs) (by rw [hRows_len]; exact hi) (by omega)
  simp only [recA, List.getElem?_toArray, Nat.zero_add]
  rw [h, hRows_get hi]; rfl
theorem hRows_den {N : Nat} {rs : List Rd} {i : Nat} (hi : i < N) : (recA (hRows N rs))[0 + i * 2 + 1]? = some (.int .i64 (hD N rs i)) := by
  have h := flatten_get (l := hRows N rs) (k := 2) (j := i) (i := 1) (hRows_two N rs) (by rw [hRows_len]; exact hi) (by omega)
  simp only [recA, List.getElem?_toArray, Nat.zero_add]
  rw [h, hRows_get hi]; rfl
theorem best_h (w0 : World) (n : Int) (p : Option Addr) (cap : Nat) (rs : List Rd) (hr : RdsAt w0 p rs) (hv : Valid n rs) :
    Calls Try.prog 35 #[sv n p rs.length cap] w0 (Post (X := Nat) (fun b => .tuple #[.slice (some ⟨b, 0, none⟩) n.toNat n.toNat, .int .i64 0]) (fun _ => True) (fun b => [(b, .cells (recA (hRows n.toNat rs)) 46 (0, 0))]) w0) := by
  have h := best_any w0 n p cap rs hr hv
  rw [hRows_eq hv.nat.1] at h
  exact h
theorem best_both (w0 : World) (n : Int) (p : Option Addr) (cap : Nat) (rs : List Rd) (hr : RdsAt w0 p rs) :
    Calls Try.prog 35 #[sv n p rs.length cap] w0 (Post (X := Nat) (fun b => .tuple #[if validateI n rs = 0 then .slice (some ⟨b, 0, none⟩) n.toNat n.toNat else .slice none 0 0, .int .i64 (validateI n rs)]) (fun _ => True) (fun b => if validateI n rs = 0 then [(b, .cells (recA (hRows n.toNat rs)) 46 (0, 0))] else []) w0) := by
  by_cases hv : validateI n rs = 0
  · have h := best_h w0 n p cap rs hr hv
    simp only [hv, if_true]
    exact h
  · have h := best_bad w0 n p cap rs hr hv
    simp only [hv, if_false]
    refine h.mono fun e w' hp => ?_
    obtain ⟨x, hx⟩ := hp
    exact ⟨0, hx⟩
theorem checkBestG (w0 : World) (n : Int) (p : Option Addr) (cap : Nat) (rs : List Rd) (hr : RdsAt w0 p rs) (den : Int) (h : HD) (K : Nat) (xs : List Int) (hK : xs.length = K) (ho : goI (h, xs)) (hl : K ≤ 1000000) (hx : IntsAt w0 (gp h) xs) :
    Calls Try.prog 42 #[sv n p rs.length cap, .agg #[.int .i64 den, gval h K]] w0 (Post (X := Unit) (fun _ => .int .i64 (checkE n rs den xs)) (fun _ => True) (fun _ => []) w0) := by
  subst hK
  have hc := checkBest_ok w0 n p cap rs hr den (gp h) (gc h) xs xs.length rfl hx hl
  rw [← gval_eq ho] at hc
  exact hc
theorem upd_gbI {h : HD} {xs : List Int} {j : Nat} {v : Int} {R : Heap} (hok : goI (h, xs)) (hj : j < xs.length) :
    Upd ((h.map (·.1)).getD 0) (.cells (ival xs ++ (h.map (·.2.2)).getD []).toArray 3 (0, 0)) (.cells ((ival xs ++ (h.map (·.2.2)).getD []).toArray.setIfInBounds (j * 1) (.int .i64 v)) 3 (0, 0)) (gbI (h, xs) ++ R) (gbI (h, xs.set j v) ++ R) := by
  cases h with
  | none => exact absurd hok.2 (by simp only; omega)
  | some hh =>
    obtain ⟨b, cap, sp⟩ := hh
    have e : ((ival xs ++ sp).toArray.setIfInBounds (j * 1) (.int .i64 v)) = (ival (xs.set j v) ++ sp).toArray := by
      simp only [Nat.mul_one, List.setIfInBounds_toArray]
      rw [List.set_append_left _ _ (by simpa using hj)]
      simp [ival, List.map_set]
    show Upd b _ (.cells ((ival xs ++ sp).toArray.setIfInBounds (j * 1) (.int .i64 v)) 3 (0, 0)) ((b, _) :: R) ((b, .cells (ival (xs.set j v) ++ sp).toArray 3 (0, 0)) :: R)
    rw [e]
    exact Upd.head _
theorem goI_set {h : HD} {xs : List Int} {j : Nat} {v : Int} (hok : goI (h, xs)) : goI (h, xs.set j v) := by
  obtain ⟨h1, h2⟩ := hok
  refine ⟨by simp, ?_⟩
  cases h with
  | none => simpa using h2
  | some hh =>
    simp only [ival, List.length_map, List.length_set] at h2 ⊢
    exact h2
theorem store_lt {sp : List Value} {xs : List Int} {j : Nat} (hj : j < xs.length) : j * 1 < (ival xs ++ sp).toArray.size := by simp [ival]; omega
theorem ivalH_get {h : HD} {xs : List Int} {j : Nat} (hj : j < xs.length) : (ival xs ++ (h.map (·.2.2)).getD []).toArray[j * 1]? = some (.int .i64 (xs.getD j 0)) := ivalI_get hj
theorem t_bn {t m : Int} (h1 : 1 ≤ t) (h2 : t ≤ 26406) (h3 : 1 ≤ m) (h4 : m ≤ 9) (D : Int) (hD : t ≤ D) : 1 ≤ t * m ∧ t * m ≤ 237654 ∧ t * m ≤ 9 * D := by
  have e1 := (show Bn t 26406 from ⟨by omega, h2⟩).mul (show Bn m 9 from ⟨by omega, h4⟩)
  have e2 := Int.mul_pos (show 0 < t by omega) (show 0 < m by omega)
  have e3 : t * m ≤ D * 9 := Int.mul_le_mul hD h4 (by omega) (by omega)
  unfold Bn at e1
  omega
structure TI (N : Nat) (rs : List Rd) (den : Int) (k : Nat) (y : HD × List Int) : Prop where
  le : k ≤ N
  eq : y.2 = (List.range k).map (tN N rs den)
  ok : goI y
theorem TI.zero (N : Nat) (rs : List Rd) (den : Int) : TI N rs den 0 (none, []) := ⟨Nat.zero_le _, rfl, ⟨rfl, rfl⟩⟩
theorem TI.len {N : Nat} {rs : List Rd} {den : Int} {k : Nat} {y : HD × List Int} (h : TI N rs den k y) : y.2.length = k := by rw [h.eq]; simp
theorem TI.step {N : Nat} {rs : List Rd} {den : Int} {k : Nat} {y : HD × List Int} {h' : HD} (h : TI N rs den k y) (hk : k < N) (ho : goI (h', y.2 ++ [tN N rs den k])) : TI N rs den (k + 1) (h', y.2 ++ [tN N rs den k]) :=
  ⟨hk, by show y.2 ++ [tN N rs den k] = _; rw [h.eq, List.range_succ, List.map_append]; rfl, ho⟩
theorem TI.get {N : Nat} {rs : List Rd} {den : Int} {y : HD × List Int} (h : TI N rs den N y) {i : Nat} (hi : i < N) : y.2.getD i 0 = tN N rs den i := by rw [h.eq]; simp [List.getD, hi]


set_option maxRecDepth 100000 in
set_option maxHeartbeats 4000000 in
theorem levelProves_ok (w0 : World) (n : Int) (p : Option Addr) (cap : Nat) (rs : List Rd) (hr : RdsAt w0 p rs) (times : Int) (hti : I64 times) (pt : Int) (hpt : I64 pt) :
    Calls Try.prog 8 #[sv n p rs.length cap, .int .i64 times, .int .i64 pt] w0 (Post (X := Unit) (fun _ => .bool true) (fun _ => True) (fun _ => []) w0) := by
  refine calls Try.func8 rfl (n := 152) rfl (by simp) ?_
  refine TC.seq ?_
  refine TC.region ?_
  refine TL.box rfl rfl (by decide) (fun b0 hb0 => ?_)
  refine TL.pure (PV.assign rfl) rfl (by decide) ?_
  refine TL.nil ?_
  refine TQ.thenC ?_
  refine TC.seq ?_
  refine TC.seq ?_
  refine TC.region ?_
  refine TL.pure (PV.loadBox rfl Tb.agg_24 (by repeat (first | exact List.Mem.head _ | refine List.Mem.tail _ ?_ | refine List.mem_append_right _ ?_)) rfl) rfl (by decide) ?_
  refine TL.call rfl Tb.gofn_17 (fun a w hs => long_ok w _ _ _ _) rfl (by decide) (fun _ _ => ?_)
  refine TL.nil ?_
  refine TQ.thenC ?_
  first | refine TC.condD rfl (fun h0 => ?_) (fun h0 => ?_) | refine TC.cond rfl (fun h0 => ?_) (fun h0 => ?_)
  · skip
    refine TC.seq ?_
    refine TC.region ?_
    refine TL.call rfl Tb.gofn_18 (fun a w hs => known_ok w) rfl (by decide) (fun _ _ => ?_)
    refine TL.pure (PV.assign rfl) rfl (by decide) ?_
    refine TL.nil ?_
    refine TQ.thenC ?_
    refine TC.ret ?_
    refine TQ.thenR ?_
    refine TQ.retE1 rfl rfl ?_
    first | exact ⟨(), rfl, trivial, List.nil_sublist _⟩ | (exfalso; omega) | (exfalso; simp_all; done) | (exfalso; simp_all; omega)
  · skip
    refine TC.skip ?_
    refine TQ.thenC ?_
    refine TC.seq ?_
    refine TC.region ?_
    refine TL.pure (PV.loadBox rfl Tb.agg_24 (by repeat (first | exact List.Mem.head _ | refine List.Mem.tail _ ?_ | refine List.mem_append_right _ ?_)) rfl) rfl (by decide) ?_
    refine TL.call rfl Tb.gofn_35 (fun a w hs => best_both w _ _ _ _ (hr.new hs.new)) rfl (by decide) (fun bH _ => ?_)
    refine TL.pure (PV.move rfl) rfl (by decide) ?_
    refine TL.pure (PV.extract rfl rfl) rfl (by decide) ?_
    refine TL.pure (PV.extract rfl rfl) rfl (by decide) ?_
    refine TL.pure (PV.assign rfl) rfl (by decide) ?_
    refine TL.pure (PV.assign rfl) rfl (by decide) ?_
    refine TL.nil ?_
    refine TQ.thenC ?_
    refine TC.seq ?_
    refine TC.seq ?_
    refine TC.region ?_
    refine TL.pure (PV.move rfl) rfl (by decide) ?_
    refine TL.pure (PV.neq rfl rfl) rfl (by decide) ?_
    refine TL.nil ?_
    refine TQ.thenC ?_
    first | refine TC.condD rfl (fun hbad => ?_) (fun hbad => ?_) | refine TC.cond rfl (fun hbad => ?_) (fun hbad => ?_)
    · skip
      refine TC.seq ?_
      refine TC.region ?_
      refine TL.call rfl Tb.gofn_18 (fun a w hs => known_ok w) rfl (by decide) (fun _ _ => ?_)
      refine TL.pure (PV.assign rfl) rfl (by decide) ?_
      refine TL.nil ?_
      refine TQ.thenC ?_
      refine TC.ret ?_
      refine TQ.thenR ?_
      refine TQ.retE1 rfl rfl ?_
      first | exact ⟨(), rfl, trivial, List.nil_sublist _⟩ | (exfalso; omega) | (exfalso; simp_all; done) | (exfalso; simp_all; omega)
    · skip
      refine TC.skip ?_
      refine TQ.thenC ?_
      refine TC.seq ?_
      have hv : Valid n rs := Decidable.of_not_not (p := validateI n rs = 0) (by simpa using hbad)
      have hvz : validateI n rs = 0 := hv
      simp only [hvz, if_true]
      have hp := hv.pts
      have hll := hv.len
      obtain ⟨N, rfl⟩ : ∃ N : Nat, n = N := ⟨n.toNat, by omega⟩
      simp only [Int.toNat_natCast]
      have hDp := denO_pos hv
      have hDt := denO_tight hv
      refine TC.region ?_
      refine TL.pure (PV.build rfl Tb.zero_51 Tb.pl_51 rfl) rfl (by decide) ?_
      refine TL.alloc Tb.zero_51 rfl (by decide) (fun b1 hb1 => ?_)
      refine TL.storeAgg rfl rfl Tb.cells_51 (by repeat (first | exact Upd.head _ | apply Upd.tail | apply Upd.appR)) rfl rfl rfl rfl rfl ?_
      refine TL.nil ?_
      refine TQ.thenC ?_
      refine TC.seq ?_
      refine TC.seq ?_
      refine TC.region ?_
      refine TL.pure (PV.assign rfl) rfl (by decide) ?_
      refine TL.nil ?_
      refine TQ.thenC ?_
      refine TC.block ?_
      -- live and written in the loop, not told: [6]
      refine TC.lit [(1, _), (2, _), (3, _), (7, _), (9, _), (10, _)] (by repeat (first | exact True.intro | refine And.intro rfl ?_)) ?_
      refine TC.loopK [1, 2, 3, 7, 9] (X := Nat × Int) (fun x => x.1 ≤ N ∧ LcmI (denO N rs) x.2 x.1 (hD N rs)) (fun x => [(10, .int .i64 x.1)]) (fun x => (b1, Obj.cells #[.int .i64 x.2, .slice none 0 0] 51 (0, 0)) :: ((bH, .cells (recA (hRows N rs)) 46 (0, 0)) :: [(b0, .cells #[.int .i64 N, .slice p rs.length cap] 24 (0, 0))])) (fun x => N - x.1) (0, 1) ⟨Nat.zero_le _, LcmI.zero _ _⟩ (by repeat (first | exact True.intro | refine And.intro rfl ?_)) (by repeat (first | exact List.Sublist.slnil | exact List.nil_sublist _ | exact List.Sublist.refl _ | refine List.Sublist.cons_cons _ ?_ | refine List.Sublist.cons _ ?_ | refine List.Sublist.trans ?_ (List.sublist_append_right _ _))) ?_
      intro x hx
      refine TC.seq ?_
      refine TC.seq ?_
      refine TC.region ?_
      refine TL.pure (PV.move rfl) rfl (by decide) ?_
      refine TL.pure (PV.move rfl) rfl (by decide) ?_
      refine TL.pure (PV.len rfl Tb.sl_42) rfl (by decide) ?_
      refine TL.pure (PV.lss rfl rfl) rfl (by decide) ?_
      refine TL.nil ?_
      refine TQ.thenC ?_
      first | refine TC.condD rfl (fun hlt => ?_) (fun hlt => ?_) | refine TC.cond rfl (fun hlt => ?_) (fun hlt => ?_)
      · skip
        refine TC.skip ?_
        refine TQ.thenC ?_
        refine TC.seq ?_
        refine TC.block ?_
        refine TC.seq ?_
        refine TC.seq ?_
        have hkl : x.1 < N := by omega
        obtain ⟨ga, a⟩ := hIs hv hkl
        have a1 := a.dpos
        have a2 := a.dle
        have htl := hx.2.le (by omega)
        have htp := hx.2.pos
        refine TC.region ?_
        refine TL.pure (PV.move rfl) rfl (by decide) ?_
        refine TL.pure (PV.move rfl) rfl (by decide) ?_
        refine TL.pure (PV.index rfl rfl Tb.elm_42 rfl (by omega)) rfl (by decide) ?_
        refine TL.pure (PV.fieldAddr rfl Tb.fo_46_1) rfl (by decide) ?_
        refine TL.pure (PV.loadG' rfl Tb.one_3 (by repeat (first | exact List.Mem.head _ | refine List.Mem.tail _ ?_ | refine List.mem_append_right _ ?_)) (hRows_den hkl)) rfl (by decide) ?_
        refine TL.pure (PV.lss rfl rfl) rfl (by decide) ?_
        refine TL.pure (PV.move rfl) rfl (by decide) ?_
        first | refine TL.splitD 38 rfl (fun h3 => ?_) (fun h3 => ?_) | refine TL.split 38 rfl (fun h3 => ?_) (fun h3 => ?_)
        · skip
          refine TL.skip rfl (fun k hk => by cases hk; decide) ?_
          refine TL.skip rfl (fun k hk => by cases hk; decide) ?_
          refine TL.skip rfl (fun k hk => by cases hk; decide) ?_
          refine TL.skip rfl (fun k hk => by cases hk; decide) ?_
          refine TL.skip rfl (fun k hk => by cases hk; decide) ?_
          refine TL.skip rfl (fun k hk => by cases hk; decide) ?_
          refine TL.pure (PV.pickT rfl rfl) rfl (by decide) ?_
          refine TL.nil ?_
          refine TQ.thenC ?_
          refine TC.condT rfl ?_
          refine TC.seq ?_
          refine TC.region ?_
          refine TL.pure (PV.assign rfl) rfl (by decide) ?_
          refine TL.nil ?_
          refine TQ.thenC ?_
          refine TC.ret ?_
          refine TQ.thenR ?_
          refine TQ.blkR ?_
          refine TQ.thenR ?_
          refine TQ.thenR ?_
          refine TQ.blkR ?_
          refine TQ.thenR ?_
          refine TQ.retE1 rfl rfl ?_
          first | exact ⟨(), rfl, trivial, List.nil_sublist _⟩ | (exfalso; omega) | (exfalso; simp_all; done) | (exfalso; simp_all; omega)
        · skip
          refine TL.pure (PV.move rfl) rfl (by decide) ?_
          refine TL.pure (PV.move rfl) rfl (by decide) ?_
          refine TL.pure (PV.index rfl rfl Tb.elm_42 rfl (by omega)) rfl (by decide) ?_
          refine TL.pure (PV.fieldAddr rfl Tb.fo_46_1) rfl (by decide) ?_
          refine TL.pure (PV.loadG' rfl Tb.one_3 (by repeat (first | exact List.Mem.head _ | refine List.Mem.tail _ ?_ | refine List.mem_append_right _ ?_)) (hRows_den hkl)) rfl (by decide) ?_
          refine TL.pure (PV.gtr rfl rfl) rfl (by decide) ?_
          refine TL.pure (PV.pickF rfl rfl) rfl (by decide) ?_
          refine TL.nil ?_
          refine TQ.thenC ?_
          first | refine TC.condD rfl (fun h4 => ?_) (fun h4 => ?_) | refine TC.cond rfl (fun h4 => ?_) (fun h4 => ?_)
          · skip
            refine TC.seq ?_
            refine TC.region ?_
            refine TL.pure (PV.assign rfl) rfl (by decide) ?_
            refine TL.nil ?_
            refine TQ.thenC ?_
            refine TC.ret ?_
            refine TQ.thenR ?_
            refine TQ.blkR ?_
            refine TQ.thenR ?_
            refine TQ.thenR ?_
            refine TQ.blkR ?_
            refine TQ.thenR ?_
            refine TQ.retE1 rfl rfl ?_
            first | exact ⟨(), rfl, trivial, List.nil_sublist _⟩ | (exfalso; omega) | (exfalso; simp_all; done) | (exfalso; simp_all; omega)
          · skip
            refine TC.skip ?_
            refine TQ.thenC ?_
            refine TC.seq ?_
            refine TC.any Tb.mixed rfl rfl ?_
            refine TA.op (OpOK.pure (PV.fieldAddr rfl Tb.fo_51_0) rfl (by decide)) (by decide) ?_
            refine TA.op (OpOK.pure (PV.load rfl Tb.one_3 (by repeat (first | exact List.Mem.head _ | refine List.Mem.tail _ ?_ | refine List.mem_append_right _ ?_)) rfl) rfl (by decide)) (by decide) ?_
            refine TA.op (OpOK.pure (PV.move rfl) rfl (by decide)) (by decide) ?_
            refine TA.op (OpOK.pure (PV.move rfl) rfl (by decide)) (by decide) ?_
            refine TA.op (OpOK.pure (PV.index rfl rfl Tb.elm_42 rfl (by omega)) rfl (by decide)) (by decide) ?_
            refine TA.op (OpOK.pure (PV.fieldAddr rfl Tb.fo_46_1) rfl (by decide)) (by decide) ?_
            refine TA.op (OpOK.pure (PV.loadG' rfl Tb.one_3 (by repeat (first | exact List.Mem.head _ | refine List.Mem.tail _ ?_ | refine List.mem_append_right _ ?_)) (hRows_den hkl)) rfl (by decide)) (by decide) ?_
            refine TA.op (OpOK.pure (PV.assign rfl) rfl (by decide)) (by decide) ?_
            refine TA.op (OpOK.pure (PV.assign rfl) rfl (by decide)) (by decide) ?_
            show TQ _ _ _ _ _
            refine TQ.thenC ?_
            refine TC.seq ?_
            refine TC.block ?_
            refine TC.lit [(1, _), (2, _), (3, _), (7, _), (9, _), (10, _), (11, _), (12, _)] (by repeat (first | exact True.intro | refine And.intro rfl ?_)) ?_
            refine TC.loopG [1, 2, 3, 6, 7, 9, 10] (X := Int × Int) (fun y => Int.gcd y.1 y.2 = Int.gcd x.2 (hD N rs x.1) ∧ (0 < y.1 ∧ y.1 ≤ 1000000) ∧ (0 ≤ y.2 ∧ y.2 ≤ 1000000)) (fun y => [(11, .int .i64 y.1), (12, .int .i64 y.2)]) (fun y => y.2.toNat) (x.2, hD N rs x.1) ⟨rfl, by omega, by omega⟩ (by repeat (first | exact True.intro | refine And.intro rfl ?_)) ?_
            intro y hy
            refine TC.seq ?_
            refine TC.seq ?_
            refine TC.region ?_
            refine TL.pure (PV.move rfl) rfl (by decide) ?_
            refine TL.pure (PV.neq rfl rfl) rfl (by decide) ?_
            refine TL.nil ?_
            refine TQ.thenC ?_
            first | refine TC.condD rfl (fun hne => ?_) (fun hne => ?_) | refine TC.cond rfl (fun hne => ?_) (fun hne => ?_)
            · skip
              refine TC.skip ?_
              refine TQ.thenC ?_
              refine TC.block ?_
              have hy1 := hy.1
              have hmt := Int.tmod_lt_of_pos y.1 (show 0 < y.2 by omega)
              have hmn := Int.tmod_nonneg y.2 (show 0 ≤ y.1 by omega)
              refine TC.mixE [false, false, false, false, false, false] _ 6 Tb.mixed rfl (by kernel_rfl) (by kernel_rfl) (by kernel_rfl) (by kernel_rfl) (List.Sublist.refl _) ?_
              refine TY.no ?_
              refine TY.no ?_
              refine TY.no ?_
              refine TY.no ?_
              refine TY.no ?_
              refine TY.no ?_
              refine TY.fin ?_
              refine TX.step [0, 1, 2] (by kernel_rfl) (by decide) ⟨⟨_, rfl, ?_⟩, ⟨_, rfl, ?_⟩, ⟨_, rfl, ?_⟩, trivial⟩
              · skip
                refine TL.pure (PV.move rfl) rfl (by decide) ?_
                refine TL.nil ?_
                refine TX.next (.inr (by kernel_rfl)) ?_
                refine TX.step [1, 2] (by kernel_rfl) (by decide) ⟨⟨_, rfl, ?_⟩, ⟨_, rfl, ?_⟩, trivial⟩
                · skip
                  refine TL.pure (PV.move rfl) rfl (by decide) ?_
                  refine TL.nil ?_
                  refine TX.next (.inr (by kernel_rfl)) ?_
                  refine TX.step [2, 4] (by kernel_rfl) (by decide) ⟨⟨_, rfl, ?_⟩, ⟨_, rfl, ?_⟩, trivial⟩
                  · skip
                    refine TL.pure (PV.move rfl) rfl (by decide) ?_
                    refine TL.nil ?_
                    refine TX.next (.inr (by kernel_rfl)) ?_
                    refine TX.step [3, 4] (by kernel_rfl) (by decide) ⟨⟨_, rfl, ?_⟩, ⟨_, rfl, ?_⟩, trivial⟩
                    · skip
                      refine TL.pure (PV.rem rfl rfl (by omega) (by omega)) rfl (by decide) ?_
                      refine TL.nil ?_
                      refine TX.next (.inr (by kernel_rfl)) ?_
                      refine TX.step [4] (by kernel_rfl) (by decide) ⟨⟨_, rfl, ?_⟩, trivial⟩
                      refine TL.pure (PV.assign rfl) rfl (by decide) ?_
                      refine TL.nil ?_
                      refine TX.next (.inr (by kernel_rfl)) ?_
                      refine TX.step [5] (by kernel_rfl) (by decide) ⟨⟨_, rfl, ?_⟩, trivial⟩
                      refine TL.pure (PV.assign rfl) rfl (by decide) ?_
                      refine TL.nil ?_
                      refine TX.next (.inr (by kernel_rfl)) ?_
                      refine TX.done (by kernel_rfl) ?_
                      refine TQ.blkN ?_
                      refine TQ.thenN ?_
                      refine TQ.backK (y.2, y.1.tmod y.2) (by repeat (first | exact True.intro | refine And.intro rfl ?_)) (by repeat (first | exact True.intro | refine And.intro rfl ?_)) (by repeat (first | exact List.Sublist.slnil | exact List.nil_sublist _ | exact List.Sublist.refl _ | refine List.Sublist.cons_cons _ ?_ | refine List.Sublist.cons _ ?_ | refine List.Sublist.trans ?_ (List.sublist_append_right _ _))) ⟨(gcd_tmod _ _).trans hy.1, by omega, by omega⟩ (by simp only; omega)
                    · skip
                      refine TL.pure (PV.assign rfl) rfl (by decide) ?_
                      refine TL.nil ?_
                      refine TX.next (.inr (by kernel_rfl)) ?_
                      refine TX.step [3] (by kernel_rfl) (by decide) ⟨⟨_, rfl, ?_⟩, trivial⟩
                      refine TL.pure (PV.rem rfl rfl (by omega) (by omega)) rfl (by decide) ?_
                      refine TL.nil ?_
                      refine TX.next (.inr (by kernel_rfl)) ?_
                      refine TX.step [5] (by kernel_rfl) (by decide) ⟨⟨_, rfl, ?_⟩, trivial⟩
                      refine TL.pure (PV.assign rfl) rfl (by decide) ?_
                      refine TL.nil ?_
                      refine TX.next (.inr (by kernel_rfl)) ?_
                      refine TX.done (by kernel_rfl) ?_
                      refine TQ.blkN ?_
                      refine TQ.thenN ?_
                      refine TQ.backK (y.2, y.1.tmod y.2) (by repeat (first | exact True.intro | refine And.intro rfl ?_)) (by repeat (first | exact True.intro | refine And.intro rfl ?_)) (by repeat (first | exact List.Sublist.slnil | exact List.nil_sublist _ | exact List.Sublist.refl _ | refine List.Sublist.cons_cons _ ?_ | refine List.Sublist.cons _ ?_ | refine List.Sublist.trans ?_ (List.sublist_append_right _ _))) ⟨(gcd_tmod _ _).trans hy.1, by omega, by omega⟩ (by simp only; omega)
                  · skip
                    refine TL.pure (PV.assign rfl) rfl (by decide) ?_
                    refine TL.nil ?_
                    refine TX.next (.inr (by kernel_rfl)) ?_
                    refine TX.step [2] (by kernel_rfl) (by decide) ⟨⟨_, rfl, ?_⟩, trivial⟩
                    refine TL.pure (PV.move rfl) rfl (by decide) ?_
                    refine TL.nil ?_
                    refine TX.next (.inr (by kernel_rfl)) ?_
                    refine TX.step [3] (by kernel_rfl) (by decide) ⟨⟨_, rfl, ?_⟩, trivial⟩
                    refine TL.pure (PV.rem rfl rfl (by omega) (by omega)) rfl (by decide) ?_
                    refine TL.nil ?_
                    refine TX.next (.inr (by kernel_rfl)) ?_
                    refine TX.step [5] (by kernel_rfl) (by decide) ⟨⟨_, rfl, ?_⟩, trivial⟩
                    refine TL.pure (PV.assign rfl) rfl (by decide) ?_
                    refine TL.nil ?_
                    refine TX.next (.inr (by kernel_rfl)) ?_
                    refine TX.done (by kernel_rfl) ?_
                    refine TQ.blkN ?_
                    refine TQ.thenN ?_
                    refine TQ.backK (y.2, y.1.tmod y.2) (by repeat (first | exact True.intro | refine And.intro rfl ?_)) (by repeat (first | exact True.intro | refine And.intro rfl ?_)) (by repeat (first | exact List.Sublist.slnil | exact List.nil_sublist _ | exact List.Sublist.refl _ | refine List.Sublist.cons_cons _ ?_ | refine List.Sublist.cons _ ?_ | refine List.Sublist.trans ?_ (List.sublist_append_right _ _))) ⟨(gcd_tmod _ _).trans hy.1, by omega, by omega⟩ (by simp only; omega)
                · skip
                  refine TL.pure (PV.move rfl) rfl (by decide) ?_
                  refine TL.nil ?_
                  refine TX.next (.inr (by kernel_rfl)) ?_
                  refine TX.step [1] (by kernel_rfl) (by decide) ⟨⟨_, rfl, ?_⟩, trivial⟩
                  refine TL.pure (PV.move rfl) rfl (by decide) ?_
                  refine TL.nil ?_
                  refine TX.next (.inr (by kernel_rfl)) ?_
                  refine TX.step [3, 4] (by kernel_rfl) (by decide) ⟨⟨_, rfl, ?_⟩, ⟨_, rfl, ?_⟩, trivial⟩
                  · skip
                    refine TL.pure (PV.rem rfl rfl (by omega) (by omega)) rfl (by decide) ?_
                    refine TL.nil ?_
                    refine TX.next (.inr (by kernel_rfl)) ?_
                    refine TX.step [4] (by kernel_rfl) (by decide) ⟨⟨_, rfl, ?_⟩, trivial⟩
                    refine TL.pure (PV.assign rfl) rfl (by decide) ?_
                    refine TL.nil ?_
                    refine TX.next (.inr (by kernel_rfl)) ?_
                    refine TX.step [5] (by kernel_rfl) (by decide) ⟨⟨_, rfl, ?_⟩, trivial⟩
                    refine TL.pure (PV.assign rfl) rfl (by decide) ?_
                    refine TL.nil ?_
                    refine TX.next (.inr (by kernel_rfl)) ?_
                    refine TX.done (by kernel_rfl) ?_
                    refine TQ.blkN ?_
                    refine TQ.thenN ?_
                    refine TQ.backK (y.2, y.1.tmod y.2) (by repeat (first | exact True.intro | refine And.intro rfl ?_)) (by repeat (first | exact True.intro | refine And.intro rfl ?_)) (by repeat (first | exact List.Sublist.slnil | exact List.nil_sublist _ | exact List.Sublist.refl _ | refine List.Sublist.cons_cons _ ?_ | refine List.Sublist.cons _ ?_ | refine List.Sublist.trans ?_ (List.sublist_append_right _ _))) ⟨(gcd_tmod _ _).trans hy.1, by omega, by omega⟩ (by simp only; omega)
                  · skip
                    refine TL.pure (PV.assign rfl) rfl (by decide) ?_
                    refine TL.nil ?_
                    refine TX.next (.inr (by kernel_rfl)) ?_
                    refine TX.step [3] (by kernel_rfl) (by decide) ⟨⟨_, rfl, ?_⟩, trivial⟩
                    refine TL.pure (PV.rem rfl rfl (by omega) (by omega)) rfl (by decide) ?_
                    refine TL.nil ?_
                    refine TX.next (.inr (by kernel_rfl)) ?_
                    refine TX.step [5] (by kernel_rfl) (by decide) ⟨⟨_, rfl, ?_⟩, trivial⟩
                    refine TL.pure (PV.assign rfl) rfl (by decide) ?_
                    refine TL.nil ?_
                    refine TX.next (.inr (by kernel_rfl)) ?_
                    refine TX.done (by kernel_rfl) ?_
                    refine TQ.blkN ?_
                    refine TQ.thenN ?_
                    refine TQ.backK (y.2, y.1.tmod y.2) (by repeat (first | exact True.intro | refine And.intro rfl ?_)) (by repeat (first | exact True.intro | refine And.intro rfl ?_)) (by repeat (first | exact List.Sublist.slnil | exact List.nil_sublist _ | exact List.Sublist.refl _ | refine List.Sublist.cons_cons _ ?_ | refine List.Sublist.cons _ ?_ | refine List.Sublist.trans ?_ (List.sublist_append_right _ _))) ⟨(gcd_tmod _ _).trans hy.1, by omega, by omega⟩ (by simp only; omega)
              · skip
                refine TL.pure (PV.move rfl) rfl (by decide) ?_
                refine TL.nil ?_
                refine TX.next (.inr (by kernel_rfl)) ?_
                refine TX.step [0, 2] (by kernel_rfl) (by decide) ⟨⟨_, rfl, ?_⟩, ⟨_, rfl, ?_⟩, trivial⟩
                · skip
                  refine TL.pure (PV.move rfl) rfl (by decide) ?_
                  refine TL.nil ?_
                  refine TX.next (.inr (by kernel_rfl)) ?_
                  refine TX.step [2, 4] (by kernel_rfl) (by decide) ⟨⟨_, rfl, ?_⟩, ⟨_, rfl, ?_⟩, trivial⟩
                  · skip
                    refine TL.pure (PV.move rfl) rfl (by decide) ?_
                    refine TL.nil ?_
                    refine TX.next (.inr (by kernel_rfl)) ?_
                    refine TX.step [3, 4] (by kernel_rfl) (by decide) ⟨⟨_, rfl, ?_⟩, ⟨_, rfl, ?_⟩, trivial⟩
                    · skip
                      refine TL.pure (PV.rem rfl rfl (by omega) (by omega)) rfl (by decide) ?_
                      refine TL.nil ?_
                      refine TX.next (.inr (by kernel_rfl)) ?_
                      refine TX.step [4] (by kernel_rfl) (by decide) ⟨⟨_, rfl, ?_⟩, trivial⟩
                      refine TL.pure (PV.assign rfl) rfl (by decide) ?_
                      refine TL.nil ?_
                      refine TX.next (.inr (by kernel_rfl)) ?_
                      refine TX.step [5] (by kernel_rfl) (by decide) ⟨⟨_, rfl, ?_⟩, trivial⟩
                      refine TL.pure (PV.assign rfl) rfl (by decide) ?_
                      refine TL.nil ?_
                      refine TX.next (.inr (by kernel_rfl)) ?_
                      refine TX.done (by kernel_rfl) ?_
                      refine TQ.blkN ?_
                      refine TQ.thenN ?_
                      refine TQ.backK (y.2, y.1.tmod y.2) (by repeat (first | exact True.intro | refine And.intro rfl ?_)) (by repeat (first | exact True.intro | refine And.intro rfl ?_)) (by repeat (first | exact List.Sublist.slnil | exact List.nil_sublist _ | exact List.Sublist.refl _ | refine List.Sublist.cons_cons _ ?_ | refine List.Sublist.cons _ ?_ | refine List.Sublist.trans ?_ (List.sublist_append_right _ _))) ⟨(gcd_tmod _ _).trans hy.1, by omega, by omega⟩ (by simp only; omega)
                    · skip
                      refine TL.pure (PV.assign rfl) rfl (by decide) ?_
                      refine TL.nil ?_
                      refine TX.next (.inr (by kernel_rfl)) ?_
                      refine TX.step [3] (by kernel_rfl) (by decide) ⟨⟨_, rfl, ?_⟩, trivial⟩
                      refine TL.pure (PV.rem rfl rfl (by omega) (by omega)) rfl (by decide) ?_
                      refine TL.nil ?_
                      refine TX.next (.inr (by kernel_rfl)) ?_
                      refine TX.step [5] (by kernel_rfl) (by decide) ⟨⟨_, rfl, ?_⟩, trivial⟩
                      refine TL.pure (PV.assign rfl) rfl (by decide) ?_
                      refine TL.nil ?_
                      refine TX.next (.inr (by kernel_rfl)) ?_
                      refine TX.done (by kernel_rfl) ?_
                      refine TQ.blkN ?_
                      refine TQ.thenN ?_
                      refine TQ.backK (y.2, y.1.tmod y.2) (by repeat (first | exact True.intro | refine And.intro rfl ?_)) (by repeat (first | exact True.intro | refine And.intro rfl ?_)) (by repeat (first | exact List.Sublist.slnil | exact List.nil_sublist _ | exact List.Sublist.refl _ | refine List.Sublist.cons_cons _ ?_ | refine List.Sublist.cons _ ?_ | refine List.Sublist.trans ?_ (List.sublist_append_right _ _))) ⟨(gcd_tmod _ _).trans hy.1, by omega, by omega⟩ (by simp only; omega)
                  · skip
                    refine TL.pure (PV.assign rfl) rfl (by decide) ?_
                    refine TL.nil ?_
                    refine TX.next (.inr (by kernel_rfl)) ?_
                    refine TX.step [2] (by kernel_rfl) (by decide) ⟨⟨_, rfl, ?_⟩, trivial⟩
                    refine TL.pure (PV.move rfl) rfl (by decide) ?_
                    refine TL.nil ?_
                    refine TX.next (.inr (by kernel_rfl)) ?_
                    refine TX.step [3] (by kernel_rfl) (by decide) ⟨⟨_, rfl, ?_⟩, trivial⟩
                    refine TL.pure (PV.rem rfl rfl (by omega) (by omega)) rfl (by decide) ?_
                    refine TL.nil ?_
                    refine TX.next (.inr (by kernel_rfl)) ?_
                    refine TX.step [5] (by kernel_rfl) (by decide) ⟨⟨_, rfl, ?_⟩, trivial⟩
                    refine TL.pure (PV.assign rfl) rfl (by decide) ?_
                    refine TL.nil ?_
                    refine TX.next (.inr (by kernel_rfl)) ?_
                    refine TX.done (by kernel_rfl) ?_
                    refine TQ.blkN ?_
                    refine TQ.thenN ?_
                    refine TQ.backK (y.2, y.1.tmod y.2) (by repeat (first | exact True.intro | refine And.intro rfl ?_)) (by repeat (first | exact True.intro | refine And.intro rfl ?_)) (by repeat (first | exact List.Sublist.slnil | exact List.nil_sublist _ | exact List.Sublist.refl _ | refine List.Sublist.cons_cons _ ?_ | refine List.Sublist.cons _ ?_ | refine List.Sublist.trans ?_ (List.sublist_append_right _ _))) ⟨(gcd_tmod _ _).trans hy.1, by omega, by omega⟩ (by simp only; omega)
                · skip
                  refine TL.pure (PV.move rfl) rfl (by decide) ?_
                  refine TL.nil ?_
                  refine TX.next (.inr (by kernel_rfl)) ?_
                  refine TX.step [0, 3] (by kernel_rfl) (by decide) ⟨⟨_, rfl, ?_⟩, ⟨_, rfl, ?_⟩, trivial⟩
                  · skip
                    refine TL.pure (PV.move rfl) rfl (by decide) ?_
                    refine TL.nil ?_
                    refine TX.next (.inr (by kernel_rfl)) ?_
                    refine TX.step [3, 4] (by kernel_rfl) (by decide) ⟨⟨_, rfl, ?_⟩, ⟨_, rfl, ?_⟩, trivial⟩
                    · skip
                      refine TL.pure (PV.rem rfl rfl (by omega) (by omega)) rfl (by decide) ?_
                      refine TL.nil ?_
                      refine TX.next (.inr (by kernel_rfl)) ?_
                      refine TX.step [4] (by kernel_rfl) (by decide) ⟨⟨_, rfl, ?_⟩, trivial⟩
                      refine TL.pure (PV.assign rfl) rfl (by decide) ?_
                      refine TL.nil ?_
                      refine TX.next (.inr (by kernel_rfl)) ?_
                      refine TX.step [5] (by kernel_rfl) (by decide) ⟨⟨_, rfl, ?_⟩, trivial⟩
                      refine TL.pure (PV.assign rfl) rfl (by decide) ?_
                      refine TL.nil ?_
                      refine TX.next (.inr (by kernel_rfl)) ?_
                      refine TX.done (by kernel_rfl) ?_
                      refine TQ.blkN ?_
                      refine TQ.thenN ?_
                      refine TQ.backK (y.2, y.1.tmod y.2) (by repeat (first | exact True.intro | refine And.intro rfl ?_)) (by repeat (first | exact True.intro | refine And.intro rfl ?_)) (by repeat (first | exact List.Sublist.slnil | exact List.nil_sublist _ | exact List.Sublist.refl _ | refine List.Sublist.cons_cons _ ?_ | refine List.Sublist.cons _ ?_ | refine List.Sublist.trans ?_ (List.sublist_append_right _ _))) ⟨(gcd_tmod _ _).trans hy.1, by omega, by omega⟩ (by simp only; omega)
                    · skip
                      refine TL.pure (PV.assign rfl) rfl (by decide) ?_
                      refine TL.nil ?_
                      refine TX.next (.inr (by kernel_rfl)) ?_
                      refine TX.step [3] (by kernel_rfl) (by decide) ⟨⟨_, rfl, ?_⟩, trivial⟩
                      refine TL.pure (PV.rem rfl rfl (by omega) (by omega)) rfl (by decide) ?_
                      refine TL.nil ?_
                      refine TX.next (.inr (by kernel_rfl)) ?_
                      refine TX.step [5] (by kernel_rfl) (by decide) ⟨⟨_, rfl, ?_⟩, trivial⟩
                      refine TL.pure (PV.assign rfl) rfl (by decide) ?_
                      refine TL.nil ?_
                      refine TX.next (.inr (by kernel_rfl)) ?_
                      refine TX.done (by kernel_rfl) ?_
                      refine TQ.blkN ?_
                      refine TQ.thenN ?_
                      refine TQ.backK (y.2, y.1.tmod y.2) (by repeat (first | exact True.intro | refine And.intro rfl ?_)) (by repeat (first | exact True.intro | refine And.intro rfl ?_)) (by repeat (first | exact List.Sublist.slnil | exact List.nil_sublist _ | exact List.Sublist.refl _ | refine List.Sublist.cons_cons _ ?_ | refine List.Sublist.cons _ ?_ | refine List.Sublist.trans ?_ (List.sublist_append_right _ _))) ⟨(gcd_tmod _ _).trans hy.1, by omega, by omega⟩ (by simp only; omega)
                  · skip
                    refine TL.pure (PV.rem rfl rfl (by omega) (by omega)) rfl (by decide) ?_
                    refine TL.nil ?_
                    refine TX.next (.inr (by kernel_rfl)) ?_
                    refine TX.step [0] (by kernel_rfl) (by decide) ⟨⟨_, rfl, ?_⟩, trivial⟩
                    refine TL.pure (PV.move rfl) rfl (by decide) ?_
                    refine TL.nil ?_
                    refine TX.next (.inr (by kernel_rfl)) ?_
                    refine TX.step [4] (by kernel_rfl) (by decide) ⟨⟨_, rfl, ?_⟩, trivial⟩
                    refine TL.pure (PV.assign rfl) rfl (by decide) ?_
                    refine TL.nil ?_
                    refine TX.next (.inr (by kernel_rfl)) ?_
                    refine TX.step [5] (by kernel_rfl) (by decide) ⟨⟨_, rfl, ?_⟩, trivial⟩
                    refine TL.pure (PV.assign rfl) rfl (by decide) ?_
                    refine TL.nil ?_
                    refine TX.next (.inr (by kernel_rfl)) ?_
                    refine TX.done (by kernel_rfl) ?_
                    refine TQ.blkN ?_
                    refine TQ.thenN ?_
                    refine TQ.backK (y.2, y.1.tmod y.2) (by repeat (first | exact True.intro | refine And.intro rfl ?_)) (by repeat (first | exact True.intro | refine And.intro rfl ?_)) (by repeat (first | exact List.Sublist.slnil | exact List.nil_sublist _ | exact List.Sublist.refl _ | refine List.Sublist.cons_cons _ ?_ | refine List.Sublist.cons _ ?_ | refine List.Sublist.trans ?_ (List.sublist_append_right _ _))) ⟨(gcd_tmod _ _).trans hy.1, by omega, by omega⟩ (by simp only; omega)
              · skip
                refine TL.pure (PV.move rfl) rfl (by decide) ?_
                refine TL.nil ?_
                refine TX.next (.inr (by kernel_rfl)) ?_
                refine TX.step [0, 1] (by kernel_rfl) (by decide) ⟨⟨_, rfl, ?_⟩, ⟨_, rfl, ?_⟩, trivial⟩
                · skip
                  refine TL.pure (PV.move rfl) rfl (by decide) ?_
                  refine TL.nil ?_
                  refine TX.next (.inr (by kernel_rfl)) ?_
                  refine TX.step [1] (by kernel_rfl) (by decide) ⟨⟨_, rfl, ?_⟩, trivial⟩
                  refine TL.pure (PV.move rfl) rfl (by decide) ?_
                  refine TL.nil ?_
                  refine TX.next (.inr (by kernel_rfl)) ?_
                  refine TX.step [3, 4] (by kernel_rfl) (by decide) ⟨⟨_, rfl, ?_⟩, ⟨_, rfl, ?_⟩, trivial⟩
                  · skip
                    refine TL.pure (PV.rem rfl rfl (by omega) (by omega)) rfl (by decide) ?_
                    refine TL.nil ?_
                    refine TX.next (.inr (by kernel_rfl)) ?_
                    refine TX.step [4] (by kernel_rfl) (by decide) ⟨⟨_, rfl, ?_⟩, trivial⟩
                    refine TL.pure (PV.assign rfl) rfl (by decide) ?_
                    refine TL.nil ?_
                    refine TX.next (.inr (by kernel_rfl)) ?_
                    refine TX.step [5] (by kernel_rfl) (by decide) ⟨⟨_, rfl, ?_⟩, trivial⟩
                    refine TL.pure (PV.assign rfl) rfl (by decide) ?_
                    refine TL.nil ?_
                    refine TX.next (.inr (by kernel_rfl)) ?_
                    refine TX.done (by kernel_rfl) ?_
                    refine TQ.blkN ?_
                    refine TQ.thenN ?_
                    refine TQ.backK (y.2, y.1.tmod y.2) (by repeat (first | exact True.intro | refine And.intro rfl ?_)) (by repeat (first | exact True.intro | refine And.intro rfl ?_)) (by repeat (first | exact List.Sublist.slnil | exact List.nil_sublist _ | exact List.Sublist.refl _ | refine List.Sublist.cons_cons _ ?_ | refine List.Sublist.cons _ ?_ | refine List.Sublist.trans ?_ (List.sublist_append_right _ _))) ⟨(gcd_tmod _ _).trans hy.1, by omega, by omega⟩ (by simp only; omega)
                  · skip
                    refine TL.pure (PV.assign rfl) rfl (by decide) ?_
                    refine TL.nil ?_
                    refine TX.next (.inr (by kernel_rfl)) ?_
                    refine TX.step [3] (by kernel_rfl) (by decide) ⟨⟨_, rfl, ?_⟩, trivial⟩
                    refine TL.pure (PV.rem rfl rfl (by omega) (by omega)) rfl (by decide) ?_
                    refine TL.nil ?_
                    refine TX.next (.inr (by kernel_rfl)) ?_
                    refine TX.step [5] (by kernel_rfl) (by decide) ⟨⟨_, rfl, ?_⟩, trivial⟩
                    refine TL.pure (PV.assign rfl) rfl (by decide) ?_
                    refine TL.nil ?_
                    refine TX.next (.inr (by kernel_rfl)) ?_
                    refine TX.done (by kernel_rfl) ?_
                    refine TQ.blkN ?_
                    refine TQ.thenN ?_
                    refine TQ.backK (y.2, y.1.tmod y.2) (by repeat (first | exact True.intro | refine And.intro rfl ?_)) (by repeat (first | exact True.intro | refine And.intro rfl ?_)) (by repeat (first | exact List.Sublist.slnil | exact List.nil_sublist _ | exact List.Sublist.refl _ | refine List.Sublist.cons_cons _ ?_ | refine List.Sublist.cons _ ?_ | refine List.Sublist.trans ?_ (List.sublist_append_right _ _))) ⟨(gcd_tmod _ _).trans hy.1, by omega, by omega⟩ (by simp only; omega)
                · skip
                  refine TL.pure (PV.move rfl) rfl (by decide) ?_
                  refine TL.nil ?_
                  refine TX.next (.inr (by kernel_rfl)) ?_
                  refine TX.step [0, 3] (by kernel_rfl) (by decide) ⟨⟨_, rfl, ?_⟩, ⟨_, rfl, ?_⟩, trivial⟩
                  · skip
                    refine TL.pure (PV.move rfl) rfl (by decide) ?_
                    refine TL.nil ?_
                    refine TX.next (.inr (by kernel_rfl)) ?_
                    refine TX.step [3, 4] (by kernel_rfl) (by decide) ⟨⟨_, rfl, ?_⟩, ⟨_, rfl, ?_⟩, trivial⟩
                    · skip
                      refine TL.pure (PV.rem rfl rfl (by omega) (by omega)) rfl (by decide) ?_
                      refine TL.nil ?_
                      refine TX.next (.inr (by kernel_rfl)) ?_
                      refine TX.step [4] (by kernel_rfl) (by decide) ⟨⟨_, rfl, ?_⟩, trivial⟩
                      refine TL.pure (PV.assign rfl) rfl (by decide) ?_
                      refine TL.nil ?_
                      refine TX.next (.inr (by kernel_rfl)) ?_
                      refine TX.step [5] (by kernel_rfl) (by decide) ⟨⟨_, rfl, ?_⟩, trivial⟩
                      refine TL.pure (PV.assign rfl) rfl (by decide) ?_
                      refine TL.nil ?_
                      refine TX.next (.inr (by kernel_rfl)) ?_
                      refine TX.done (by kernel_rfl) ?_
                      refine TQ.blkN ?_
                      refine TQ.thenN ?_
                      refine TQ.backK (y.2, y.1.tmod y.2) (by repeat (first | exact True.intro | refine And.intro rfl ?_)) (by repeat (first | exact True.intro | refine And.intro rfl ?_)) (by repeat (first | exact List.Sublist.slnil | exact List.nil_sublist _ | exact List.Sublist.refl _ | refine List.Sublist.cons_cons _ ?_ | refine List.Sublist.cons _ ?_ | refine List.Sublist.trans ?_ (List.sublist_append_right _ _))) ⟨(gcd_tmod _ _).trans hy.1, by omega, by omega⟩ (by simp only; omega)
                    · skip
                      refine TL.pure (PV.assign rfl) rfl (by decide) ?_
                      refine TL.nil ?_
                      refine TX.next (.inr (by kernel_rfl)) ?_
                      refine TX.step [3] (by kernel_rfl) (by decide) ⟨⟨_, rfl, ?_⟩, trivial⟩
                      refine TL.pure (PV.rem rfl rfl (by omega) (by omega)) rfl (by decide) ?_
                      refine TL.nil ?_
                      refine TX.next (.inr (by kernel_rfl)) ?_
                      refine TX.step [5] (by kernel_rfl) (by decide) ⟨⟨_, rfl, ?_⟩, trivial⟩
                      refine TL.pure (PV.assign rfl) rfl (by decide) ?_
                      refine TL.nil ?_
                      refine TX.next (.inr (by kernel_rfl)) ?_
                      refine TX.done (by kernel_rfl) ?_
                      refine TQ.blkN ?_
                      refine TQ.thenN ?_
                      refine TQ.backK (y.2, y.1.tmod y.2) (by repeat (first | exact True.intro | refine And.intro rfl ?_)) (by repeat (first | exact True.intro | refine And.intro rfl ?_)) (by repeat (first | exact List.Sublist.slnil | exact List.nil_sublist _ | exact List.Sublist.refl _ | refine List.Sublist.cons_cons _ ?_ | refine List.Sublist.cons _ ?_ | refine List.Sublist.trans ?_ (List.sublist_append_right _ _))) ⟨(gcd_tmod _ _).trans hy.1, by omega, by omega⟩ (by simp only; omega)
                  · skip
                    refine TL.pure (PV.rem rfl rfl (by omega) (by omega)) rfl (by decide) ?_
                    refine TL.nil ?_
                    refine TX.next (.inr (by kernel_rfl)) ?_
                    refine TX.step [0] (by kernel_rfl) (by decide) ⟨⟨_, rfl, ?_⟩, trivial⟩
                    refine TL.pure (PV.move rfl) rfl (by decide) ?_
                    refine TL.nil ?_
                    refine TX.next (.inr (by kernel_rfl)) ?_
                    refine TX.step [4] (by kernel_rfl) (by decide) ⟨⟨_, rfl, ?_⟩, trivial⟩
                    refine TL.pure (PV.assign rfl) rfl (by decide) ?_
                    refine TL.nil ?_
                    refine TX.next (.inr (by kernel_rfl)) ?_
                    refine TX.step [5] (by kernel_rfl) (by decide) ⟨⟨_, rfl, ?_⟩, trivial⟩
                    refine TL.pure (PV.assign rfl) rfl (by decide) ?_
                    refine TL.nil ?_
                    refine TX.next (.inr (by kernel_rfl)) ?_
                    refine TX.done (by kernel_rfl) ?_
                    refine TQ.blkN ?_
                    refine TQ.thenN ?_
                    refine TQ.backK (y.2, y.1.tmod y.2) (by repeat (first | exact True.intro | refine And.intro rfl ?_)) (by repeat (first | exact True.intro | refine And.intro rfl ?_)) (by repeat (first | exact List.Sublist.slnil | exact List.nil_sublist _ | exact List.Sublist.refl _ | refine List.Sublist.cons_cons _ ?_ | refine List.Sublist.cons _ ?_ | refine List.Sublist.trans ?_ (List.sublist_append_right _ _))) ⟨(gcd_tmod _ _).trans hy.1, by omega, by omega⟩ (by simp only; omega)
            · skip
              refine TC.exit ?_
              refine TQ.thenE ?_
              refine TQ.thenE ?_
              refine TQ.blkS ?_
              refine TQ.thenC ?_
              refine TC.seq ?_
              have hyz : y.2 = 0 := by omega
              have hgc : y.1 = Int.gcd x.2 (hD N rs x.1) := by
                have h1 := hy.1
                rw [hyz, Int.gcd_zero_right] at h1
                omega
              have hst := hx.2.step (by omega) ⟨ga, a.den.symm⟩ hgc
              have hs1 := hst.le (by omega)
              have hs2 := hst.pos
              have hqb := tdiv_bound (a := x.2) (g := y.1) (B := 1000000) (by omega) (by omega) (by omega)
              refine TC.draw 11 Tb.mixed (by kernel_rfl) ?_
              simp only [List.take_succ_cons, List.take_zero, List.drop_succ_cons, List.drop_zero]
              refine TS.pure (PV.fieldAddr rfl Tb.fo_51_0) rfl (by decide) ?_
              refine TS.pure (PV.load rfl Tb.one_3 (by repeat (first | exact List.Mem.head _ | refine List.Mem.tail _ ?_ | refine List.mem_append_right _ ?_)) rfl) rfl (by decide) ?_
              refine TS.pure (PV.move rfl) rfl (by decide) ?_
              refine TS.pure (PV.quo rfl rfl (by omega) (by omega)) rfl (by decide) ?_
              refine TS.pure (PV.move rfl) rfl (by decide) ?_
              refine TS.pure (PV.move rfl) rfl (by decide) ?_
              refine TS.pure (PV.index rfl rfl Tb.elm_42 rfl (by omega)) rfl (by decide) ?_
              refine TS.pure (PV.fieldAddr rfl Tb.fo_46_1) rfl (by decide) ?_
              refine TS.pure (PV.loadG' rfl Tb.one_3 (by repeat (first | exact List.Mem.head _ | refine List.Mem.tail _ ?_ | refine List.mem_append_right _ ?_)) (hRows_den hkl)) rfl (by decide) ?_
              refine TS.pure (PV.mul rfl rfl (by omega)) rfl (by decide) ?_
              refine TS.pure (PV.fieldAddr rfl Tb.fo_51_0) rfl (by decide) ?_
              refine TS.nil ?_
              refine TL.store rfl rfl Tb.cells_3 rfl (by repeat (first | exact Upd.head _ | apply Upd.tail | apply Upd.appR)) (by first | decide | (simp; done) | (simp; omega) | omega) rfl rfl ?_
              refine TL.nil ?_
              refine TQ.thenC ?_
              refine TC.seq ?_
              refine TC.region ?_
              refine TL.pure (PV.fieldAddr rfl Tb.fo_51_0) rfl (by decide) ?_
              refine TL.pure (PV.load rfl Tb.one_3 (by repeat (first | exact List.Mem.head _ | refine List.Mem.tail _ ?_ | refine List.mem_append_right _ ?_)) rfl) rfl (by decide) ?_
              refine TL.pure (PV.gtr rfl rfl) rfl (by decide) ?_
              refine TL.nil ?_
              refine TQ.thenC ?_
              first | refine TC.condD rfl (fun h6 => ?_) (fun h6 => ?_) | refine TC.cond rfl (fun h6 => ?_) (fun h6 => ?_)
              · skip
                refine TC.seq ?_
                refine TC.region ?_
                refine TL.pure (PV.assign rfl) rfl (by decide) ?_
                refine TL.nil ?_
                refine TQ.thenC ?_
                refine TC.ret ?_
                refine TQ.blkR ?_
                refine TQ.thenR ?_
                refine TQ.thenR ?_
                refine TQ.blkR ?_
                refine TQ.thenR ?_
                refine TQ.retE1 rfl rfl ?_
                first | exact ⟨(), rfl, trivial, List.nil_sublist _⟩ | (exfalso; omega) | (exfalso; simp_all; done) | (exfalso; simp_all; omega)
              · skip
                refine TC.skip ?_
                refine TQ.blkN ?_
                refine TQ.thenC ?_
                refine TC.region ?_
                refine TL.pure (PV.move rfl) rfl (by decide) ?_
                refine TL.pure (PV.add rfl rfl (by omega)) rfl (by decide) ?_
                refine TL.pure (PV.assign rfl) rfl (by decide) ?_
                refine TL.nil ?_
                refine TQ.thenN ?_
                refine TQ.backK (x.1 + 1, _) (by repeat (first | exact True.intro | refine And.intro rfl ?_)) (by repeat (first | exact True.intro | refine And.intro rfl ?_)) (by repeat (first | exact List.Sublist.slnil | exact List.nil_sublist _ | exact List.Sublist.refl _ | refine List.Sublist.cons_cons _ ?_ | refine List.Sublist.cons _ ?_ | refine List.Sublist.trans ?_ (List.sublist_append_right _ _))) ⟨by omega, hst⟩ (by simp only; omega)
      · skip
        refine TC.exit ?_
        refine TQ.thenE ?_
        refine TQ.thenE ?_
        refine TQ.blkS ?_
        refine TQ.thenC ?_
        refine TC.seqK [2, 3, 6, 7, 9] (X := Int) (fun m => 1 ≤ x.2 * m ∧ x.2 * m ≤ 237654 ∧ x.2 * m ≤ 9 * denO N rs) (fun m => [(1, .int .i64 m)]) (fun m => (b1, Obj.cells #[.int .i64 x.2, .slice none 0 0] 51 (0, 0)) :: ((bH, .cells (recA (hRows N rs)) 46 (0, 0)) :: [(b0, .cells #[.int .i64 N, .slice p rs.length cap] 24 (0, 0))])) ?_ ?_
        · skip
          refine TC.seq ?_
          have hxN : x.1 = N := by omega
          have htl := hx.2.le (by omega)
          have htp := hx.2.pos
          refine TC.region ?_
          refine TL.pure (PV.move rfl) rfl (by decide) ?_
          refine TL.pure (PV.lss rfl rfl) rfl (by decide) ?_
          refine TL.pure (PV.move rfl) rfl (by decide) ?_
          first | refine TL.splitD 75 rfl (fun hg1 => ?_) (fun hg1 => ?_) | refine TL.split 75 rfl (fun hg1 => ?_) (fun hg1 => ?_)
          · skip
            refine TL.skip rfl (fun k hk => by cases hk; decide) ?_
            refine TL.skip rfl (fun k hk => by cases hk; decide) ?_
            refine TL.pure (PV.pickT rfl rfl) rfl (by decide) ?_
            refine TL.pure (PV.move rfl) rfl (by decide) ?_
            refine TL.skip rfl (fun k hk => by cases hk; decide) ?_
            refine TL.skip rfl (fun k hk => by cases hk; decide) ?_
            refine TL.skip rfl (fun k hk => by cases hk; decide) ?_
            refine TL.skip rfl (fun k hk => by cases hk; decide) ?_
            refine TL.skip rfl (fun k hk => by cases hk; decide) ?_
            refine TL.pure (PV.pickT rfl rfl) rfl (by decide) ?_
            refine TL.nil ?_
            refine TQ.thenC ?_
            refine TC.condT rfl ?_
            refine TC.region ?_
            refine TL.pure (PV.assign rfl) rfl (by decide) ?_
            refine TL.nil ?_
            refine TQ.thenN ?_
            refine TQ.midK _ (by repeat (first | exact True.intro | refine And.intro rfl ?_)) (by repeat (first | exact True.intro | refine And.intro rfl ?_)) (by repeat (first | exact List.Sublist.slnil | exact List.nil_sublist _ | exact List.Sublist.refl _ | refine List.Sublist.cons_cons _ ?_ | refine List.Sublist.cons _ ?_ | refine List.Sublist.trans ?_ (List.sublist_append_right _ _))) (by first | (have := t_bn htp (by omega) (show (1 : Int) ≤ 1 by omega) (by omega) (denO N rs) htl; omega) | (have := t_bn htp (by omega) (show 1 ≤ times by omega) (by omega) (denO N rs) htl; omega))
          · skip
            refine TL.pure (PV.move rfl) rfl (by decide) ?_
            refine TL.pure (PV.gtr rfl rfl) rfl (by decide) ?_
            refine TL.pure (PV.pickF rfl rfl) rfl (by decide) ?_
            refine TL.pure (PV.move rfl) rfl (by decide) ?_
            first | refine TL.splitD 79 rfl (fun hg2 => ?_) (fun hg2 => ?_) | refine TL.split 79 rfl (fun hg2 => ?_) (fun hg2 => ?_)
            · skip
              refine TL.skip rfl (fun k hk => by cases hk; decide) ?_
              refine TL.skip rfl (fun k hk => by cases hk; decide) ?_
              refine TL.skip rfl (fun k hk => by cases hk; decide) ?_
              refine TL.skip rfl (fun k hk => by cases hk; decide) ?_
              refine TL.skip rfl (fun k hk => by cases hk; decide) ?_
              refine TL.pure (PV.pickT rfl rfl) rfl (by decide) ?_
              refine TL.nil ?_
              refine TQ.thenC ?_
              refine TC.condT rfl ?_
              refine TC.region ?_
              refine TL.pure (PV.assign rfl) rfl (by decide) ?_
              refine TL.nil ?_
              refine TQ.thenN ?_
              refine TQ.midK _ (by repeat (first | exact True.intro | refine And.intro rfl ?_)) (by repeat (first | exact True.intro | refine And.intro rfl ?_)) (by repeat (first | exact List.Sublist.slnil | exact List.nil_sublist _ | exact List.Sublist.refl _ | refine List.Sublist.cons_cons _ ?_ | refine List.Sublist.cons _ ?_ | refine List.Sublist.trans ?_ (List.sublist_append_right _ _))) (by first | (have := t_bn htp (by omega) (show (1 : Int) ≤ 1 by omega) (by omega) (denO N rs) htl; omega) | (have := t_bn htp (by omega) (show 1 ≤ times by omega) (by omega) (denO N rs) htl; omega))
            · skip
              refine TL.pure (PV.fieldAddr rfl Tb.fo_51_0) rfl (by decide) ?_
              refine TL.pure (PV.load rfl Tb.one_3 (by repeat (first | exact List.Mem.head _ | refine List.Mem.tail _ ?_ | refine List.mem_append_right _ ?_)) rfl) rfl (by decide) ?_
              refine TL.pure (PV.move rfl) rfl (by decide) ?_
              refine TL.pure (PV.mul rfl rfl (by have := t_bn htp (by omega) (show 1 ≤ times by omega) (by omega) (denO N rs) htl; omega)) rfl (by decide) ?_
              refine TL.pure (PV.gtr rfl rfl) rfl (by decide) ?_
              refine TL.pure (PV.pickF rfl rfl) rfl (by decide) ?_
              refine TL.nil ?_
              refine TQ.thenC ?_
              first | refine TC.condD rfl (fun h9 => ?_) (fun h9 => ?_) | refine TC.cond rfl (fun h9 => ?_) (fun h9 => ?_)
              · skip
                refine TC.region ?_
                refine TL.pure (PV.assign rfl) rfl (by decide) ?_
                refine TL.nil ?_
                refine TQ.thenN ?_
                refine TQ.midK _ (by repeat (first | exact True.intro | refine And.intro rfl ?_)) (by repeat (first | exact True.intro | refine And.intro rfl ?_)) (by repeat (first | exact List.Sublist.slnil | exact List.nil_sublist _ | exact List.Sublist.refl _ | refine List.Sublist.cons_cons _ ?_ | refine List.Sublist.cons _ ?_ | refine List.Sublist.trans ?_ (List.sublist_append_right _ _))) (by first | (have := t_bn htp (by omega) (show (1 : Int) ≤ 1 by omega) (by omega) (denO N rs) htl; omega) | (have := t_bn htp (by omega) (show 1 ≤ times by omega) (by omega) (denO N rs) htl; omega))
              · skip
                refine TC.skip ?_
                refine TQ.thenN ?_
                refine TQ.midK _ (by repeat (first | exact True.intro | refine And.intro rfl ?_)) (by repeat (first | exact True.intro | refine And.intro rfl ?_)) (by repeat (first | exact List.Sublist.slnil | exact List.nil_sublist _ | exact List.Sublist.refl _ | refine List.Sublist.cons_cons _ ?_ | refine List.Sublist.cons _ ?_ | refine List.Sublist.trans ?_ (List.sublist_append_right _ _))) (by first | (have := t_bn htp (by omega) (show (1 : Int) ≤ 1 by omega) (by omega) (denO N rs) htl; omega) | (have := t_bn htp (by omega) (show 1 ≤ times by omega) (by omega) (denO N rs) htl; omega))
        · skip
          intro m hm
          refine TC.seq ?_
          have hmD : 1 ≤ x.2 * m ∧ x.2 * m ≤ 237654 ∧ x.2 * m ≤ 9 * denO N rs := hm
          refine TC.region ?_
          refine TL.pure (PV.fieldAddr rfl Tb.fo_51_0) rfl (by decide) ?_
          refine TL.pure (PV.load rfl Tb.one_3 (by repeat (first | exact List.Mem.head _ | refine List.Mem.tail _ ?_ | refine List.mem_append_right _ ?_)) rfl) rfl (by decide) ?_
          refine TL.pure (PV.move rfl) rfl (by decide) ?_
          refine TL.pure (PV.mul rfl rfl (by omega)) rfl (by decide) ?_
          refine TL.pure (PV.fieldAddr rfl Tb.fo_51_0) rfl (by decide) ?_
          refine TL.store rfl rfl Tb.cells_3 rfl (by repeat (first | exact Upd.head _ | apply Upd.tail | apply Upd.appR)) (by first | decide | (simp; done) | (simp; omega) | omega) rfl rfl ?_
          refine TL.nil ?_
          refine TQ.thenC ?_
          refine TC.seq ?_
          refine TC.seq ?_
          refine TC.region ?_
          refine TL.pure (PV.assign rfl) rfl (by decide) ?_
          refine TL.nil ?_
          refine TQ.thenC ?_
          refine TC.block ?_
          refine TC.lit [(2, _), (3, _), (7, _), (9, _), (13, _)] (by repeat (first | exact True.intro | refine And.intro rfl ?_)) ?_
          refine TC.loopK [2, 3, 6, 7, 9] (X := Nat × HD × List Int) (fun z => TI N rs (x.2 * m) z.1 z.2) (fun z => [(13, .int .i64 z.1)]) (fun z => gbI z.2 ++ ((b1, Obj.cells #[.int .i64 (x.2 * m), gvI z.2] 51 (0, 0)) :: (bH, .cells (recA (hRows N rs)) 46 (0, 0)) :: [(b0, .cells #[.int .i64 N, .slice p rs.length cap] 24 (0, 0))])) (fun z => N - z.1) (0, none, []) (TI.zero _ _ _) (by repeat (first | exact True.intro | refine And.intro rfl ?_)) (by repeat (first | exact List.Sublist.slnil | exact List.nil_sublist _ | exact List.Sublist.refl _ | refine List.Sublist.cons_cons _ ?_ | refine List.Sublist.cons _ ?_ | refine List.Sublist.trans ?_ (List.sublist_append_right _ _))) ?_
          intro z hz
          have hzle := hz.le
          refine TC.seq ?_
          refine TC.seq ?_
          refine TC.region ?_
          refine TL.pure (PV.move rfl) rfl (by decide) ?_
          refine TL.pure (PV.move rfl) rfl (by decide) ?_
          refine TL.pure (PV.len rfl Tb.sl_42) rfl (by decide) ?_
          refine TL.pure (PV.lss rfl rfl) rfl (by decide) ?_
          refine TL.nil ?_
          refine TQ.thenC ?_
          first | refine TC.condD rfl (fun hlt2 => ?_) (fun hlt2 => ?_) | refine TC.cond rfl (fun hlt2 => ?_) (fun hlt2 => ?_)
          · skip
            refine TC.skip ?_
            refine TQ.thenC ?_
            refine TC.seq ?_
            refine TC.block ?_
            refine TC.lit [(2, _), (3, _), (7, _), (9, _), (13, _)] (by repeat (first | exact True.intro | refine And.intro rfl ?_)) ?_
            have hzl : z.1 < N := by omega
            obtain ⟨gz, az⟩ := hIs hv hzl
            have z1_ := az.dpos
            have z2_ := az.dle
            have hdv : hD N rs z.1 ∣ x.2 * m := Int.dvd_trans (hx.2.all z.1 (by omega)) ⟨m, rfl⟩
            have htb := tN_bn hv hzl hdv hmD.1 hmD.2.2
            unfold Bn tN at htb
            have hqz := tdiv_bound (a := x.2 * m) (g := hD N rs z.1) (B := 237654) (by omega) (by omega) (by omega)
            refine TC.mix [true, true, true, true, true, true, true, true, true, true, true, true, true, true, true, true, false, false, false, false] [(b1, Obj.cells #[.int .i64 (x.2 * m), gvI z.2] 51 (0, 0)), (bH, .cells (recA (hRows N rs)) 46 (0, 0)), (b0, .cells #[.int .i64 N, .slice p rs.length cap] 24 (0, 0))] 4 Tb.mixed rfl (by kernel_rfl) (by kernel_rfl) (by kernel_rfl) (by kernel_rfl) (by repeat (first | exact List.Sublist.slnil | exact List.nil_sublist _ | exact List.Sublist.refl _ | refine List.Sublist.cons_cons _ ?_ | refine List.Sublist.cons _ ?_ | refine List.Sublist.trans ?_ (List.sublist_append_right _ _))) ?_
            refine TB.op (SOK.pure (PV.fieldAddr rfl Tb.fo_51_1) rfl) (by decide) ?_
            refine TB.op (SOK.pure (PV.load rfl Tb.one_31 (by repeat (first | exact List.Mem.head _ | refine List.Mem.tail _ ?_ | refine List.mem_append_right _ ?_)) rfl) rfl) (by decide) ?_
            refine TB.op (SOK.pure (PV.move rfl) rfl) (by decide) ?_
            refine TB.op (SOK.pure (PV.move rfl) rfl) (by decide) ?_
            refine TB.op (SOK.pure (PV.index rfl rfl Tb.elm_42 rfl (by omega)) rfl) (by decide) ?_
            refine TB.op (SOK.pure (PV.fieldAddr rfl Tb.fo_46_0) rfl) (by decide) ?_
            refine TB.op (SOK.pure (PV.loadG' rfl Tb.one_3 (by repeat (first | exact List.Mem.head _ | refine List.Mem.tail _ ?_ | refine List.mem_append_right _ ?_)) (hRows_num hzl)) rfl) (by decide) ?_
            refine TB.op (SOK.pure (PV.fieldAddr rfl Tb.fo_51_0) rfl) (by decide) ?_
            refine TB.op (SOK.pure (PV.load rfl Tb.one_3 (by repeat (first | exact List.Mem.head _ | refine List.Mem.tail _ ?_ | refine List.mem_append_right _ ?_)) rfl) rfl) (by decide) ?_
            refine TB.op (SOK.pure (PV.move rfl) rfl) (by decide) ?_
            refine TB.op (SOK.pure (PV.move rfl) rfl) (by decide) ?_
            refine TB.op (SOK.pure (PV.index rfl rfl Tb.elm_42 rfl (by omega)) rfl) (by decide) ?_
            refine TB.op (SOK.pure (PV.fieldAddr rfl Tb.fo_46_1) rfl) (by decide) ?_
            refine TB.op (SOK.pure (PV.loadG' rfl Tb.one_3 (by repeat (first | exact List.Mem.head _ | refine List.Mem.tail _ ?_ | refine List.mem_append_right _ ?_)) (hRows_den hzl)) rfl) (by decide) ?_
            refine TB.op (SOK.pure (PV.quo rfl rfl (by omega) (by omega)) rfl) (by decide) ?_
            refine TB.op (SOK.pure (PV.mul rfl rfl (by omega)) rfl) (by decide) ?_
            refine TB.no ?_
            refine TB.no ?_
            refine TB.no ?_
            refine TB.no ?_
            refine TB.fin ?_
            refine TX.step [16] (by kernel_rfl) (by decide) ⟨⟨_, rfl, ?_⟩, trivial⟩
            refine TL.buildSlice rfl Tb.sl_31 Tb.zi_3 (by decide) (fill_i _) (by decide) rfl (by decide) (fun bI hbI => ?_)
            refine TL.nil ?_
            refine TX.next (.inl (by repeat (first | exact List.Sublist.slnil | exact List.nil_sublist _ | exact List.Sublist.refl _ | refine List.Sublist.cons_cons _ ?_ | refine List.Sublist.cons _ ?_ | refine List.Sublist.trans ?_ (List.sublist_append_right _ _)))) ?_
            refine TX.step [17] (by kernel_rfl) (by decide) ⟨⟨_, rfl, ?_⟩, trivial⟩
            refine TL.appendI rfl rfl (by repeat (first | exact List.Mem.head _ | refine List.Mem.tail _ ?_ | refine List.mem_append_right _ ?_)) hz.ok (by repeat (first | exact TakeH.here _ _ _ _ | apply TakeH.tail | apply TakeH.app)) (by have := hz.len; omega) rfl (by decide) (fun hI0 hI => ?_)
            refine TL.nil ?_
            refine TX.next (.inl (by repeat (first | exact List.Sublist.slnil | exact List.nil_sublist _ | exact List.Sublist.refl _ | refine List.Sublist.cons_cons _ ?_ | refine List.Sublist.cons _ ?_ | refine List.Sublist.trans ?_ (List.sublist_append_right _ _)))) ?_
            refine TX.step [18] (by kernel_rfl) (by decide) ⟨⟨_, rfl, ?_⟩, trivial⟩
            refine TL.pure (PV.fieldAddr rfl Tb.fo_51_1) rfl (by decide) ?_
            refine TL.nil ?_
            refine TX.next (.inr (by kernel_rfl)) ?_
            refine TX.step [19] (by kernel_rfl) (by decide) ⟨⟨_, rfl, ?_⟩, trivial⟩
            refine TL.store rfl rfl Tb.cells_31 (gvI_one _) (by repeat (first | exact Upd.head _ | apply Upd.tail | apply Upd.appR)) (by first | decide | (simp; done) | (simp; omega) | omega) rfl rfl ?_
            refine TL.nil ?_
            refine TX.next (.inr (by kernel_rfl)) ?_
            refine TX.done (by kernel_rfl) ?_
            refine TQ.blkN ?_
            refine TQ.thenC ?_
            refine TC.region ?_
            refine TL.pure (PV.move rfl) rfl (by decide) ?_
            refine TL.pure (PV.add rfl rfl (by omega)) rfl (by decide) ?_
            refine TL.pure (PV.assign rfl) rfl (by decide) ?_
            refine TL.nil ?_
            refine TQ.thenN ?_
            refine TQ.backK (z.1 + 1, _, _) (by repeat (first | exact True.intro | refine And.intro rfl ?_)) (by repeat (first | exact True.intro | refine And.intro rfl ?_)) (List.Sublist.append_left (List.Sublist.cons _ (List.Sublist.refl _)) _) (hz.step hzl hI) (by simp only; omega)
          · skip
            refine TC.exit ?_
            refine TQ.thenE ?_
            refine TQ.thenE ?_
            refine TQ.blkS ?_
            refine TQ.thenC ?_
            refine TC.seq ?_
            refine TC.seq ?_
            have hzN : z.1 = N := by omega
            rw [hzN] at hz
            have hzlen := hz.len
            have hdv : ∀ i, i < N → hD N rs i ∣ x.2 * m := fun i hi => Int.dvd_trans (hx.2.all i (by omega)) ⟨m, rfl⟩
            have hwi : withinL z.2.2 1000000000 = true := by
              rw [hz.eq, withinL, List.all_eq_true]
              intro v hvm
              obtain ⟨i, hi, rfl⟩ := List.mem_map.1 hvm
              have := tN_bn hv (List.mem_range.1 hi) (hdv i (List.mem_range.1 hi)) hmD.1 hmD.2.2
              unfold Bn at this
              simp only [isWithinB, decide_eq_true_eq]
              omega
            have hnum : ∀ i, i < N → numF z.2.2 i * denO N rs = bestV N rs i * (x.2 * m) := fun i hi => by
              have := tN_eq hv hi (hdv i hi)
              unfold numF
              rw [hz.get hi]
              exact this
            have hce : checkE N rs (x.2 * m) z.2.2 = 0 := check_yes hv (by omega) (by rw [hzlen]) hwi hnum
            refine TC.region ?_
            refine TL.pure (PV.loadBox rfl Tb.agg_24 (by repeat (first | exact List.Mem.head _ | refine List.Mem.tail _ ?_ | refine List.mem_append_right _ ?_)) rfl) rfl (by decide) ?_
            refine TL.pure (PV.loadBox rfl Tb.agg_51 (by repeat (first | exact List.Mem.head _ | refine List.Mem.tail _ ?_ | refine List.mem_append_right _ ?_)) rfl) rfl (by decide) ?_
            refine TL.call rfl Tb.gofn_42 (fun a w hs => checkBestG w _ _ _ _ (hr.new hs.new) _ z.2.1 _ z.2.2 rfl hz.ok (by omega) (IntsAt.g hs.new (fun y hy => by first | exact List.mem_append_left _ hy | exact List.mem_append_right _ (List.mem_append_left _ hy)) hz.ok)) rfl (by decide) (fun _ _ => ?_)
            refine TL.pure (PV.neq rfl rfl) rfl (by decide) ?_
            refine TL.nil ?_
            refine TQ.thenC ?_
            first | refine TC.condD rfl (fun h11 => ?_) (fun h11 => ?_) | refine TC.cond rfl (fun h11 => ?_) (fun h11 => ?_)
            · skip
              refine TC.seq ?_
              refine TC.region ?_
              refine TL.pure (PV.assign rfl) rfl (by decide) ?_
              refine TL.nil ?_
              refine TQ.thenC ?_
              refine TC.ret ?_
              refine TQ.thenR ?_
              refine TQ.retE1 rfl rfl ?_
              first | exact ⟨(), rfl, trivial, List.nil_sublist _⟩ | (exfalso; omega) | (exfalso; simp_all; done) | (exfalso; simp_all; omega)
            · skip
              refine TC.skip ?_
              refine TQ.thenC ?_
              refine TC.seq ?_
              refine TC.seq ?_
              refine TC.region ?_
              refine TL.pure (PV.move rfl) rfl (by decide) ?_
              refine TL.pure (PV.lss rfl rfl) rfl (by decide) ?_
              refine TL.pure (PV.move rfl) rfl (by decide) ?_
              first | refine TL.splitD 122 rfl (fun h12 => ?_) (fun h12 => ?_) | refine TL.split 122 rfl (fun h12 => ?_) (fun h12 => ?_)
              · skip
                refine TL.skip rfl (fun k hk => by cases hk; decide) ?_
                refine TL.skip rfl (fun k hk => by cases hk; decide) ?_
                refine TL.skip rfl (fun k hk => by cases hk; decide) ?_
                refine TL.skip rfl (fun k hk => by cases hk; decide) ?_
                refine TL.skip rfl (fun k hk => by cases hk; decide) ?_
                refine TL.pure (PV.pickT rfl rfl) rfl (by decide) ?_
                refine TL.pure (PV.move rfl) rfl (by decide) ?_
                refine TL.skip rfl (fun k hk => by cases hk; decide) ?_
                refine TL.skip rfl (fun k hk => by cases hk; decide) ?_
                refine TL.skip rfl (fun k hk => by cases hk; decide) ?_
                first | have hjq : pt.toNat < z.2.2.length := by omega | skip
                refine TL.skip rfl (fun k hk => by cases hk; decide) ?_
                refine TL.skip rfl (fun k hk => by cases hk; decide) ?_
                refine TL.skip rfl (fun k hk => by cases hk; decide) ?_
                refine TL.pure (PV.pickT rfl rfl) rfl (by decide) ?_
                refine TL.nil ?_
                refine TQ.thenC ?_
                refine TC.condT rfl ?_
                refine TC.seq ?_
                refine TC.region ?_
                refine TL.call rfl Tb.gofn_18 (fun a w hs => known_ok w) rfl (by decide) (fun _ _ => ?_)
                refine TL.pure (PV.assign rfl) rfl (by decide) ?_
                refine TL.nil ?_
                refine TQ.thenC ?_
                refine TC.ret ?_
                refine TQ.thenR ?_
                refine TQ.retE1 rfl rfl ?_
                first | exact ⟨(), rfl, trivial, List.nil_sublist _⟩ | (exfalso; omega) | (exfalso; simp_all; done) | (exfalso; simp_all; omega)
              · skip
                refine TL.pure (PV.move rfl) rfl (by decide) ?_
                refine TL.pure (PV.fieldAddr rfl Tb.fo_51_1) rfl (by decide) ?_
                refine TL.pure (PV.load rfl Tb.one_31 (by repeat (first | exact List.Mem.head _ | refine List.Mem.tail _ ?_ | refine List.mem_append_right _ ?_)) rfl) rfl (by decide) ?_
                refine TL.pure (PV.lenG rfl hz.ok Tb.sl_31) rfl (by decide) ?_
                refine TL.pure (PV.geq rfl rfl) rfl (by decide) ?_
                refine TL.pure (PV.pickF rfl rfl) rfl (by decide) ?_
                refine TL.pure (PV.move rfl) rfl (by decide) ?_
                first | refine TL.splitD 129 rfl (fun h13 => ?_) (fun h13 => ?_) | refine TL.split 129 rfl (fun h13 => ?_) (fun h13 => ?_)
                · skip
                  refine TL.skip rfl (fun k hk => by cases hk; decide) ?_
                  refine TL.skip rfl (fun k hk => by cases hk; decide) ?_
                  refine TL.skip rfl (fun k hk => by cases hk; decide) ?_
                  first | have hjq : pt.toNat < z.2.2.length := by omega | skip
                  refine TL.skip rfl (fun k hk => by cases hk; decide) ?_
                  refine TL.skip rfl (fun k hk => by cases hk; decide) ?_
                  refine TL.skip rfl (fun k hk => by cases hk; decide) ?_
                  refine TL.pure (PV.pickT rfl rfl) rfl (by decide) ?_
                  refine TL.nil ?_
                  refine TQ.thenC ?_
                  refine TC.condT rfl ?_
                  refine TC.seq ?_
                  refine TC.region ?_
                  refine TL.call rfl Tb.gofn_18 (fun a w hs => known_ok w) rfl (by decide) (fun _ _ => ?_)
                  refine TL.pure (PV.assign rfl) rfl (by decide) ?_
                  refine TL.nil ?_
                  refine TQ.thenC ?_
                  refine TC.ret ?_
                  refine TQ.thenR ?_
                  refine TQ.retE1 rfl rfl ?_
                  first | exact ⟨(), rfl, trivial, List.nil_sublist _⟩ | (exfalso; omega) | (exfalso; simp_all; done) | (exfalso; simp_all; omega)
                · skip
                  refine TL.pure (PV.fieldAddr rfl Tb.fo_51_1) rfl (by decide) ?_
                  refine TL.pure (PV.load rfl Tb.one_31 (by repeat (first | exact List.Mem.head _ | refine List.Mem.tail _ ?_ | refine List.mem_append_right _ ?_)) rfl) rfl (by decide) ?_
                  refine TL.pure (PV.move rfl) rfl (by decide) ?_
                  first | have hjq : pt.toNat < z.2.2.length := by omega | skip
                  refine TL.pure (PV.indexG rfl rfl hz.ok Tb.elm_31 (Int.toNat_of_nonneg (by omega)).symm (by omega)) rfl (by decide) ?_
                  refine TL.pure (PV.loadG' rfl Tb.one_3 (by first | exact List.mem_append_left _ (mem_gblk hz.ok (by omega)) | exact List.mem_append_left _ (mem_gblk hz.ok (by omega)) | exact List.mem_append_right _ (List.mem_append_left _ (mem_gblk hz.ok (by omega)))) (ivalH_get hjq)) rfl (by decide) ?_
                  refine TL.pure (PV.geq rfl rfl) rfl (by decide) ?_
                  refine TL.pure (PV.pickF rfl rfl) rfl (by decide) ?_
                  refine TL.nil ?_
                  refine TQ.thenC ?_
                  first | refine TC.condD rfl (fun h14 => ?_) (fun h14 => ?_) | refine TC.cond rfl (fun h14 => ?_) (fun h14 => ?_)
                  · skip
                    refine TC.seq ?_
                    refine TC.region ?_
                    refine TL.call rfl Tb.gofn_18 (fun a w hs => known_ok w) rfl (by decide) (fun _ _ => ?_)
                    refine TL.pure (PV.assign rfl) rfl (by decide) ?_
                    refine TL.nil ?_
                    refine TQ.thenC ?_
                    refine TC.ret ?_
                    refine TQ.thenR ?_
                    refine TQ.retE1 rfl rfl ?_
                    first | exact ⟨(), rfl, trivial, List.nil_sublist _⟩ | (exfalso; omega) | (exfalso; simp_all; done) | (exfalso; simp_all; omega)
                  · skip
                    refine TC.skip ?_
                    refine TQ.thenC ?_
                    refine TC.seq ?_
                    have hj : pt.toNat < N := by omega
                    have hjz : pt.toNat < z.2.2.length := by omega
                    have hset : goI (z.2.1, z.2.2.set pt.toNat (z.2.2.getD pt.toNat 0 + 1)) := goI_set hz.ok
                    have hwa := withinL_at hwi pt.toNat (by omega)
                    have hw2 : withinL (z.2.2.set pt.toNat (z.2.2.getD pt.toNat 0 + 1)) 1000000000 = true := by
                      rw [withinL, List.all_eq_true]
                      intro v hvm
                      rcases List.mem_or_eq_of_mem_set hvm with h1 | h1
                      · exact List.all_eq_true.1 hwi v h1
                      · rw [h1]
                        simp only [isWithinB, decide_eq_true_eq]
                        omega
                    have hcn : checkE N rs (x.2 * m) (z.2.2.set pt.toNat (z.2.2.getD pt.toNat 0 + 1)) ≠ 0 := fun h0 => by
                      have h1 := check_only h0 (p := pt.toNat) hj
                      have h2 := hnum pt.toNat hj
                      rw [Int.toNat_natCast] at h1
                      rw [← h2] at h1
                      have h3 := Int.eq_of_mul_eq_mul_right (show denO N rs ≠ 0 by omega) h1
                      unfold numF at h3
                      rw [getD_set, if_pos ⟨rfl, hjz⟩] at h3
                      omega
                    have hc7 := check_not hv (by omega) (by rw [List.length_set, hzlen]) hw2 hcn
                    refine TC.region ?_
                    refine TL.pure (PV.fieldAddr rfl Tb.fo_51_1) rfl (by decide) ?_
                    refine TL.pure (PV.load rfl Tb.one_31 (by repeat (first | exact List.Mem.head _ | refine List.Mem.tail _ ?_ | refine List.mem_append_right _ ?_)) rfl) rfl (by decide) ?_
                    refine TL.pure (PV.move rfl) rfl (by decide) ?_
                    refine TL.pure (PV.indexG rfl rfl hz.ok Tb.elm_31 (Int.toNat_of_nonneg (by omega)).symm (by omega)) rfl (by decide) ?_
                    refine TL.pure (PV.loadG' rfl Tb.one_3 (by first | exact List.mem_append_left _ (mem_gblk hz.ok (by omega)) | exact List.mem_append_left _ (mem_gblk hz.ok (by omega)) | exact List.mem_append_right _ (List.mem_append_left _ (mem_gblk hz.ok (by omega)))) (ivalH_get hjz)) rfl (by decide) ?_
                    refine TL.pure (PV.add rfl rfl (by omega)) rfl (by decide) ?_
                    refine TL.pure (PV.indexG rfl rfl hz.ok Tb.elm_31 (Int.toNat_of_nonneg (by omega)).symm (by omega)) rfl (by decide) ?_
                    refine TL.store rfl rfl Tb.cells_3 rfl (by first | exact upd_gbI hz.ok hjz | exact Upd.appR _ (upd_gbI hz.ok hjz)) (store_lt hjz) rfl rfl ?_
                    refine TL.nil ?_
                    refine TQ.thenC ?_
                    refine TC.seq ?_
                    refine TC.region ?_
                    refine TL.pure (PV.loadBox rfl Tb.agg_24 (by repeat (first | exact List.Mem.head _ | refine List.Mem.tail _ ?_ | refine List.mem_append_right _ ?_)) rfl) rfl (by decide) ?_
                    refine TL.pure (PV.loadBox rfl Tb.agg_51 (by repeat (first | exact List.Mem.head _ | refine List.Mem.tail _ ?_ | refine List.mem_append_right _ ?_)) rfl) rfl (by decide) ?_
                    refine TL.call rfl Tb.gofn_42 (fun a w hs => checkBestG w _ _ _ _ (hr.new hs.new) _ z.2.1 _ (z.2.2.set pt.toNat (z.2.2.getD pt.toNat 0 + 1)) (List.length_set ..) hset (by omega) (IntsAt.g hs.new (fun y hy => by first | exact List.mem_append_left _ hy | exact List.mem_append_right _ (List.mem_append_left _ hy)) hset)) rfl (by decide) (fun _ _ => ?_)
                    refine TL.pure (PV.eql rfl rfl) rfl (by decide) ?_
                    refine TL.pure (PV.move rfl) rfl (by decide) ?_
                    first | refine TL.splitD 149 rfl (fun h15 => ?_) (fun h15 => ?_) | refine TL.split 149 rfl (fun h15 => ?_) (fun h15 => ?_)
                    · skip
                      refine TL.call rfl Tb.gofn_18 (fun a w hs => known_ok w) rfl (by decide) (fun _ _ => ?_)
                      refine TL.pure (PV.pickT rfl rfl) rfl (by decide) ?_
                      refine TL.pure (PV.assign rfl) rfl (by decide) ?_
                      refine TL.nil ?_
                      refine TQ.thenC ?_
                      refine TC.ret ?_
                      refine TQ.retE1 rfl rfl ?_
                      first | exact ⟨(), rfl, trivial, List.nil_sublist _⟩ | (exfalso; omega) | (exfalso; simp_all; done) | (exfalso; simp_all; omega)
                    · skip
                      refine TL.skip rfl (fun k hk => by cases hk; decide) ?_
                      refine TL.pure (PV.pickF rfl rfl) rfl (by decide) ?_
                      refine TL.pure (PV.assign rfl) rfl (by decide) ?_
                      refine TL.nil ?_
                      refine TQ.thenC ?_
                      refine TC.ret ?_
                      refine TQ.retE1 rfl rfl ?_
                      first | exact ⟨(), rfl, trivial, List.nil_sublist _⟩ | (exfalso; omega) | (exfalso; simp_all; done) | (exfalso; simp_all; omega)

end Go.Proofs.Ytmmgcajegokkoaa

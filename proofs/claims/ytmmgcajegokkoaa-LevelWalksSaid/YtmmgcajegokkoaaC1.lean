/- Which points are joined, the parts and the tree: the program's way. -/
import Derived.Test.YtmmgcajegokkoaaB1
set_option linter.unusedVariables false
set_option linter.unusedSimpArgs false
namespace Go.Proofs.Ytmmgcajegokkoaa
open Go.Sx Go.RowKit

def Valid (n : Int) (rs : List Rd) : Prop := validateI n rs = 0
theorem Valid.pts {n : Int} {rs : List Rd} (h : Valid n rs) : 1 ≤ n ∧ n ≤ 5 := by
  unfold Valid validateI at h
  split at h
  · cases h
  · omega
theorem Valid.len {n : Int} {rs : List Rd} (h : Valid n rs) : rs.length ≤ 8 := by
  unfold Valid validateI at h
  split at h
  · cases h
  · split at h
    · cases h
    · omega
theorem Valid.all {n : Int} {rs : List Rd} (h : Valid n rs) : rs.all (isReadingB n) = true := by
  unfold Valid validateI at h
  split at h
  · cases h
  · split at h
    · cases h
    · split at h
      · assumption
      · cases h
theorem reading_spec {n : Int} {r : Rd} (h : isReadingB n r = true) : (0 ≤ r.fr ∧ r.fr < n) ∧ (0 ≤ r.to ∧ r.to < n) ∧ r.fr ≠ r.to ∧ (-1000 ≤ r.rise ∧ r.rise ≤ 1000) ∧ 1 ≤ r.wt ∧ r.wt ≤ 3 := by
  simp only [isReadingB, isPointB, isWithinB, Bool.and_eq_true, decide_eq_true_eq] at h
  exact ⟨h.1.1.1.1, h.1.1.1.2, h.1.1.2, h.1.2, h.2.1, h.2.2⟩
theorem Valid.at {n : Int} {rs : List Rd} (h : Valid n rs) {k : Nat} (hk : k < rs.length) :
    (0 ≤ (rs.getD k default).fr ∧ (rs.getD k default).fr < n) ∧ (0 ≤ (rs.getD k default).to ∧ (rs.getD k default).to < n) ∧ (rs.getD k default).fr ≠ (rs.getD k default).to ∧
      (-1000 ≤ (rs.getD k default).rise ∧ (rs.getD k default).rise ≤ 1000) ∧ 1 ≤ (rs.getD k default).wt ∧ (rs.getD k default).wt ≤ 3 := reading_spec (all_at h.all hk)

def iotaZ (i k : Nat) : List Int := (List.range k).map fun j : Nat => if j < i then (j : Int) else 0
def iota (k : Nat) : List Int := (List.range k).map fun j : Nat => (j : Int)
theorem iotaZ_zero (k : Nat) : iotaZ 0 k = List.replicate k 0 := by
  apply List.ext_getElem <;> simp [iotaZ]
theorem iotaZ_len (i k : Nat) : (iotaZ i k).length = k := by simp [iotaZ]
theorem iota_len (k : Nat) : (iota k).length = k := by simp [iota]
theorem iotaZ_all (k : Nat) : iotaZ k k = iota k := by
  apply List.ext_getElem
  · simp [iotaZ, iota]
  · intro i h1 h2
    simp [iotaZ, iota] at h1 ⊢
    omega
theorem iotaZ_set {i k : Nat} (h : i < k) : (iotaZ i k).set i (i : Int) = iotaZ (i + 1) k := by
  apply List.ext_getElem
  · simp [iotaZ]
  · intro j h1 h2
    simp only [iotaZ, List.getElem_set, List.getElem_map, List.getElem_range]
    by_cases hij : i = j
    · subst hij; simp
    · rw [if_neg hij]
      by_cases hj : j < i
      · rw [if_pos hj, if_pos (by omega)]
      · rw [if_neg hj, if_neg (by omega)]

/-- The smallest point of the part of each point, by the readings. -/
def firstsF (xs : List Int) (rs : List Rd) : List Int := rs.foldl (fun xs r => joinL xs r.fr r.to) xs
def firstsL (n : Int) (rs : List Rd) : List Int := firstsF (iota n.toNat) rs
theorem joinL_len (xs : List Int) (a b : Int) : (joinL xs a b).length = xs.length := by simp [joinL]
theorem firstsF_len (rs : List Rd) : ∀ xs, (firstsF xs rs).length = xs.length := by
  induction rs with
  | nil => intro xs; rfl
  | cons r rs ih => intro xs; simp only [firstsF, List.foldl_cons] at ih ⊢; rw [ih, joinL_len]
theorem firstsL_len (n : Int) (rs : List Rd) : (firstsL n rs).length = n.toNat := by rw [firstsL, firstsF_len, iota_len]
theorem firstsF_take {xs : List Int} {rs : List Rd} {k : Nat} (h : k < rs.length) : firstsF xs (rs.take (k + 1)) = joinL (firstsF xs (rs.take k)) (rs.getD k default).fr (rs.getD k default).to := by
  rw [List.take_succ_eq_append_getElem h, firstsF, List.foldl_append]
  simp [firstsF, List.getD, h]


set_option maxRecDepth 100000 in
theorem joining_ok (w0 : World) (k : Nat) (hk : k ≤ 1000) :
    Calls Try.prog 95 #[.int .i64 k] w0 (Post (X := Nat × Nat) (fun x => .tuple #[.slice (some ⟨x.2, 0, none⟩) k k, .func (.func 104) #[] #[.pointer (some ⟨x.1, 0, none⟩)]]) (fun _ => True) (fun x => [boxS x.1 x.2 k, arrI x.2 (iota k)]) w0) := by
  refine calls Try.func95 rfl (n := 22) rfl (by simp) ?_
  refine TC.seq ?_
  refine TC.region ?_
  refine TL.pure (PV.assign rfl) rfl (by decide) ?_
  refine TL.pure (PV.assign rfl) rfl (by decide) ?_
  refine TL.nil ?_
  refine TQ.thenC ?_
  refine TC.seq ?_
  refine TC.region ?_
  refine TL.pure (PV.move rfl) rfl (by decide) ?_
  refine TL.makeI rfl rfl Tb.sl_31 Tb.zi_3 rfl (by omega) (by omega) rfl (by decide) (fun b0 hb0 => ?_)
  refine TL.alloc Tb.zero_31 rfl (by decide) (fun b1 hb1 => ?_)
  refine TL.store rfl rfl Tb.cells_31 rfl (by repeat (first | exact Upd.head _ | apply Upd.tail | apply Upd.appR)) (by first | decide | (simp; done) | (simp; omega) | omega) rfl rfl ?_
  refine TL.nil ?_
  refine TQ.thenC ?_
  refine TC.seq ?_
  refine TC.seq ?_
  refine TC.region ?_
  refine TL.pure (PV.load rfl Tb.one_31 (by repeat (first | exact List.Mem.head _ | refine List.Mem.tail _ ?_ | refine List.mem_append_right _ ?_)) rfl) rfl (by decide) ?_
  refine TL.pure (PV.len rfl Tb.sl_31) rfl (by decide) ?_
  refine TL.pure (PV.move rfl) rfl (by decide) ?_
  refine TL.nil ?_
  refine TQ.thenC ?_
  refine TC.block ?_
  refine TC.loopK [2, 3, 4, 10] (X := Nat × List Int) (fun x => x.1 ≤ k ∧ x.2 = iotaZ x.1 k) (fun x => [(11, .int .i64 x.1)]) (fun x => [boxS b1 b0 k, arrI b0 x.2]) (fun x => k - x.1) (0, List.replicate k 0) ⟨Nat.zero_le _, (iotaZ_zero k).symm⟩ (by repeat (first | exact True.intro | refine And.intro rfl ?_)) (by repeat (first | exact List.Sublist.slnil | exact List.nil_sublist _ | exact List.Sublist.refl _ | refine List.Sublist.cons_cons _ ?_ | refine List.Sublist.cons _ ?_ | refine List.Sublist.trans ?_ (List.sublist_append_right _ _))) ?_
  intro x hx
  refine TC.seq ?_
  refine TC.region ?_
  refine TL.pure (PV.lss rfl rfl) rfl (by decide) ?_
  refine TL.nil ?_
  refine TQ.thenC ?_
  refine TC.seq ?_
  first | refine TC.condD rfl (fun hlt => ?_) (fun hlt => ?_) | refine TC.cond rfl (fun hlt => ?_) (fun hlt => ?_)
  · skip
    refine TC.skip ?_
    refine TQ.thenC ?_
    refine TC.seq ?_
    refine TC.block ?_
    refine TC.seq ?_
    refine TC.region ?_
    refine TL.pure (PV.move rfl) rfl (by decide) ?_
    refine TL.pure (PV.assign rfl) rfl (by decide) ?_
    refine TL.nil ?_
    refine TQ.thenC ?_
    refine TC.region ?_
    refine TL.pure (PV.load rfl Tb.one_31 (by repeat (first | exact List.Mem.head _ | refine List.Mem.tail _ ?_ | refine List.mem_append_right _ ?_)) rfl) rfl (by decide) ?_
    refine TL.pure (PV.move rfl) rfl (by decide) ?_
    refine TL.pure (PV.move rfl) rfl (by decide) ?_
    refine TL.pure (PV.index1 rfl rfl Tb.elm_31 rfl (by omega)) rfl (by decide) ?_
    refine TL.storeI rfl rfl Tb.cells_3 (by repeat (first | exact Upd.head _ | apply Upd.tail)) (by rw [hx.2, iotaZ_len]; omega) rfl rfl ?_
    refine TL.nil ?_
    refine TQ.blkN ?_
    refine TQ.thenC ?_
    refine TC.region ?_
    refine TL.pure (PV.add rfl rfl (by omega)) rfl (by decide) ?_
    refine TL.pure (PV.move rfl) rfl (by decide) ?_
    refine TL.nil ?_
    refine TQ.thenN ?_
    refine TQ.backK (x.1 + 1, _) (by repeat (first | exact True.intro | refine And.intro rfl ?_)) (by repeat (first | exact True.intro | refine And.intro rfl ?_)) (by repeat (first | exact List.Sublist.slnil | exact List.nil_sublist _ | exact List.Sublist.refl _ | refine List.Sublist.cons_cons _ ?_ | refine List.Sublist.cons _ ?_ | refine List.Sublist.trans ?_ (List.sublist_append_right _ _))) ⟨Int.ofNat_lt.1 hlt, by rw [hx.2]; exact iotaZ_set (Int.ofNat_lt.1 hlt)⟩ (by simp only; omega)
  · skip
    refine TC.exit ?_
    refine TQ.thenE ?_
    refine TQ.thenE ?_
    refine TQ.blkS ?_
    refine TQ.thenC ?_
    refine TC.seq ?_
    refine TC.region ?_
    refine TL.pure (PV.makeFunc rfl) rfl (by decide) ?_
    refine TL.pure (PV.assign rfl) rfl (by decide) ?_
    refine TL.nil ?_
    refine TQ.thenC ?_
    refine TC.seq ?_
    refine TC.region ?_
    refine TL.pure (PV.load rfl Tb.one_31 (by repeat (first | exact List.Mem.head _ | refine List.Mem.tail _ ?_ | refine List.mem_append_right _ ?_)) rfl) rfl (by decide) ?_
    refine TL.pure (PV.move rfl) rfl (by decide) ?_
    refine TL.pure (PV.assign rfl) rfl (by decide) ?_
    refine TL.pure (PV.assign rfl) rfl (by decide) ?_
    refine TL.nil ?_
    refine TQ.thenC ?_
    refine TC.ret ?_
    refine TQ.retE2 rfl rfl rfl ?_
    exact ⟨(b1, b0), rfl, trivial, by rw [show iota k = x.2 by rw [hx.2, show x.1 = k by omega, iotaZ_all]]; exact List.Sublist.refl _⟩

set_option maxRecDepth 100000 in
theorem firsts_ok (w0 : World) (n : Int) (p : Option Addr) (cap : Nat) (rs : List Rd) (hr : RdsAt w0 p rs) (hv : Valid n rs) :
    Calls Try.prog 81 #[sv n p rs.length cap] w0 (Post (X := Nat) (fun b => .slice (some ⟨b, 0, none⟩) n.toNat n.toNat) (fun _ => True) (fun b => [arrI b (firstsL n rs)]) w0) := by
  have hp := hv.pts
  have hl := hv.len
  obtain ⟨N, rfl⟩ : ∃ N : Nat, n = N := ⟨n.toNat, by omega⟩
  refine calls Try.func81 rfl (n := 28) rfl (by simp) ?_
  refine TC.seq ?_
  refine TC.region ?_
  refine TL.box rfl rfl (by decide) (fun b0 hb0 => ?_)
  refine TL.pure (PV.assign rfl) rfl (by decide) ?_
  refine TL.nil ?_
  refine TQ.thenC ?_
  refine TC.seq ?_
  refine TC.region ?_
  refine TL.pure (PV.fieldAddr rfl Tb.fo_24_0) rfl (by decide) ?_
  refine TL.pure (PV.load rfl Tb.one_3 (by repeat (first | exact List.Mem.head _ | refine List.Mem.tail _ ?_ | refine List.mem_append_right _ ?_)) rfl) rfl (by decide) ?_
  refine TL.call rfl Tb.gofn_95 (fun a w hs => joining_ok _ N (by omega)) rfl (by decide) (fun ⟨bB, bA⟩ _ => ?_)
  refine TL.pure (PV.move rfl) rfl (by decide) ?_
  refine TL.pure (PV.extract rfl rfl) rfl (by decide) ?_
  refine TL.pure (PV.extract rfl rfl) rfl (by decide) ?_
  refine TL.pure (PV.assign rfl) rfl (by decide) ?_
  refine TL.pure (PV.assign rfl) rfl (by decide) ?_
  refine TL.nil ?_
  refine TQ.thenC ?_
  refine TC.seq ?_
  refine TC.seq ?_
  refine TC.region ?_
  refine TL.pure (PV.fieldAddr rfl Tb.fo_24_1) rfl (by decide) ?_
  refine TL.pure (PV.load rfl Tb.one_22 (by repeat (first | exact List.Mem.head _ | refine List.Mem.tail _ ?_ | refine List.mem_append_right _ ?_)) rfl) rfl (by decide) ?_
  refine TL.pure (PV.len rfl Tb.sl_22) rfl (by decide) ?_
  refine TL.pure (PV.move rfl) rfl (by decide) ?_
  refine TL.nil ?_
  refine TQ.thenC ?_
  refine TC.block ?_
  refine TC.loopK [2, 3, 4, 14, 15] (X := Nat × List Int) (fun x => x.1 ≤ rs.length ∧ x.2 = firstsF (iota N) (rs.take x.1)) (fun x => [(16, .int .i64 x.1)]) (fun x => [boxS bB bA N, arrI bA x.2, (b0, .cells #[.int .i64 N, .slice p rs.length cap] 24 (0, 0))]) (fun x => rs.length - x.1) (0, iota N) ⟨Nat.zero_le _, rfl⟩ (by repeat (first | exact True.intro | refine And.intro rfl ?_)) (by repeat (first | exact List.Sublist.slnil | exact List.nil_sublist _ | exact List.Sublist.refl _ | refine List.Sublist.cons_cons _ ?_ | refine List.Sublist.cons _ ?_ | refine List.Sublist.trans ?_ (List.sublist_append_right _ _))) ?_
  intro x hx
  refine TC.seq ?_
  refine TC.region ?_
  refine TL.pure (PV.lss rfl rfl) rfl (by decide) ?_
  refine TL.nil ?_
  refine TQ.thenC ?_
  refine TC.seq ?_
  first | refine TC.condD rfl (fun hlt => ?_) (fun hlt => ?_) | refine TC.cond rfl (fun hlt => ?_) (fun hlt => ?_)
  · skip
    refine TC.skip ?_
    refine TQ.thenC ?_
    refine TC.seq ?_
    refine TC.block ?_
    refine TC.seq ?_
    refine TC.region ?_
    have hxl : x.2.length = N := by rw [hx.2, firstsF_len, iota_len]
    have hv1 := hv.at (k := x.1) (by omega)
    obtain ⟨q, rfl, hq⟩ := hr x.1 (by omega)
    refine TL.pure (PV.indexA rfl rfl rfl Tb.elm_22 rfl (by omega)) rfl (by decide) ?_
    refine TL.pure (PV.loadAggA rfl Tb.agg_61 rfl hq) rfl (by decide) ?_
    refine TL.alloc Tb.zero_61 rfl (by decide) (fun b1 hb1 => ?_)
    refine TL.storeAgg rfl rfl Tb.cells_61 (by repeat (first | exact Upd.head _ | apply Upd.tail | apply Upd.appR)) rfl rfl rfl rfl rfl ?_
    refine TL.nil ?_
    refine TQ.thenC ?_
    refine TC.region ?_
    refine TL.pure (PV.move rfl) rfl (by decide) ?_
    refine TL.pure (PV.fieldAddr rfl Tb.fo_61_0) rfl (by decide) ?_
    refine TL.pure (PV.load rfl Tb.one_3 (by repeat (first | exact List.Mem.head _ | refine List.Mem.tail _ ?_ | refine List.mem_append_right _ ?_)) rfl) rfl (by decide) ?_
    refine TL.pure (PV.fieldAddr rfl Tb.fo_61_1) rfl (by decide) ?_
    refine TL.pure (PV.load rfl Tb.one_3 (by repeat (first | exact List.Mem.head _ | refine List.Mem.tail _ ?_ | refine List.mem_append_right _ ?_)) rfl) rfl (by decide) ?_
    refine TL.callF (X := Unit) (fun _ => .bool (decide (lowJ x.2 (rs.getD x.1 default).fr (rs.getD x.1 default).to ≠ highJ x.2 (rs.getD x.1 default).fr (rs.getD x.1 default).to))) (fun _ => True) (fun _ => [boxS bB bA N, arrI bA (joinL x.2 (rs.getD x.1 default).fr (rs.getD x.1 default).to), (b0, .cells #[.int .i64 N, .slice (some q) rs.length cap] 24 (0, 0))]) rfl rfl Tb.gofn_104 (fun a w hs => join_ok w0 w bB bA _ N x.2 _ _ hxl (hs.new.sub (List.Sublist.cons _ (List.Sublist.refl _))) (by omega) (by omega) (by omega)) rfl (by decide) (fun _ _ => ?_)
    refine TL.nil ?_
    refine TQ.blkN ?_
    refine TQ.thenC ?_
    refine TC.region ?_
    refine TL.pure (PV.add rfl rfl (by omega)) rfl (by decide) ?_
    refine TL.pure (PV.move rfl) rfl (by decide) ?_
    refine TL.nil ?_
    refine TQ.thenN ?_
    refine TQ.backK (x.1 + 1, _) (by repeat (first | exact True.intro | refine And.intro rfl ?_)) (by repeat (first | exact True.intro | refine And.intro rfl ?_)) (by repeat (first | exact List.Sublist.slnil | exact List.nil_sublist _ | exact List.Sublist.refl _ | refine List.Sublist.cons_cons _ ?_ | refine List.Sublist.cons _ ?_ | refine List.Sublist.trans ?_ (List.sublist_append_right _ _))) ⟨Int.ofNat_lt.1 hlt, by rw [hx.2, firstsF_take (Int.ofNat_lt.1 hlt)]; rfl⟩ (by simp only; omega)
  · skip
    refine TC.exit ?_
    refine TQ.thenE ?_
    refine TQ.thenE ?_
    refine TQ.blkS ?_
    refine TQ.thenC ?_
    refine TC.seq ?_
    refine TC.region ?_
    refine TL.pure (PV.move rfl) rfl (by decide) ?_
    refine TL.pure (PV.assign rfl) rfl (by decide) ?_
    refine TL.nil ?_
    refine TQ.thenC ?_
    refine TC.ret ?_
    refine TQ.retE1 rfl rfl ?_
    exact ⟨bA, rfl, trivial, by rw [show firstsL N rs = x.2 by rw [hx.2, List.take_of_length_le (by omega)]; rfl]; exact List.Sublist.cons _ (List.Sublist.cons_cons _ (List.nil_sublist _))⟩

end Go.Proofs.Ytmmgcajegokkoaa

/- Heights by the tree: what both ways keep. -/
import Derived.Test.YtmmgcajegokkoaaL1
set_option linter.unusedVariables false
set_option linter.unusedSimpArgs false
namespace Go.Proofs.Ytmmgcajegokkoaa
open Go.Sx Go.RowKit

def taken (n : Int) (rs : List Rd) (j : Nat) : Prop := at_ (firstsL n (rs.take j)) (rs.getD j default).fr ≠ at_ (firstsL n (rs.take j)) (rs.getD j default).to
structure Pot (n : Int) (rs : List Rd) (G : Int → Int) : Prop where
  edge : ∀ k, k < rs.length → taken n rs k → G (rs.getD k default).to = G (rs.getD k default).fr + (rs.getD k default).rise
  root : ∀ p : Int, 0 ≤ p → p < n → at_ (firstsL n rs) p = p → G p = 0
  bd : ∀ p : Int, 0 ≤ p → p < n → -200000000 ≤ G p ∧ G p ≤ 200000000
def pw (m : Nat) : Int := 1000 * (4 ^ m - 1)
theorem pw_succ (m : Nat) : 3 * pw m + 1000 ≤ pw (m + 1) ∧ 0 ≤ pw m := by
  have h : (1 : Int) ≤ 4 ^ m := by
    have := Nat.one_le_pow m 4 (by omega)
    exact_mod_cast this
  unfold pw
  rw [Int.pow_succ]
  omega
theorem pot_steps {n : Int} {rs : List Rd} (hv : Valid n rs) : ∀ m, m ≤ rs.length → ∃ H : Int → Int, (∀ k, k < m → taken n rs k → H (rs.getD k default).to = H (rs.getD k default).fr + (rs.getD k default).rise) ∧ ∀ p : Int, 0 ≤ p → p < n → -pw m ≤ H p ∧ H p ≤ pw m
  | 0, _ => ⟨fun _ => 0, fun k hk => by omega, fun p _ _ => by simp [pw]⟩
  | m + 1, hm => by
    obtain ⟨H, he, hb⟩ := pot_steps hv m (by omega)
    have hvm := hv.at (k := m) (by omega)
    have hpw := pw_succ m
    have hin := (RdIn.of hv).take m
    have hlab : Lab n.toNat (rs.take m) (firstsL n (rs.take m)) := Lab.of hin
    have hr1 := hb _ hvm.1.1 hvm.1.2
    have hr2 := hb _ hvm.2.1.1 hvm.2.1.2
    by_cases ht : taken n rs m
    · refine ⟨fun p => if at_ (firstsL n (rs.take m)) p = at_ (firstsL n (rs.take m)) (rs.getD m default).to then H p + (H (rs.getD m default).fr + (rs.getD m default).rise - H (rs.getD m default).to) else H p, fun k hk htk => ?_, fun p h1 h2 => ?_⟩
      · by_cases hkm : k = m
        · subst hkm
          simp only [if_true]
          rw [if_neg ht]
          omega
        · have hk' : k < m := by omega
          have h1 := he k hk' htk
          have h2 := hlab.eq _ (getD_mem_take hk' (by omega))
          simp only
          rw [h2]
          split <;> omega
      · have h3 := hb p h1 h2
        simp only
        split <;> omega
    · refine ⟨H, fun k hk htk => ?_, fun p h1 h2 => ?_⟩
      · by_cases hkm : k = m
        · subst hkm; exact absurd htk ht
        · exact he k (by omega) htk
      · have h3 := hb p h1 h2
        omega
theorem pot_ex {n : Int} {rs : List Rd} (hv : Valid n rs) : ∃ G, Pot n rs G := by
  obtain ⟨H, he, hb⟩ := pot_steps hv rs.length (Nat.le_refl _)
  have hlab : Lab n.toNat rs (firstsL n rs) := Lab.of (RdIn.of hv)
  have hp := hv.pts
  have hl := hv.len
  have hpw : pw rs.length ≤ 65535000 := by
    have h1 : ∀ k, k ≤ 8 → pw k ≤ 65535000 := by decide
    exact h1 _ hl
  refine ⟨fun p => H p - H (at_ (firstsL n rs) p), fun k hk htk => ?_, fun p h1 h2 h3 => ?_, fun p h1 h2 => ?_⟩
  · have h1 := he k hk htk
    have h2 : rs.getD k default ∈ rs := by simp [List.getD, hk]
    have h3 := hlab.eq _ h2
    rw [h3]
    omega
  · rw [h3]; omega
  · have h3 := hlab.lo p h1 (by omega)
    have h4 := hb p h1 h2
    have h5 := hb _ h3.1 (by omega)
    omega

/-- The indices of the readings of the tree. -/
def takenN (n : Int) (rs : List Rd) : List Nat := (List.range rs.length).filter fun j => at_ (firstsL n (rs.take j)) (rs.getD j default).fr ≠ at_ (firstsL n (rs.take j)) (rs.getD j default).to
theorem treeK_N (n : Int) (rs : List Rd) : treeK n rs rs.length = (takenN n rs).map Int.ofNat := rfl
theorem takenN_at {n : Int} {rs : List Rd} {i : Nat} (h : i < (takenN n rs).length) : (takenN n rs).getD i 0 < rs.length ∧ taken n rs ((takenN n rs).getD i 0) := by
  have h1 : (takenN n rs).getD i 0 ∈ takenN n rs := by simp [List.getD, h]
  have h2 := List.mem_filter.1 h1
  exact ⟨List.mem_range.1 h2.1, by have h3 := h2.2; simp only [decide_eq_true_eq] at h3; exact h3⟩
theorem takenN_len (n : Int) (rs : List Rd) : (takenN n rs).length ≤ rs.length := by
  have := List.length_filter_le (fun j => decide (at_ (firstsL n (rs.take j)) (rs.getD j default).fr ≠ at_ (firstsL n (rs.take j)) (rs.getD j default).to)) (List.range rs.length)
  rw [List.length_range] at this
  exact this

/-- Known points: if either end is known, both are. -/
def kget (kn : List Bool) (p : Int) : Bool := kn.getD p.toNat false
def kstep (kn : List Bool) (r : Rd) : List Bool := if kget kn r.fr then kn.set r.to.toNat true else if kget kn r.to then kn.set r.fr.toNat true else kn
theorem kstep_len (kn : List Bool) (r : Rd) : (kstep kn r).length = kn.length := by
  unfold kstep
  split
  · simp
  · split <;> simp
def kround (n : Int) (rs : List Rd) (kn : List Bool) (i : Nat) : List Bool := ((takenN n rs).take i).foldl (fun kn k => kstep kn (rs.getD k default)) kn
theorem kround_len (n : Int) (rs : List Rd) (kn : List Bool) (i : Nat) : (kround n rs kn i).length = kn.length := by
  unfold kround
  generalize (takenN n rs).take i = l
  induction l generalizing kn with
  | nil => rfl
  | cons a l ih => rw [List.foldl_cons, ih, kstep_len]
theorem kround_succ {n : Int} {rs : List Rd} {kn : List Bool} {i : Nat} (h : i < (takenN n rs).length) : kround n rs kn (i + 1) = kstep (kround n rs kn i) (rs.getD ((takenN n rs).getD i 0) default) := by
  unfold kround
  rw [List.take_succ_eq_append_getElem h, List.foldl_append]
  simp [List.getD, h]
def kall (n : Int) (rs : List Rd) (kn : List Bool) : Nat → List Bool
  | 0 => kn
  | r + 1 => kround n rs (kall n rs kn r) (takenN n rs).length
theorem kall_len (n : Int) (rs : List Rd) (kn : List Bool) : ∀ r, (kall n rs kn r).length = kn.length
  | 0 => rfl
  | r + 1 => by rw [kall, kround_len, kall_len]
def kn0 (xs : List Int) : List Bool := (List.range xs.length).map fun p : Nat => decide ((p : Int) = xs.getD p 0)
def knZ (xs : List Int) (k : Nat) : List Bool := (List.range xs.length).map fun p : Nat => if p < k then decide ((p : Int) = xs.getD p 0) else false
theorem knZ_zero (xs : List Int) : List.replicate xs.length false = knZ xs 0 := by
  apply List.ext_getElem <;> simp [knZ]
theorem knZ_len (xs : List Int) (k : Nat) : (knZ xs k).length = xs.length := by simp [knZ]
theorem kn0_len (xs : List Int) : (kn0 xs).length = xs.length := by simp [kn0]
theorem knZ_all (xs : List Int) : knZ xs xs.length = kn0 xs := by
  unfold knZ kn0
  refine List.map_congr_left fun j hj => ?_
  rw [if_pos (List.mem_range.1 hj)]
theorem knZ_set {xs : List Int} {k : Nat} (h : k < xs.length) : (knZ xs k).set k (decide ((k : Int) = xs.getD k 0)) = knZ xs (k + 1) := by
  apply List.ext_getElem
  · simp [knZ]
  · intro j h1 h2
    simp only [knZ, List.getElem_set, List.getElem_map, List.getElem_range]
    by_cases hij : k = j
    · subst hij; simp
    · rw [if_neg hij]
      by_cases hj : j < k
      · rw [if_pos hj, if_pos (by omega)]
      · rw [if_neg hj, if_neg (by omega)]
/-- The heights of the known points. -/
def hsL (G : Int → Int) (kn : List Bool) : List Int := (List.range kn.length).map fun p : Nat => if kn.getD p false then G p else 0
theorem hsL_len (G : Int → Int) (kn : List Bool) : (hsL G kn).length = kn.length := by simp [hsL]
theorem hsL_get {G : Int → Int} {kn : List Bool} {p : Nat} (h : p < kn.length) : (hsL G kn).getD p 0 = if kn.getD p false then G p else 0 := by
  simp [hsL, List.getD, h]
theorem hsL_set {G : Int → Int} {kn : List Bool} {p : Nat} {v : Int} (h : p < kn.length) (hv : v = G p) : (hsL G kn).set p v = hsL G (kn.set p true) := by
  apply List.ext_getElem
  · simp [hsL]
  · intro j h1 h2
    simp only [hsL, List.getElem_set, List.getElem_map, List.getElem_range, List.getD]
    by_cases hij : p = j
    · subst hij; simp [h, hv]
    · rw [if_neg hij, List.getElem?_set, if_neg hij]
theorem hsL_start {n : Int} {rs : List Rd} {G : Int → Int} (hv : Valid n rs) (hG : Pot n rs G) : List.replicate (firstsL n rs).length 0 = hsL G (kn0 (firstsL n rs)) := by
  have hp := hv.pts
  have hl := firstsL_len n rs
  apply List.ext_getElem
  · simp [hsL, kn0]
  · intro j h1 h2
    simp only [List.length_replicate] at h1
    simp only [hsL, kn0, List.getElem_map, List.getElem_range, List.getElem_replicate, List.getD, List.getElem?_map, List.getElem?_range h1, Option.map_some, Option.getD_some, decide_eq_true_eq]
    split
    · next hh =>
      have := hG.root j (by omega) (by omega) (by simp only [at_, List.getD, Int.toNat_natCast]; exact (of_decide_eq_true hh).symm)
      exact this.symm
    · rfl
def knEnd (n : Int) (rs : List Rd) : List Bool := kall n rs (kn0 (firstsL n rs)) n.toNat
abbrev boolsA (bs : List Bool) : Array Value := (bs.map Value.bool).toArray
theorem kset_true {kn : List Bool} {p : Nat} (h : kn.getD p false = true) : kn.set p true = kn := by
  apply List.ext_getElem
  · simp
  · intro j h1 h2
    rw [List.getElem_set]
    split
    · next hh => subst hh; simpa [List.getD, h2] using h.symm
    · rfl
abbrev arrB (b : Nat) (bs : List Bool) : Nat × Obj := (b, .cells (boolsA bs) 4 (0, 0))
theorem boolsA_get {bs : List Bool} {j : Nat} (h : j < bs.length) : (boolsA bs)[j]? = some (.bool (bs.getD j false)) := by
  simp [boolsA, List.getD, h]
theorem boolsA_set (bs : List Bool) (j : Nat) (v : Bool) : (boolsA bs).setIfInBounds j (.bool v) = boolsA (bs.set j v) := by
  simp [boolsA, List.map_set]
theorem boolsA_size (bs : List Bool) : (boolsA bs).size = bs.length := by simp [boolsA]
theorem boolsA_replicate (k : Nat) (v : Bool) : (List.replicate k (Value.bool v)).toArray = boolsA (List.replicate k v) := by simp [boolsA]
section
variable {P : Program} {n : Nat} {w0 : World} {E : Env} {G : Heap} {ty : TypeId} {pos : String} {aft : Array Edge} {g : Option (Nat × Bool)} {ops : Array Oper} {Q : Exit → Act → World → Prop} {l : List Oper}
theorem PV.loadB {d : Option Nat} {x : Operand} {b j : Nat} {t : Nat} {bs : List Bool} {e : TypeId} {fr : Nat × Nat} (hx : evo E x = some (.pointer (some ⟨b, j, none⟩))) (ht : oneB P t = true)
    (hm : (b, Obj.cells (boolsA bs) e fr) ∈ G) (hj : j < bs.length) :
    PV P n w0 E G ⟨d, .load t x, ty, pos, aft, g⟩ (.bool (bs.getD j false)) := PV.loadG' hx ht hm (boolsA_get hj)
theorem TL.storeB {dd : Option Nat} {x y : Operand} {b j : Nat} {t : Nat} {bs : List Bool} {e : TypeId} {v : Bool} {G' : Heap} (hx : evo E x = some (.pointer (some ⟨b, j, none⟩))) (hy : evo E y = some (.bool v))
    (hsz : cellsN P t = some 1) (hu : Upd b (.cells (boolsA bs) e (0, 0)) (.cells (boolsA (bs.set j v)) e (0, 0)) G G') (hlt : j < bs.length)
    (hg : wants ops E g = some true) (hdd : dd = none) (h : TL P n w0 ops Q l E G') : TL P n w0 ops Q (⟨dd, .store t x y, ty, pos, aft, g⟩ :: l) E G :=
  TL.store (cs := boolsA bs) hx hy hsz rfl (by rw [boolsA_set]; exact hu) (by rw [boolsA_size]; exact hlt) hg hdd h
theorem TL.makeB {d : Nat} {x y : Operand} {t e : Nat} {by_ k : Nat} {i : Int} (hx : evo E x = some (.int .i64 i)) (hy : evo E y = some (.int .i64 i)) (ht : P.underlying t = some (.slice e))
    (hz : zeroI P e = some (.bool false, 1, by_)) (hi : i = (k : Int)) (hk : by_ * k ≤ 281474976710656) (hk2 : k ≤ 9223372036854775807) (hg : wants ops E g = some true) (hd : d < n)
    (h : ∀ b, w0.heap.size ≤ b → TL P n w0 ops Q l ((d, .slice (some ⟨b, 0, none⟩) k k) :: E) ((b, .cells (boolsA (List.replicate k false)) e (0, 0)) :: G)) :
    TL P n w0 ops Q (⟨some d, .makeSlice t x y, ty, pos, aft, g⟩ :: l) E G :=
  TL.make hx hy ht hz rfl hi hk hk2 hg hd (fun b hb => by rw [boolsA_replicate]; exact h b hb)
end
theorem knZ_N {xs : List Int} {k N : Nat} (h : xs.length = N) (hk : k = N) : knZ xs k = kn0 xs := by
  rw [hk, ← h, knZ_all]
theorem hsL_start2 {N : Nat} {rs : List Rd} {G : Int → Int} (hv : Valid (N : Int) rs) (hG : Pot N rs G) : List.replicate N 0 = hsL G (kn0 (firstsL (N : Int) rs)) := by
  rw [← hsL_start hv hG, firstsL_len]; rfl
theorem ival_get {l : List Nat} {sp : List Value} {xs : List Int} {i : Nat} (hx : xs = l.map Int.ofNat) (h : i < l.length) : (ival xs ++ sp).toArray[i * 1]? = some (.int .i64 ((l.getD i 0 : Nat) : Int)) := by
  subst hx
  rw [List.getElem?_toArray, Nat.mul_one, List.getElem?_append_left (by simpa [ival] using h)]
  simp [ival, List.getD, h]
theorem hs_at {G : Int → Int} {kn : List Bool} {p : Int} (h0 : 0 ≤ p) (h : p.toNat < kn.length) (hk : kn.getD p.toNat false = true) : (hsL G kn).getD p.toNat 0 = G p := by
  rw [hsL_get h, if_pos hk, Int.toNat_of_nonneg h0]
theorem step1 {n : Int} {rs : List Rd} {kn : List Bool} {i : Nat} {L : List Bool} (h : i < (takenN n rs).length) (hL : L = kround n rs kn i) (hA : L.getD (rs.getD ((takenN n rs).getD i 0) default).fr.toNat false = true) :
    L.set (rs.getD ((takenN n rs).getD i 0) default).to.toNat true = kround n rs kn (i + 1) := by
  rw [kround_succ h, ← hL, kstep, kget, if_pos hA]
theorem step2 {n : Int} {rs : List Rd} {kn : List Bool} {i : Nat} {L : List Bool} (h : i < (takenN n rs).length) (hL : L = kround n rs kn i) (hA : L.getD (rs.getD ((takenN n rs).getD i 0) default).fr.toNat false = false) (hB : L.getD (rs.getD ((takenN n rs).getD i 0) default).to.toNat false = true) :
    L.set (rs.getD ((takenN n rs).getD i 0) default).fr.toNat true = kround n rs kn (i + 1) := by
  rw [kround_succ h, ← hL, kstep, kget, if_neg (by rw [hA]; decide), kget, if_pos hB]
theorem step3 {n : Int} {rs : List Rd} {kn : List Bool} {i : Nat} {L : List Bool} (h : i < (takenN n rs).length) (hL : L = kround n rs kn i) (hA : L.getD (rs.getD ((takenN n rs).getD i 0) default).fr.toNat false = false) (hB : L.getD (rs.getD ((takenN n rs).getD i 0) default).to.toNat false = false) :
    L = kround n rs kn (i + 1) := by
  rw [kround_succ h, ← hL, kstep, kget, if_neg (by rw [hA]; decide), kget, if_neg (by rw [hB]; decide)]
theorem step12 {n : Int} {rs : List Rd} {kn : List Bool} {i : Nat} {L : List Bool} (h : i < (takenN n rs).length) (hL : L = kround n rs kn i) (hA : L.getD (rs.getD ((takenN n rs).getD i 0) default).fr.toNat false = true) (hB : L.getD (rs.getD ((takenN n rs).getD i 0) default).to.toNat false = true) :
    L = kround n rs kn (i + 1) := by
  rw [← step1 h hL hA, kset_true hB]


set_option maxRecDepth 100000 in
set_option maxHeartbeats 2000000 in
theorem byTree_ok (w0 : World) (n : Int) (p : Option Addr) (cap : Nat) (rs : List Rd) (hr : RdsAt w0 p rs) (hv : Valid n rs) (G : Int → Int) (hG : Pot n rs G) :
    Calls Try.prog 67 #[sv n p rs.length cap] w0 (Post (X := Nat) (fun b => .slice (some ⟨b, 0, none⟩) n.toNat n.toNat) (fun _ => True) (fun b => [arrI b (hsL G (knEnd n rs))]) w0) := by
  have hp := hv.pts
  have hl := hv.len
  obtain ⟨N, rfl⟩ : ∃ N : Nat, n = N := ⟨n.toNat, by omega⟩
  have hfl : (firstsL (N : Int) rs).length = N := firstsL_len _ _
  refine calls Try.func67 rfl (n := 94) rfl (by simp) ?_
  refine TC.seq ?_
  refine TC.region ?_
  refine TL.box rfl rfl (by decide) (fun b0 hb0 => ?_)
  refine TL.pure (PV.assign rfl) rfl (by decide) ?_
  refine TL.nil ?_
  refine TQ.thenC ?_
  refine TC.seq ?_
  refine TC.region ?_
  refine TL.pure (PV.fieldAddr rfl Tb.fo_24_0) rfl (by decide) ?_
  refine TL.pure (PV.load rfl Tb.one_3 (by repeat (first | exact List.Mem.head _ | refine List.Mem.tail _ ?_ | refine List.mem_append_right _ ?_)) rfl) rfl (by decide) ?_
  refine TL.makeI rfl rfl Tb.sl_31 Tb.zi_3 (k := N) rfl (by omega) (by omega) rfl (by decide) (fun b1 hb1 => ?_)
  refine TL.pure (PV.assign rfl) rfl (by decide) ?_
  refine TL.nil ?_
  refine TQ.thenC ?_
  refine TC.seq ?_
  refine TC.region ?_
  refine TL.pure (PV.fieldAddr rfl Tb.fo_24_0) rfl (by decide) ?_
  refine TL.pure (PV.load rfl Tb.one_3 (by repeat (first | exact List.Mem.head _ | refine List.Mem.tail _ ?_ | refine List.mem_append_right _ ?_)) rfl) rfl (by decide) ?_
  refine TL.makeB (k := N) rfl rfl Tb.sl_101 Tb.zi_4 rfl (by omega) (by omega) rfl (by decide) (fun bK hbK => ?_)
  refine TL.pure (PV.assign rfl) rfl (by decide) ?_
  refine TL.nil ?_
  refine TQ.thenC ?_
  refine TC.seq ?_
  refine TC.seq ?_
  refine TC.region ?_
  refine TL.pure (PV.loadBox rfl Tb.agg_24 (by repeat (first | exact List.Mem.head _ | refine List.Mem.tail _ ?_ | refine List.mem_append_right _ ?_)) rfl) rfl (by decide) ?_
  refine TL.call rfl Tb.gofn_81 (fun a w hs => firsts_ok w _ _ _ _ (hr.new hs.new) hv) rfl (by decide) (fun bF _ => ?_)
  refine TL.pure (PV.len rfl Tb.sl_31) rfl (by decide) ?_
  refine TL.pure (PV.move rfl) rfl (by decide) ?_
  refine TL.nil ?_
  refine TQ.thenC ?_
  refine TC.block ?_
  refine TC.loopK [1, 2, 3, 4, 18, 19] (X := Nat × Unit) (fun x => x.1 ≤ N) (fun x => [(20, .int .i64 x.1)]) (fun x => [arrI bF (firstsL (N : Int) rs), arrB bK (knZ (firstsL (N : Int) rs) x.1), arrI b1 (List.replicate N 0), (b0, Obj.cells #[.int .i64 N, .slice p rs.length cap] 24 (0, 0))]) (fun x => N - x.1) (0, ()) (Nat.zero_le _) (by repeat (first | exact True.intro | refine And.intro rfl ?_)) (by rw [← knZ_zero, hfl]; exact List.Sublist.refl _) ?_
  intro x hx
  refine TC.seq ?_
  refine TC.region ?_
  refine TL.pure (PV.lss rfl rfl) rfl (by decide) ?_
  refine TL.nil ?_
  refine TQ.thenC ?_
  refine TC.seq ?_
  first | refine TC.condD rfl (fun hltA => ?_) (fun hltA => ?_) | refine TC.cond rfl (fun hltA => ?_) (fun hltA => ?_)
  · skip
    refine TC.skip ?_
    refine TQ.thenC ?_
    refine TC.seq ?_
    refine TC.block ?_
    refine TC.seq ?_
    refine TC.region ?_
    refine TL.pure (PV.move rfl) rfl (by decide) ?_
    refine TL.pure (PV.index1 rfl rfl Tb.elm_31 rfl (by omega)) rfl (by decide) ?_
    refine TL.pure (PV.loadI rfl Tb.one_3 (by repeat (first | exact List.Mem.head _ | refine List.Mem.tail _ ?_ | refine List.mem_append_right _ ?_)) (by omega)) rfl (by decide) ?_
    refine TL.pure (PV.assign rfl) rfl (by decide) ?_
    refine TL.pure (PV.assign rfl) rfl (by decide) ?_
    refine TL.nil ?_
    refine TQ.thenC ?_
    refine TC.region ?_
    refine TL.pure (PV.move rfl) rfl (by decide) ?_
    refine TL.pure (PV.move rfl) rfl (by decide) ?_
    refine TL.pure (PV.move rfl) rfl (by decide) ?_
    refine TL.pure (PV.move rfl) rfl (by decide) ?_
    refine TL.pure (PV.eql rfl rfl) rfl (by decide) ?_
    refine TL.pure (PV.index1 rfl rfl Tb.elm_101 rfl (by omega)) rfl (by decide) ?_
    refine TL.storeB rfl rfl Tb.cells_4 (by repeat (first | exact Upd.head _ | apply Upd.tail | apply Upd.appR)) (by rw [knZ_len]; omega) rfl rfl ?_
    rw [knZ_set (by omega)]
    refine TL.nil ?_
    refine TQ.blkN ?_
    refine TQ.thenC ?_
    refine TC.region ?_
    refine TL.pure (PV.add rfl rfl (by omega)) rfl (by decide) ?_
    refine TL.pure (PV.move rfl) rfl (by decide) ?_
    refine TL.nil ?_
    refine TQ.thenN ?_
    refine TQ.backK (x.1 + 1, ()) (by repeat (first | exact True.intro | refine And.intro rfl ?_)) (by repeat (first | exact True.intro | refine And.intro rfl ?_)) (List.Sublist.refl _) (by simp only; omega) (by simp only; omega)
  · skip
    refine TC.exit ?_
    refine TQ.thenE ?_
    refine TQ.thenE ?_
    refine TQ.blkS ?_
    refine TQ.thenC ?_
    refine TC.seq ?_
    rw [show knZ (firstsL (N : Int) rs) x.1 = kn0 (firstsL (N : Int) rs) from knZ_N hfl (by omega), hsL_start2 hv hG]
    refine TC.region ?_
    refine TL.pure (PV.loadBox rfl Tb.agg_24 (by repeat (first | exact List.Mem.head _ | refine List.Mem.tail _ ?_ | refine List.mem_append_right _ ?_)) rfl) rfl (by decide) ?_
    refine TL.call rfl Tb.gofn_63 (fun a w hs => tree_ok w _ _ _ _ (hr.new hs.new) hv) rfl (by decide) (fun xt ht => ?_)
    refine TL.pure (PV.assign rfl) rfl (by decide) ?_
    refine TL.nil ?_
    refine TQ.thenC ?_
    refine TC.seq ?_
    refine TC.seq ?_
    have hxt : xt.2 = (takenN (N : Int) rs).map Int.ofNat := ht.eq
    have hxtl : xt.2.length = (takenN (N : Int) rs).length := by rw [hxt, List.length_map]
    have htl := takenN_len (N : Int) rs
    refine TC.region ?_
    refine TL.pure (PV.fieldAddr rfl Tb.fo_24_0) rfl (by decide) ?_
    refine TL.pure (PV.load rfl Tb.one_3 (by repeat (first | exact List.Mem.head _ | refine List.Mem.tail _ ?_ | refine List.mem_append_right _ ?_)) rfl) rfl (by decide) ?_
    refine TL.pure (PV.move rfl) rfl (by decide) ?_
    refine TL.nil ?_
    refine TQ.thenC ?_
    refine TC.block ?_
    refine TC.loopK [1, 2, 3, 4, 7, 35] (X := Nat × List Bool) (fun x => x.1 ≤ N ∧ x.2 = kall N rs (kn0 (firstsL (N : Int) rs)) x.1) (fun x => [(36, .int .i64 x.1)]) (fun x => gbI xt ++ [arrB bK x.2, arrI b1 (hsL G x.2), (b0, Obj.cells #[.int .i64 N, .slice p rs.length cap] 24 (0, 0))]) (fun x => N - x.1) (0, kn0 (firstsL (N : Int) rs)) ⟨Nat.zero_le _, rfl⟩ (by repeat (first | exact True.intro | refine And.intro rfl ?_)) (List.Sublist.append_left (List.Sublist.cons _ (List.Sublist.refl _)) _) ?_
    intro x hx
    refine TC.seq ?_
    refine TC.region ?_
    refine TL.pure (PV.lss rfl rfl) rfl (by decide) ?_
    refine TL.nil ?_
    refine TQ.thenC ?_
    refine TC.seq ?_
    first | refine TC.condD rfl (fun hltB => ?_) (fun hltB => ?_) | refine TC.cond rfl (fun hltB => ?_) (fun hltB => ?_)
    · skip
      refine TC.skip ?_
      refine TQ.thenC ?_
      refine TC.seq ?_
      refine TC.block ?_
      refine TC.seq ?_
      refine TC.region ?_
      refine TL.pure (PV.move rfl) rfl (by decide) ?_
      refine TL.pure (PV.lenG rfl ht.ok Tb.sl_31) rfl (by decide) ?_
      refine TL.pure (PV.move rfl) rfl (by decide) ?_
      refine TL.nil ?_
      refine TQ.thenC ?_
      refine TC.block ?_
      refine TC.loopK [1, 2, 3, 4, 7, 35, 36, 38, 39] (X := Nat × List Bool) (fun y => y.1 ≤ (takenN (N : Int) rs).length ∧ y.2 = kround N rs x.2 y.1) (fun y => [(40, .int .i64 y.1)]) (fun y => gbI xt ++ [arrB bK y.2, arrI b1 (hsL G y.2), (b0, Obj.cells #[.int .i64 N, .slice p rs.length cap] 24 (0, 0))]) (fun y => (takenN (N : Int) rs).length - y.1) (0, x.2) ⟨Nat.zero_le _, rfl⟩ (by repeat (first | exact True.intro | refine And.intro rfl ?_)) (by repeat (first | exact List.Sublist.slnil | exact List.nil_sublist _ | exact List.Sublist.refl _ | refine List.Sublist.cons_cons _ ?_ | refine List.Sublist.cons _ ?_ | refine List.Sublist.trans ?_ (List.sublist_append_right _ _))) ?_
      intro y hy
      refine TC.seq ?_
      refine TC.region ?_
      refine TL.pure (PV.lss rfl rfl) rfl (by decide) ?_
      refine TL.nil ?_
      refine TQ.thenC ?_
      refine TC.seq ?_
      first | refine TC.condD rfl (fun hltC => ?_) (fun hltC => ?_) | refine TC.cond rfl (fun hltC => ?_) (fun hltC => ?_)
      · skip
        refine TC.skip ?_
        refine TQ.thenC ?_
        refine TC.seq ?_
        refine TC.block ?_
        refine TC.seq ?_
        have hltD : (y.1 : Int) < ((takenN (N : Int) rs).length : Int) := by rw [← hxtl]; exact hltC
        have hti := takenN_at (n := (N : Int)) (rs := rs) (i := y.1) (by omega)
        obtain ⟨q, hqp, hq⟩ := hr ((takenN (N : Int) rs).getD y.1 0) hti.1
        have hvk := hv.at hti.1
        have hge := hG.edge ((takenN (N : Int) rs).getD y.1 0) hti.1 hti.2
        have hgf := hG.bd (rs.getD ((takenN (N : Int) rs).getD y.1 0) default).fr hvk.1.1 hvk.1.2
        have hgt := hG.bd (rs.getD ((takenN (N : Int) rs).getD y.1 0) default).to hvk.2.1.1 hvk.2.1.2
        have hyl : y.2.length = N := by rw [hy.2, kround_len, hx.2, kall_len, kn0_len, hfl]
        have hhl : (hsL G y.2).length = N := by rw [hsL_len, hyl]
        refine TC.region ?_
        refine TL.pure (PV.indexG rfl rfl ht.ok Tb.elm_31 rfl (by omega)) rfl (by decide) ?_
        refine TL.pure (PV.loadG' rfl Tb.one_3 (List.mem_append_left _ (mem_gblk ht.ok (by omega))) (ival_get hxt (by omega))) rfl (by decide) ?_
        refine TL.pure (PV.assign rfl) rfl (by decide) ?_
        refine TL.nil ?_
        refine TQ.thenC ?_
        refine TC.seq ?_
        refine TC.region ?_
        refine TL.pure (PV.fieldAddr rfl Tb.fo_24_1) rfl (by decide) ?_
        refine TL.pure (PV.load rfl Tb.one_22 (by repeat (first | exact List.Mem.head _ | refine List.Mem.tail _ ?_ | refine List.mem_append_right _ ?_)) rfl) rfl (by decide) ?_
        refine TL.pure (PV.move rfl) rfl (by decide) ?_
        refine TL.pure (PV.indexA rfl hqp rfl Tb.elm_22 rfl (by omega)) rfl (by decide) ?_
        refine TL.pure (PV.loadAggA rfl Tb.agg_61 rfl hq) rfl (by decide) ?_
        refine TL.alloc Tb.zero_61 rfl (by decide) (fun b2 hb2 => ?_)
        refine TL.storeAgg rfl rfl Tb.cells_61 (by repeat (first | exact Upd.head _ | apply Upd.tail | apply Upd.appR)) rfl rfl rfl rfl rfl ?_
        refine TL.nil ?_
        refine TQ.thenC ?_
        refine TC.seq ?_
        refine TC.region ?_
        refine TL.pure (PV.move rfl) rfl (by decide) ?_
        refine TL.pure (PV.fieldAddr rfl Tb.fo_61_0) rfl (by decide) ?_
        refine TL.pure (PV.load rfl Tb.one_3 (by repeat (first | exact List.Mem.head _ | refine List.Mem.tail _ ?_ | refine List.mem_append_right _ ?_)) rfl) rfl (by decide) ?_
        refine TL.pure (PV.index1 rfl rfl Tb.elm_101 (Int.toNat_of_nonneg (by omega)).symm (by omega)) rfl (by decide) ?_
        refine TL.pure (PV.loadB rfl Tb.one_4 (by repeat (first | exact List.Mem.head _ | refine List.Mem.tail _ ?_ | refine List.mem_append_right _ ?_)) (by omega)) rfl (by decide) ?_
        refine TL.nil ?_
        refine TQ.thenC ?_
        first | refine TC.condD rfl (fun hA => ?_) (fun hA => ?_) | refine TC.cond rfl (fun hA => ?_) (fun hA => ?_)
        · skip
          have hgv := hs_at (G := G) hvk.1.1 (by omega) hA
          refine TC.seq ?_
          refine TC.draw 12 Tb.mixed (by kernel_rfl) ?_
          simp only [List.take_succ_cons, List.take_zero, List.drop_succ_cons, List.drop_zero]
          refine TS.pure (PV.move rfl) rfl (by decide) ?_
          refine TS.pure (PV.fieldAddr rfl Tb.fo_61_1) rfl (by decide) ?_
          refine TS.pure (PV.load rfl Tb.one_3 (by repeat (first | exact List.Mem.head _ | refine List.Mem.tail _ ?_ | refine List.mem_append_right _ ?_)) rfl) rfl (by decide) ?_
          refine TS.pure (PV.move rfl) rfl (by decide) ?_
          refine TS.pure (PV.fieldAddr rfl Tb.fo_61_0) rfl (by decide) ?_
          refine TS.pure (PV.load rfl Tb.one_3 (by repeat (first | exact List.Mem.head _ | refine List.Mem.tail _ ?_ | refine List.mem_append_right _ ?_)) rfl) rfl (by decide) ?_
          refine TS.pure (PV.index1 rfl rfl Tb.elm_31 (Int.toNat_of_nonneg (by omega)).symm (by omega)) rfl (by decide) ?_
          refine TS.pure (PV.loadI rfl Tb.one_3 (by repeat (first | exact List.Mem.head _ | refine List.Mem.tail _ ?_ | refine List.mem_append_right _ ?_)) (by omega)) rfl (by decide) ?_
          refine TS.pure (PV.fieldAddr rfl Tb.fo_61_2) rfl (by decide) ?_
          refine TS.pure (PV.load rfl Tb.one_3 (by repeat (first | exact List.Mem.head _ | refine List.Mem.tail _ ?_ | refine List.mem_append_right _ ?_)) rfl) rfl (by decide) ?_
          refine TS.pure (PV.add rfl rfl (by omega)) rfl (by decide) ?_
          refine TS.pure (PV.index1 rfl rfl Tb.elm_31 (Int.toNat_of_nonneg (by omega)).symm (by omega)) rfl (by decide) ?_
          refine TS.nil ?_
          refine TL.storeI rfl rfl Tb.cells_3 (by repeat (first | exact Upd.head _ | apply Upd.tail | apply Upd.appR)) (by omega) rfl rfl ?_
          rw [hsL_set (by omega) (by rw [Int.toNat_of_nonneg (by omega)]; omega)]
          refine TL.nil ?_
          refine TQ.thenC ?_
          refine TC.region ?_
          refine TL.pure (PV.move rfl) rfl (by decide) ?_
          refine TL.pure (PV.fieldAddr rfl Tb.fo_61_1) rfl (by decide) ?_
          refine TL.pure (PV.load rfl Tb.one_3 (by repeat (first | exact List.Mem.head _ | refine List.Mem.tail _ ?_ | refine List.mem_append_right _ ?_)) rfl) rfl (by decide) ?_
          refine TL.pure (PV.index1 rfl rfl Tb.elm_101 (Int.toNat_of_nonneg (by omega)).symm (by omega)) rfl (by decide) ?_
          refine TL.storeB rfl rfl Tb.cells_4 (by repeat (first | exact Upd.head _ | apply Upd.tail | apply Upd.appR)) (by omega) rfl rfl ?_
          refine TL.nil ?_
          refine TQ.blkN ?_
          refine TQ.thenC ?_
          refine TC.region ?_
          refine TL.pure (PV.add rfl rfl (by omega)) rfl (by decide) ?_
          refine TL.pure (PV.move rfl) rfl (by decide) ?_
          refine TL.nil ?_
          refine TQ.thenN ?_
          refine TQ.backK (y.1 + 1, _) (by repeat (first | exact True.intro | refine And.intro rfl ?_)) (by repeat (first | exact True.intro | refine And.intro rfl ?_)) (by first | exact List.Sublist.refl _ | exact List.Sublist.cons _ (List.Sublist.refl _)) ⟨by simp only; omega, by first | exact step1 (by omega) hy.2 hA | exact step2 (by omega) hy.2 hA hB | exact step3 (by omega) hy.2 hA hB⟩ (by simp only; omega)
        · skip
          refine TC.seq ?_
          refine TC.region ?_
          refine TL.pure (PV.move rfl) rfl (by decide) ?_
          refine TL.pure (PV.fieldAddr rfl Tb.fo_61_1) rfl (by decide) ?_
          refine TL.pure (PV.load rfl Tb.one_3 (by repeat (first | exact List.Mem.head _ | refine List.Mem.tail _ ?_ | refine List.mem_append_right _ ?_)) rfl) rfl (by decide) ?_
          refine TL.pure (PV.index1 rfl rfl Tb.elm_101 (Int.toNat_of_nonneg (by omega)).symm (by omega)) rfl (by decide) ?_
          refine TL.pure (PV.loadB rfl Tb.one_4 (by repeat (first | exact List.Mem.head _ | refine List.Mem.tail _ ?_ | refine List.mem_append_right _ ?_)) (by omega)) rfl (by decide) ?_
          refine TL.nil ?_
          refine TQ.thenC ?_
          first | refine TC.condD rfl (fun hB => ?_) (fun hB => ?_) | refine TC.cond rfl (fun hB => ?_) (fun hB => ?_)
          · skip
            have hgv := hs_at (G := G) hvk.2.1.1 (by omega) hB
            refine TC.seq ?_
            refine TC.draw 12 Tb.mixed (by kernel_rfl) ?_
            simp only [List.take_succ_cons, List.take_zero, List.drop_succ_cons, List.drop_zero]
            refine TS.pure (PV.move rfl) rfl (by decide) ?_
            refine TS.pure (PV.fieldAddr rfl Tb.fo_61_0) rfl (by decide) ?_
            refine TS.pure (PV.load rfl Tb.one_3 (by repeat (first | exact List.Mem.head _ | refine List.Mem.tail _ ?_ | refine List.mem_append_right _ ?_)) rfl) rfl (by decide) ?_
            refine TS.pure (PV.move rfl) rfl (by decide) ?_
            refine TS.pure (PV.fieldAddr rfl Tb.fo_61_1) rfl (by decide) ?_
            refine TS.pure (PV.load rfl Tb.one_3 (by repeat (first | exact List.Mem.head _ | refine List.Mem.tail _ ?_ | refine List.mem_append_right _ ?_)) rfl) rfl (by decide) ?_
            refine TS.pure (PV.index1 rfl rfl Tb.elm_31 (Int.toNat_of_nonneg (by omega)).symm (by omega)) rfl (by decide) ?_
            refine TS.pure (PV.loadI rfl Tb.one_3 (by repeat (first | exact List.Mem.head _ | refine List.Mem.tail _ ?_ | refine List.mem_append_right _ ?_)) (by omega)) rfl (by decide) ?_
            refine TS.pure (PV.fieldAddr rfl Tb.fo_61_2) rfl (by decide) ?_
            refine TS.pure (PV.load rfl Tb.one_3 (by repeat (first | exact List.Mem.head _ | refine List.Mem.tail _ ?_ | refine List.mem_append_right _ ?_)) rfl) rfl (by decide) ?_
            refine TS.pure (PV.sub rfl rfl (by omega)) rfl (by decide) ?_
            refine TS.pure (PV.index1 rfl rfl Tb.elm_31 (Int.toNat_of_nonneg (by omega)).symm (by omega)) rfl (by decide) ?_
            refine TS.nil ?_
            refine TL.storeI rfl rfl Tb.cells_3 (by repeat (first | exact Upd.head _ | apply Upd.tail | apply Upd.appR)) (by omega) rfl rfl ?_
            rw [hsL_set (by omega) (by rw [Int.toNat_of_nonneg (by omega)]; omega)]
            refine TL.nil ?_
            refine TQ.thenC ?_
            refine TC.region ?_
            refine TL.pure (PV.move rfl) rfl (by decide) ?_
            refine TL.pure (PV.fieldAddr rfl Tb.fo_61_0) rfl (by decide) ?_
            refine TL.pure (PV.load rfl Tb.one_3 (by repeat (first | exact List.Mem.head _ | refine List.Mem.tail _ ?_ | refine List.mem_append_right _ ?_)) rfl) rfl (by decide) ?_
            refine TL.pure (PV.index1 rfl rfl Tb.elm_101 (Int.toNat_of_nonneg (by omega)).symm (by omega)) rfl (by decide) ?_
            refine TL.storeB rfl rfl Tb.cells_4 (by repeat (first | exact Upd.head _ | apply Upd.tail | apply Upd.appR)) (by omega) rfl rfl ?_
            refine TL.nil ?_
            refine TQ.blkN ?_
            refine TQ.thenC ?_
            refine TC.region ?_
            refine TL.pure (PV.add rfl rfl (by omega)) rfl (by decide) ?_
            refine TL.pure (PV.move rfl) rfl (by decide) ?_
            refine TL.nil ?_
            refine TQ.thenN ?_
            refine TQ.backK (y.1 + 1, _) (by repeat (first | exact True.intro | refine And.intro rfl ?_)) (by repeat (first | exact True.intro | refine And.intro rfl ?_)) (by first | exact List.Sublist.refl _ | exact List.Sublist.cons _ (List.Sublist.refl _)) ⟨by simp only; omega, by first | exact step1 (by omega) hy.2 hA | exact step2 (by omega) hy.2 hA hB | exact step3 (by omega) hy.2 hA hB⟩ (by simp only; omega)
          · skip
            refine TC.skip ?_
            refine TQ.blkN ?_
            refine TQ.thenC ?_
            refine TC.region ?_
            refine TL.pure (PV.add rfl rfl (by omega)) rfl (by decide) ?_
            refine TL.pure (PV.move rfl) rfl (by decide) ?_
            refine TL.nil ?_
            refine TQ.thenN ?_
            refine TQ.backK (y.1 + 1, _) (by repeat (first | exact True.intro | refine And.intro rfl ?_)) (by repeat (first | exact True.intro | refine And.intro rfl ?_)) (by first | exact List.Sublist.refl _ | exact List.Sublist.cons _ (List.Sublist.refl _)) ⟨by simp only; omega, by first | exact step1 (by omega) hy.2 hA | exact step2 (by omega) hy.2 hA hB | exact step3 (by omega) hy.2 hA hB⟩ (by simp only; omega)
      · skip
        refine TC.exit ?_
        refine TQ.thenE ?_
        refine TQ.thenE ?_
        refine TQ.blkS ?_
        refine TQ.blkN ?_
        refine TQ.thenC ?_
        refine TC.region ?_
        refine TL.pure (PV.add rfl rfl (by omega)) rfl (by decide) ?_
        refine TL.pure (PV.move rfl) rfl (by decide) ?_
        refine TL.nil ?_
        refine TQ.thenN ?_
        refine TQ.backK (x.1 + 1, _) (by repeat (first | exact True.intro | refine And.intro rfl ?_)) (by repeat (first | exact True.intro | refine And.intro rfl ?_)) (by first | exact List.Sublist.refl _ | exact List.Sublist.cons _ (List.Sublist.refl _)) ⟨by simp only; omega, hy.2.trans (by rw [show y.1 = (takenN (N : Int) rs).length by omega, hx.2]; rfl)⟩ (by simp only; omega)
    · skip
      refine TC.exit ?_
      refine TQ.thenE ?_
      refine TQ.thenE ?_
      refine TQ.blkS ?_
      refine TQ.thenC ?_
      refine TC.seq ?_
      refine TC.region ?_
      refine TL.pure (PV.move rfl) rfl (by decide) ?_
      refine TL.pure (PV.assign rfl) rfl (by decide) ?_
      refine TL.nil ?_
      refine TQ.thenC ?_
      refine TC.ret ?_
      refine TQ.retE1 rfl rfl ?_
      exact ⟨b1, rfl, trivial, by rw [show knEnd (N : Int) rs = x.2 by rw [hx.2, show x.1 = N by omega]; rfl]; exact (List.Sublist.cons _ (List.Sublist.cons_cons _ (List.nil_sublist _))).trans (List.sublist_append_right _ _)⟩

end Go.Proofs.Ytmmgcajegokkoaa

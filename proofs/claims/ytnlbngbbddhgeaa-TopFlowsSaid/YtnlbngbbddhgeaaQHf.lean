/- Rounds that are taken out: contract. -/
import Derived.Test.YtnlbngbbddhgeaaQHe
import Derived.Test.YtnlbngbbddhgeaaQHa
set_option linter.unusedVariables false
set_option linter.unusedSimpArgs false
namespace Go.Proofs.Ytnlbngbbddhgeaa
open Go.Sx Go.RowKit


theorem rw_get {W : List Nat} {sp : List Value} {i j : Nat} (h : j < (W.drop i).length) : ((ival (nI W) ++ sp).toArray)[i + j * 1]? = some (.int .i64 ((W.drop i).getD j 0 : Nat)) := by
  rw [List.length_drop] at h
  have h1 : i + j * 1 < (ival (nI W)).length := by simp [nI]; omega
  rw [List.getElem?_toArray, List.getElem?_append_left h1]
  simp [ival, nI, List.getD, List.getElem?_drop, show i + j < W.length by omega]
def mnK (L : List Fl.E) (ks : List Nat) (j : Nat) : Int := (ks.take j).foldl (fun a k => min a (L.getD k default).r) (L.getD (ks.getD 0 0) default).r
theorem mnK_all (L : List Fl.E) (ks : List Nat) : mnK L ks ks.length = Fl.mnR L ks := by unfold mnK; rw [List.take_length]; rfl
theorem mnK_next {L : List Fl.E} {ks : List Nat} {j : Nat} (h : j < ks.length) : mnK L ks (j + 1) = min (mnK L ks j) (L.getD (ks.getD j 0) default).r := fold_snoc _ _ h 0
theorem tak_next {a : Int} {L : List Fl.E} {ks : List Nat} {j : Nat} (h : j < ks.length) : Fl.tak a L (ks.take (j + 1)) = Fl.tk1 a (Fl.tak a L (ks.take j)) (ks.getD j 0) := fold_snoc _ _ h 0
theorem kget {ks : List Nat} {j : Nat} (h : j < ks.length) : ks.getD j 0 ∈ ks := by simp [List.getD, h]


set_option maxRecDepth 100000 in
set_option maxHeartbeats 2000000 in
theorem takeOut_ok (w0 w : World) (h : HD) (L : List Fl.E) (K : Nat) (hK : L.length = K) (y : RW) (R : Heap) (hok : goR R4 h L) (hyk : goI (some (y.b, y.cap, y.sp), nI y.W)) (hyi : y.i < y.W.length) (hR : Fl.Rnd L (y.W.drop y.i)) (hbd : ∀ k, 0 ≤ (L.getD k default).r ∧ (L.getD k default).r ≤ 400) (hl8 : y.W.length ≤ 8) (hN : New w0 w (gbR R4 92 h L ++ (gbI (some (y.b, y.cap, y.sp), nI y.W) ++ R))) :
    Calls Try.prog 86 #[gval h K, .slice (some ⟨y.b, y.i, none⟩) (y.W.length - y.i) (y.cap - y.i)] w (Post (X := Unit) (fun _ => .int .i64 (Fl.mnR L (y.W.drop y.i))) (fun _ => True) (fun _ => gbR R4 92 h (Fl.tak (Fl.mnR L (y.W.drop y.i)) L (y.W.drop y.i)) ++ (gbI (some (y.b, y.cap, y.sp), nI y.W) ++ R)) w0) := by
  have hkl : (y.W.drop y.i).length = y.W.length - y.i := List.length_drop
  have h0k : 0 < (y.W.drop y.i).length := hR.ne
  have hok2 : gok h K 4 (rcs R4 L) := by subst hK; exact hok
  have hlt9 : ∀ j, j < (y.W.drop y.i).length → (y.W.drop y.i).getD j 0 < K := fun j hj => by rw [← hK]; exact hR.lt _ (kget hj)
  have hjk : 0 < (y.W.drop y.i).length := h0k
  have hk0 := hlt9 0 h0k
  have ham := hR.mn
  have hbk := fun j => hbd ((y.W.drop y.i).getD j 0)
  have hmb : ∀ j, mnK L (y.W.drop y.i) j ≤ 400 ∧ 0 ≤ mnK L (y.W.drop y.i) j := fun j => by
    unfold mnK
    generalize (y.W.drop y.i).take j = l9
    have : ∀ (l : List Nat) (a : Int), (0 ≤ a ∧ a ≤ 400) → l.foldl (fun a k => min a (L.getD k default).r) a ≤ 400 ∧ 0 ≤ l.foldl (fun a k => min a (L.getD k default).r) a := by
      intro l
      induction l with
      | nil => intro a ha; exact ⟨ha.2, ha.1⟩
      | cons k l ih => intro a ha; rw [List.foldl_cons]; have := hbd k; exact ih _ (by omega)
    exact this l9 _ (hbd _)
  refine callsM hN Try.func86 rfl (n := 48) rfl (by simp) ?_
  refine TC.seq ?_
  refine TC.region ?_
  refine TL.pure (PV.assign rfl) rfl (by decide) ?_
  refine TL.nil ?_
  refine TQ.thenC ?_
  refine TC.seq ?_
  refine TC.region ?_
  refine TL.pure (PV.move rfl) rfl (by decide) ?_
  refine TL.pure (PV.move rfl) rfl (by decide) ?_
  refine TL.pure (PV.index (j := 0) rfl rfl Tb.elm_25 rfl (by omega)) rfl (by decide) ?_
  refine TL.pure (PV.loadG' rfl Tb.one_3 (by repeat (first | exact List.mem_append_left _ (List.Mem.head _) | exact List.Mem.head _ | refine List.mem_append_right _ ?_ | refine List.Mem.tail _ ?_)) (rw_get (j := 0) hjk)) rfl (by decide) ?_
  refine TL.pure (PV.indexG (h := h) (len := K) (j := (y.W.drop y.i).getD 0 0) rfl rfl hok2 Tb.elm_65 rfl hk0) rfl (by decide) ?_
  refine TL.pure (PV.fieldAddr rfl Tb.fo_92_1) rfl (by decide) ?_
  refine TL.pure (PV.loadRecF (R := R4) (h := h) (l := L) (j := (y.W.drop y.i).getD 0 0) (f := 3) rfl Tb.one_3 (by intro y hy; repeat (first | exact hy | exact List.mem_append_left _ hy | refine List.mem_append_right _ ?_ | refine List.Mem.tail _ ?_)) hok (by omega) (by decide) rfl) rfl (by decide) ?_
  refine TL.pure (PV.assign rfl) rfl (by decide) ?_
  refine TL.nil ?_
  refine TQ.thenC ?_
  refine TC.seq ?_
  refine TC.seq ?_
  refine TC.region ?_
  refine TL.pure (PV.move rfl) rfl (by decide) ?_
  refine TL.pure (PV.len rfl Tb.sl_25) rfl (by decide) ?_
  refine TL.pure (PV.move rfl) rfl (by decide) ?_
  refine TL.nil ?_
  refine TQ.thenC ?_
  refine TC.block ?_
  refine TC.loopK [0, 1, 4, 17, 18] (X := Nat) (fun j => j ≤ (y.W.drop y.i).length) (fun j => [(5, .int .i64 (mnK L (y.W.drop y.i) j)), (19, .int .i64 (j : Nat))]) (fun j => gbR R4 92 h (L) ++ (gbI (some (y.b, y.cap, y.sp), nI y.W) ++ R)) (fun j => (y.W.drop y.i).length - j) 0 (Nat.zero_le _) (by exact ⟨rfl, rfl, trivial⟩) (List.Sublist.refl _) ?_
  intro j hj
  refine TC.seq ?_
  refine TC.region ?_
  refine TL.pure (PV.lss rfl rfl) rfl (by decide) ?_
  refine TL.nil ?_
  refine TQ.thenC ?_
  refine TC.seq ?_
  first | refine TC.condD rfl (fun hlt => ?_) (fun hlt => ?_) | refine TC.cond rfl (fun hlt => ?_) (fun hlt => ?_)
  · skip
    refine TC.skip ?_
    refine TQ.thenC ?_
    refine TC.seq ?_
    refine TC.block ?_
    refine TC.seq ?_
    have hjk : j < (y.W.drop y.i).length := by omega
    refine TC.region ?_
    refine TL.pure (PV.index (j := j) rfl rfl Tb.elm_25 rfl (by omega)) rfl (by decide) ?_
    refine TL.pure (PV.loadG' rfl Tb.one_3 (by repeat (first | exact List.mem_append_left _ (List.Mem.head _) | exact List.Mem.head _ | refine List.mem_append_right _ ?_ | refine List.Mem.tail _ ?_)) (rw_get (j := j) hjk)) rfl (by decide) ?_
    refine TL.pure (PV.assign rfl) rfl (by decide) ?_
    refine TL.nil ?_
    refine TQ.thenC ?_
    refine TC.region ?_
    refine TL.pure (PV.move rfl) rfl (by decide) ?_
    refine TL.pure (PV.move rfl) rfl (by decide) ?_
    refine TL.pure (PV.move rfl) rfl (by decide) ?_
    refine TL.pure (PV.indexG (h := h) (len := K) (j := ((y.W.drop y.i).getD j 0)) rfl rfl hok2 Tb.elm_65 rfl (hlt9 j hjk)) rfl (by decide) ?_
    refine TL.pure (PV.fieldAddr rfl Tb.fo_92_1) rfl (by decide) ?_
    refine TL.pure (PV.loadRecF (R := R4) (h := h) (l := L) (j := ((y.W.drop y.i).getD j 0)) (f := 3) rfl Tb.one_3 (by intro y hy; repeat (first | exact hy | exact List.mem_append_left _ hy | refine List.mem_append_right _ ?_ | refine List.Mem.tail _ ?_)) hok (by have := hlt9 j hjk; omega) (by decide) rfl) rfl (by decide) ?_
    refine TL.pure (PV.min rfl rfl Tb.int_3) rfl (by decide) ?_
    refine TL.pure (PV.assign rfl) rfl (by decide) ?_
    refine TL.nil ?_
    refine TQ.blkN ?_
    refine TQ.thenC ?_
    refine TC.region ?_
    refine TL.pure (PV.add rfl rfl (by omega)) rfl (by decide) ?_
    refine TL.pure (PV.move rfl) rfl (by decide) ?_
    refine TL.nil ?_
    refine TQ.thenN ?_
    refine TQ.backK (j + 1) (by refine And.intro ?_ (And.intro rfl True.intro); show some _ = some _; rw [mnK_next hjk]) (by repeat (first | exact True.intro | refine And.intro rfl ?_)) (List.Sublist.refl _) (by omega) (by omega)
  · skip
    refine TC.exit ?_
    refine TQ.thenE ?_
    refine TQ.thenE ?_
    refine TQ.blkS ?_
    refine TQ.thenC ?_
    refine TC.seq ?_
    refine TC.seq ?_
    have hje : j = (y.W.drop y.i).length := by omega
    have hme : mnK L (y.W.drop y.i) j = (Fl.mnR L (y.W.drop y.i)) := by rw [hje, mnK_all]
    rw [hme]
    refine TC.region ?_
    refine TL.pure (PV.move rfl) rfl (by decide) ?_
    refine TL.pure (PV.len rfl Tb.sl_25) rfl (by decide) ?_
    refine TL.pure (PV.move rfl) rfl (by decide) ?_
    refine TL.nil ?_
    refine TQ.thenC ?_
    refine TC.block ?_
    refine TC.loopK [0, 4, 5, 31, 32] (X := Nat) (fun j => j ≤ (y.W.drop y.i).length) (fun j => [(33, .int .i64 (j : Nat))]) (fun j => gbR R4 92 h ((Fl.tak (Fl.mnR L (y.W.drop y.i)) L ((y.W.drop y.i).take j))) ++ (gbI (some (y.b, y.cap, y.sp), nI y.W) ++ R)) (fun j => (y.W.drop y.i).length - j) 0 (Nat.zero_le _) (by repeat (first | exact True.intro | refine And.intro rfl ?_)) (List.Sublist.refl _) ?_
    intro j hj
    refine TC.seq ?_
    refine TC.region ?_
    refine TL.pure (PV.lss rfl rfl) rfl (by decide) ?_
    refine TL.nil ?_
    refine TQ.thenC ?_
    refine TC.seq ?_
    first | refine TC.condD rfl (fun hlt2 => ?_) (fun hlt2 => ?_) | refine TC.cond rfl (fun hlt2 => ?_) (fun hlt2 => ?_)
    · skip
      refine TC.skip ?_
      refine TQ.thenC ?_
      refine TC.seq ?_
      refine TC.block ?_
      refine TC.seq ?_
      have hjk : j < (y.W.drop y.i).length := by omega
      have hokj : goR R4 h (Fl.tak (Fl.mnR L (y.W.drop y.i)) L ((y.W.drop y.i).take j)) := goR_len hok (Fl.tak_len _ _ _)
      have hok3 : gok h K 4 (rcs R4 (Fl.tak (Fl.mnR L (y.W.drop y.i)) L ((y.W.drop y.i).take j))) := by have h9 := hokj; unfold goR at h9; rw [Fl.tak_len, hK] at h9; exact h9
      have hrj : ((Fl.tak (Fl.mnR L (y.W.drop y.i)) L ((y.W.drop y.i).take j)).getD ((y.W.drop y.i).getD j 0) default).r = (L.getD ((y.W.drop y.i).getD j 0) default).r := by
        rw [Fl.tak_r _ _ _ _ (hR.wk.nodup.sublist (List.take_sublist _ _)) (fun k hk => hR.lt k (List.mem_of_mem_take hk)), if_neg, Int.sub_zero]
        intro hm
        obtain ⟨i9, hi9, e9⟩ := List.getElem_of_mem hm
        rw [List.length_take] at hi9
        rw [List.getElem_take] at e9
        exact absurd (e9.trans (by rw [List.getD_eq_getElem?_getD, List.getElem?_eq_getElem hjk]; rfl)) (List.pairwise_iff_getElem.1 hR.wk.nodup i9 j (by omega) hjk (by omega))
      have hbj := hbd ((y.W.drop y.i).getD j 0)
      have hma := Fl.mnR_le (L := L) (kget hjk)
      refine TC.region ?_
      refine TL.pure (PV.index (j := j) rfl rfl Tb.elm_25 rfl (by omega)) rfl (by decide) ?_
      refine TL.pure (PV.loadG' rfl Tb.one_3 (by repeat (first | exact List.mem_append_left _ (List.Mem.head _) | exact List.Mem.head _ | refine List.mem_append_right _ ?_ | refine List.Mem.tail _ ?_)) (rw_get (j := j) hjk)) rfl (by decide) ?_
      refine TL.pure (PV.assign rfl) rfl (by decide) ?_
      refine TL.nil ?_
      refine TQ.thenC ?_
      refine TC.region ?_
      refine TL.pure (PV.move rfl) rfl (by decide) ?_
      refine TL.pure (PV.move rfl) rfl (by decide) ?_
      refine TL.pure (PV.indexG (h := h) (len := K) (j := ((y.W.drop y.i).getD j 0)) rfl rfl hok3 Tb.elm_65 rfl (hlt9 j hjk)) rfl (by decide) ?_
      refine TL.pure (PV.fieldAddr rfl Tb.fo_92_1) rfl (by decide) ?_
      refine TL.pure (PV.loadRecF (R := R4) (h := h) (l := (Fl.tak (Fl.mnR L (y.W.drop y.i)) L ((y.W.drop y.i).take j))) (j := ((y.W.drop y.i).getD j 0)) (f := 3) rfl Tb.one_3 (by intro y hy; repeat (first | exact hy | exact List.mem_append_left _ hy | refine List.mem_append_right _ ?_ | refine List.Mem.tail _ ?_)) hokj (by rw [Fl.tak_len]; have := hlt9 j hjk; omega) (by decide) rfl) rfl (by decide) ?_
      refine TL.pure (PV.move rfl) rfl (by decide) ?_
      refine TL.pure (PV.sub rfl rfl (by omega)) rfl (by decide) ?_
      refine TL.pure (PV.indexG (h := h) (len := K) (j := ((y.W.drop y.i).getD j 0)) rfl rfl hok3 Tb.elm_65 rfl (hlt9 j hjk)) rfl (by decide) ?_
      refine TL.pure (PV.fieldAddr rfl Tb.fo_92_1) rfl (by decide) ?_
      refine TL.putCell (R := R4) (h := h) (l0 := (Fl.tak (Fl.mnR L (y.W.drop y.i)) L ((y.W.drop y.i).take j))) (j := ((y.W.drop y.i).getD j 0)) (f := 3) (r := { (Fl.tak (Fl.mnR L (y.W.drop y.i)) L ((y.W.drop y.i).take j)).getD ((y.W.drop y.i).getD j 0) default with r := ((Fl.tak (Fl.mnR L (y.W.drop y.i)) L ((y.W.drop y.i).take j)).getD ((y.W.drop y.i).getD j 0) default).r - (Fl.mnR L (y.W.drop y.i)) }) rfl rfl Tb.cells_3 rfl hokj rfl (by repeat (first | exact PutH.here _ _ _ _ | apply PutH.tail | apply PutH.app)) (by rw [Fl.tak_len]; have := hlt9 j hjk; omega) (by decide) rfl rfl ?_
      refine TL.nil ?_
      refine TQ.blkN ?_
      refine TQ.thenC ?_
      refine TC.region ?_
      refine TL.pure (PV.add rfl rfl (by omega)) rfl (by decide) ?_
      refine TL.pure (PV.move rfl) rfl (by decide) ?_
      refine TL.nil ?_
      refine TQ.thenN ?_
      refine TQ.backK (j + 1) (by repeat (first | exact True.intro | refine And.intro rfl ?_)) (by repeat (first | exact True.intro | refine And.intro rfl ?_)) (by rw [tak_next hjk]; exact List.Sublist.refl _) (by omega) (by omega)
    · skip
      refine TC.exit ?_
      refine TQ.thenE ?_
      refine TQ.thenE ?_
      refine TQ.blkS ?_
      refine TQ.thenC ?_
      refine TC.seq ?_
      have hje2 : j = (y.W.drop y.i).length := by omega
      refine TC.region ?_
      refine TL.pure (PV.move rfl) rfl (by decide) ?_
      refine TL.pure (PV.assign rfl) rfl (by decide) ?_
      refine TL.nil ?_
      refine TQ.thenC ?_
      refine TC.ret ?_
      refine TQ.retE1 rfl rfl ?_
      exact ⟨(), by first | rfl | rw [hme], trivial, by rw [hje2, List.take_length]; exact List.Sublist.refl _⟩

end Go.Proofs.Ytnlbngbbddhgeaa

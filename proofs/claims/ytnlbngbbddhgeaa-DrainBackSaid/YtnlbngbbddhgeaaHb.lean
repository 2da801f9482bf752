/- Sums of trails, and the law of them: contracts. -/
import Derived.Test.YtnlbngbbddhgeaaHa
set_option linter.unusedVariables false
set_option linter.unusedSimpArgs false
namespace Go.Proofs.Ytnlbngbbddhgeaa
open Go.Sx Go.RowKit


theorem gb_own (b cap : Nat) (l : List Int) : gbI (some (b, cap, []), l) = [(b, Obj.cells (intsA l) 3 (0, 0))] := by simp [gbI, gblk, intsA, ival]
theorem go_own (b : Nat) (l : List Int) : goI (some (b, l.length, []), l) := ⟨by simp, by simp, Nat.le_refl _⟩
def SJ (rs : List Bd) (ts : List TV) (j : Nat) : List Int := (ts.take j).foldl addT (List.replicate rs.length 0)
def IJ (rs : List Bd) (ts : List TV) (j i : Nat) : List Int := ((ts.getD j default).ks.take i).foldl (addK (ts.getD j default).am) (SJ rs ts j)
theorem SJ_all (rs : List Bd) (ts : List TV) : SJ rs ts ts.length = sumT rs ts := by unfold SJ; rw [List.take_length]; rfl
theorem IJ_zero (rs : List Bd) (ts : List TV) (j : Nat) : IJ rs ts j 0 = SJ rs ts j := rfl
theorem IJ_next {rs : List Bd} {ts : List TV} {j i : Nat} (hi : i < (ts.getD j default).ks.length) : IJ rs ts j (i + 1) = addK (ts.getD j default).am (IJ rs ts j i) ((ts.getD j default).ks.getD i 0) := fold_snoc _ _ hi 0
theorem IJ_all {rs : List Bd} {ts : List TV} {j : Nat} (hj : j < ts.length) : IJ rs ts j (ts.getD j default).ks.length = SJ rs ts (j + 1) := by
  unfold IJ SJ
  rw [List.take_length, fold_snoc _ _ hj default]; rfl
theorem trOK_am {s t : Int} {rs : List Bd} {tv : TV} (h : trOK s t rs tv = true) : 1 ≤ tv.am ∧ tv.am ≤ 20 := by
  unfold trOK at h; rw [Bool.and_eq_true] at h; exact (pth_is h.1).1.2
theorem trOK_at {s t : Int} {rs : List Bd} {tv : TV} (h : trOK s t rs tv = true) {i : Nat} (hi : i < tv.ks.length) : 0 ≤ tv.ks.getD i 0 ∧ tv.ks.getD i 0 < rs.length := by
  unfold trOK at h; rw [Bool.and_eq_true] at h; exact pth_at h.1 hi
theorem trOK_a {s t : Int} {rs : List Bd} {tv : TV} (h : pthB rs tv.ks tv.am = false) : trOK s t rs tv = false := by unfold trOK; rw [h]; rfl
theorem trOK_b {s t : Int} {rs : List Bd} {tv : TV} (h : wayB s t rs tv.ks = false) (h2 : rndB rs tv.ks = false) : trOK s t rs tv = false := by unfold trOK; rw [h, h2]; simp
theorem trOK_w {s t : Int} {rs : List Bd} {tv : TV} (h : pthB rs tv.ks tv.am = true) (h2 : wayB s t rs tv.ks = true) : trOK s t rs tv = true := by unfold trOK; rw [h, h2]; rfl
theorem trOK_r {s t : Int} {rs : List Bd} {tv : TV} (h : pthB rs tv.ks tv.am = true) (h2 : rndB rs tv.ks = true) : trOK s t rs tv = true := by unfold trOK; rw [h, h2]; simp
theorem trOK_c {s t : Int} {rs : List Bd} {tv : TV} (h : (pthB rs tv.ks tv.am && wayB s t rs tv.ks) = false) (h2 : (pthB rs tv.ks tv.am && rndB rs tv.ks) = false) : trOK s t rs tv = false := by
  unfold trOK; cases h3 : pthB rs tv.ks tv.am <;> simp_all
theorem trOK_d {s t : Int} {rs : List Bd} {tv : TV} (h : (pthB rs tv.ks tv.am && wayB s t rs tv.ks) = true) : trOK s t rs tv = true := by
  rw [Bool.and_eq_true] at h; exact trOK_w h.1 h.2
theorem trOK_e {s t : Int} {rs : List Bd} {tv : TV} (h : (pthB rs tv.ks tv.am && rndB rs tv.ks) = true) : trOK s t rs tv = true := by
  rw [Bool.and_eq_true] at h; exact trOK_r h.1 h.2
theorem nb_t {b : Bool} (h : (!b) = true) : b = false := by cases b <;> simp_all
theorem nb_f {b : Bool} (h : (!b) = false) : b = true := by cases b <;> simp_all
def anyLong (ts : List TV) : Bool := ts.any fun t => decide (100 < t.ks.length)
theorem anyLong_no {ts : List TV} (h : anyLong ts = false) : ∀ t ∈ ts, t.ks.length ≤ 100 := fun t ht => by
  have := List.any_eq_false.1 h t ht
  simpa using this
theorem addT_len (xs : List Int) (tv : TV) : (addT xs tv).length = xs.length := by
  unfold addT
  suffices h : ∀ (l : List Int) (xs : List Int), (l.foldl (addK tv.am) xs).length = xs.length from h _ _
  intro l
  induction l with
  | nil => intro xs; rfl
  | cons v l ih => intro xs; rw [List.foldl_cons, ih]; exact List.length_set
theorem sumT_len (rs : List Bd) (ts : List TV) : (sumT rs ts).length = rs.length := by
  unfold sumT
  suffices h : ∀ (l : List TV) (xs : List Int), (l.foldl addT xs).length = xs.length from (h _ _).trans List.length_replicate
  intro l
  induction l with
  | nil => intro xs; rfl
  | cons v l ih => intro xs; rw [List.foldl_cons, ih, addT_len]
theorem sumL_len {s t : Int} (rs : List Bd) (ts : List TV) (h : rs.length ≤ 16) : (sumL s t rs ts).length ≤ 1000000 := by
  unfold sumL; split
  · rw [sumT_len]; omega
  · simp
theorem not_take {ks : List Int} {i : Nat} {v : Int} (hi : i ≤ ks.length) (h : ∀ j, j < i → ks.getD j 0 ≠ v) : v ∉ ks.take i := fun hm => by
  obtain ⟨j, hj, e⟩ := List.getElem_of_mem hm
  rw [List.length_take] at hj
  have := h j (by omega)
  rw [List.getElem_take] at e
  exact this (by rw [← e]; simp [List.getD, show j < ks.length by omega])
theorem in_take {ks : List Int} {i j : Nat} (hi : i ≤ ks.length) (hj : j < i) : ks.getD j 0 ∈ ks.take i := by
  have h1 : j < ks.length := by omega
  have : (ks.take i)[j]'(by rw [List.length_take]; omega) = ks.getD j 0 := by rw [List.getElem_take]; simp [List.getD, h1]
  rw [← this]; exact List.getElem_mem _


set_option maxRecDepth 100000 in
set_option maxHeartbeats 2000000 in
theorem Path_ok (w0 : World) (n s t : Nat) (p : Option Addr) (cap : Nat) (rs : List Bd) (hr : BdsAt w0 p rs) (tp : Option Addr) (tc : Nat) (ks : List Int) (am : Int) (hx : IntsAt w0 tp ks) (hl : ks.length ≤ 1000) (hlen : rs.length ≤ 1000) :
    Calls Try.prog 93 #[dnV n s t p rs.length cap, .agg #[.slice tp ks.length tc, .int .i64 am]] w0 (Post (X := Unit) (fun _ => .tuple #[.int .i64 (if pthB rs ks am = true then eA rs ks else 0), .int .i64 (if pthB rs ks am = true then eB rs ks else 0), .bool (pthB rs ks am)]) (fun _ => True) (fun _ => []) w0) := by
  refine calls Try.func93 rfl (n := 101) rfl (by simp) ?_
  refine TC.seq ?_
  refine TC.region ?_
  refine TL.box rfl rfl (by decide) (fun b0 hb0 => ?_)
  refine TL.box rfl rfl (by decide) (fun b1 hb1 => ?_)
  refine TL.pure (PV.assign rfl) rfl (by decide) ?_
  refine TL.pure (PV.assign rfl) rfl (by decide) ?_
  refine TL.pure (PV.assign rfl) rfl (by decide) ?_
  refine TL.nil ?_
  refine TQ.thenC ?_
  refine TC.seq ?_
  refine TC.seq ?_
  refine TC.region ?_
  refine TL.pure (PV.fieldAddr rfl Tb.fo_89_0) rfl (by decide) ?_
  refine TL.pure (PV.load rfl Tb.one_25 (by repeat (first | exact List.Mem.head _ | refine List.Mem.tail _ ?_ | refine List.mem_append_right _ ?_)) rfl) rfl (by decide) ?_
  refine TL.pure (PV.len rfl Tb.sl_25) rfl (by decide) ?_
  refine TL.pure (PV.eql rfl rfl) rfl (by decide) ?_
  refine TL.pure (PV.move rfl) rfl (by decide) ?_
  first | refine TL.splitD 13 rfl (fun a1 => ?_) (fun a1 => ?_) | refine TL.split 13 rfl (fun a1 => ?_) (fun a1 => ?_)
  · skip
    refine TL.skip rfl (fun k hk => by cases hk; decide) ?_
    refine TL.skip rfl (fun k hk => by cases hk; decide) ?_
    refine TL.skip rfl (fun k hk => by cases hk; decide) ?_
    refine TL.skip rfl (fun k hk => by cases hk; decide) ?_
    refine TL.pure (PV.pickT rfl rfl) rfl (by decide) ?_
    refine TL.nil ?_
    refine TQ.thenC ?_
    refine TC.condT rfl ?_
    refine TC.seq ?_
    refine TC.region ?_
    refine TL.pure (PV.assign rfl) rfl (by decide) ?_
    refine TL.pure (PV.assign rfl) rfl (by decide) ?_
    refine TL.pure (PV.assign rfl) rfl (by decide) ?_
    refine TL.nil ?_
    refine TQ.thenC ?_
    refine TC.ret ?_
    refine TQ.thenR ?_
    refine TQ.retE3 rfl rfl rfl rfl ?_
    exact ⟨(), by rw [pth_no (fun h9 => by have := List.length_pos_iff.2 h9.1; omega)]; rfl, trivial, List.nil_sublist _⟩
  · skip
    refine TL.pure (PV.fieldAddr rfl Tb.fo_89_1) rfl (by decide) ?_
    refine TL.pure (PV.load rfl Tb.one_3 (by repeat (first | exact List.Mem.head _ | refine List.Mem.tail _ ?_ | refine List.mem_append_right _ ?_)) rfl) rfl (by decide) ?_
    refine TL.call rfl Tb.gofn_57 (fun a w hs => within_ok _ _ _ _) rfl (by decide) (fun _ _ => ?_)
    refine TL.pure ((by first | exact PV.notD rfl | exact PV.not rfl)) rfl (by decide) ?_
    refine TL.pure (PV.pickF rfl rfl) rfl (by decide) ?_
    refine TL.nil ?_
    refine TQ.thenC ?_
    first | refine TC.condD rfl (fun hbad => ?_) (fun hbad => ?_) | refine TC.cond rfl (fun hbad => ?_) (fun hbad => ?_)
    · skip
      refine TC.seq ?_
      refine TC.region ?_
      refine TL.pure (PV.assign rfl) rfl (by decide) ?_
      refine TL.pure (PV.assign rfl) rfl (by decide) ?_
      refine TL.pure (PV.assign rfl) rfl (by decide) ?_
      refine TL.nil ?_
      refine TQ.thenC ?_
      refine TC.ret ?_
      refine TQ.thenR ?_
      refine TQ.retE3 rfl rfl rfl rfl ?_
      exact ⟨(), by rw [pth_no (fun h9 => by have := List.length_pos_iff.2 h9.1; omega)]; rfl, trivial, List.nil_sublist _⟩
    · skip
      have hgd : ks ≠ [] ∧ 1 ≤ am ∧ am ≤ 20 := ⟨fun e => a1 (by rw [e]; rfl), by omega, by omega⟩
      refine TC.skip ?_
      refine TQ.thenC ?_
      refine TC.seq ?_
      refine TC.seq ?_
      refine TC.region ?_
      refine TL.pure (PV.assign rfl) rfl (by decide) ?_
      refine TL.nil ?_
      refine TQ.thenC ?_
      refine TC.block ?_
      -- live and written in the loop, not told: [4, 5, 6]
      refine TC.lit [(2, _), (3, _), (7, _)] (by repeat (first | exact True.intro | refine And.intro rfl ?_)) ?_
      refine TC.loopK [2, 3] (X := Nat) (fun i => i ≤ ks.length ∧ (List.range i).all (okT rs ks) = true) (fun i => [(7, .int .i64 (i : Nat))]) (fun i => [(b1, Obj.cells #[.slice tp ks.length tc, .int .i64 am] 89 (0, 0)), (b0, Obj.cells #[.int .i64 (n : Nat), .int .i64 (s : Nat), .int .i64 (t : Nat), .slice p rs.length cap] 24 (0, 0))]) (fun i => ks.length - i) 0 ⟨Nat.zero_le _, rfl⟩ (by repeat (first | exact True.intro | refine And.intro rfl ?_)) (by repeat (first | exact List.Sublist.slnil | exact List.nil_sublist _ | exact List.Sublist.refl _ | refine List.Sublist.cons_cons _ ?_ | refine List.Sublist.cons _ ?_ | refine List.Sublist.trans ?_ (List.sublist_append_right _ _))) ?_
      intro i hi
      refine TC.lit [(2, _), (3, _), (7, _)] (by repeat (first | exact True.intro | refine And.intro rfl ?_)) ?_
      refine TC.seq ?_
      refine TC.seq ?_
      refine TC.region ?_
      refine TL.pure (PV.move rfl) rfl (by decide) ?_
      refine TL.pure (PV.fieldAddr rfl Tb.fo_89_0) rfl (by decide) ?_
      refine TL.pure (PV.load rfl Tb.one_25 (by repeat (first | exact List.Mem.head _ | refine List.Mem.tail _ ?_ | refine List.mem_append_right _ ?_)) rfl) rfl (by decide) ?_
      refine TL.pure (PV.len rfl Tb.sl_25) rfl (by decide) ?_
      refine TL.pure (PV.lss rfl rfl) rfl (by decide) ?_
      refine TL.nil ?_
      refine TQ.thenC ?_
      first | refine TC.condD rfl (fun hlt => ?_) (fun hlt => ?_) | refine TC.cond rfl (fun hlt => ?_) (fun hlt => ?_)
      · skip
        refine TC.skip ?_
        refine TQ.thenC ?_
        refine TC.seq ?_
        refine TC.block ?_
        refine TC.seq ?_
        refine TC.seq ?_
        have hil : i < ks.length := by omega
        obtain ⟨q1, q1p, q1v⟩ := hx i hil
        obtain ⟨q2, q2h⟩ := ixX hx (i - 1)
        obtain ⟨r1, r1h⟩ := rdX hr (ks.getD i 0)
        obtain ⟨r2, r2h⟩ := rdX hr (ks.getD (i - 1) 0)
        have hpv : 0 < i → 0 ≤ ks.getD (i - 1) 0 ∧ ks.getD (i - 1) 0 < rs.length := fun h => (okT_spec (all_get hi.2 (show i - 1 < i by omega))).1
        refine TC.mixV [true, true, true, true, true, true, true, true, true, false, true] [(b1, Obj.cells #[.slice tp ks.length tc, .int .i64 am] 89 (0, 0)), (b0, Obj.cells #[.int .i64 (n : Nat), .int .i64 (s : Nat), .int .i64 (t : Nat), .slice p rs.length cap] 24 (0, 0))] 11 Tb.mixed rfl (by kernel_rfl) (by kernel_rfl) (by kernel_rfl) (by kernel_rfl) (by repeat (first | exact List.Sublist.slnil | exact List.nil_sublist _ | exact List.Sublist.refl _ | refine List.Sublist.cons_cons _ ?_ | refine List.Sublist.cons _ ?_ | refine List.Sublist.trans ?_ (List.sublist_append_right _ _))) ?_
        refine TV.virt 0 rfl rfl (by decide) rfl (by kernel_rfl) (SOK.pure (PV.fieldAddr rfl Tb.fo_89_0) rfl) ?_
        refine TV.virt 1 rfl rfl (by decide) rfl (by kernel_rfl) (SOK.pure (PV.load rfl Tb.one_25 (by repeat (first | exact List.Mem.head _ | refine List.Mem.tail _ ?_ | refine List.mem_append_right _ ?_)) rfl) rfl) ?_
        refine TV.virt 2 rfl rfl (by decide) rfl (by kernel_rfl) (SOK.pure (PV.move rfl) rfl) ?_
        refine TV.virt 3 rfl rfl (by decide) rfl (by kernel_rfl) (SOK.pure (PV.indexA rfl q1p rfl Tb.elm_25 rfl (by omega)) rfl) ?_
        refine TV.virt 4 rfl rfl (by decide) rfl (by kernel_rfl) (SOK.pure (PV.loadOld rfl Tb.one_3 q1v) rfl) ?_
        refine TV.virt 5 rfl rfl (by decide) rfl (by kernel_rfl) (SOK.pure (PV.fieldAddr rfl Tb.fo_24_3) rfl) ?_
        refine TV.virt 6 rfl rfl (by decide) rfl (by kernel_rfl) (SOK.pure (PV.load rfl Tb.one_22 (by repeat (first | exact List.Mem.head _ | refine List.Mem.tail _ ?_ | refine List.mem_append_right _ ?_)) rfl) rfl) ?_
        refine TV.virt 7 rfl rfl (by decide) rfl (by kernel_rfl) (SOK.pure (PV.len rfl Tb.sl_22) rfl) ?_
        refine TV.virt 8 rfl rfl (by decide) rfl (by kernel_rfl) (SOK.pure (PV.sub rfl rfl (by omega)) rfl) ?_
        refine TV.step [9] (by kernel_rfl) (by decide) rfl ⟨⟨_, rfl, ?_⟩, trivial⟩
        refine TL.call rfl Tb.gofn_57 (fun a w hs => within_ok _ _ _ _) rfl (by decide) (fun _ _ => ?_)
        refine TL.nil ?_
        refine TV.next (.inl (by repeat (first | exact List.Sublist.slnil | exact List.nil_sublist _ | exact List.Sublist.refl _ | refine List.Sublist.cons_cons _ ?_ | refine List.Sublist.cons _ ?_ | refine List.Sublist.trans ?_ (List.sublist_append_right _ _)))) ?_
        refine TV.virt 10 rfl rfl (by decide) rfl (by kernel_rfl) (SOK.pure ((by first | exact PV.notD rfl | exact PV.not rfl)) rfl) ?_
        refine TV.done (by kernel_rfl) ?_
        refine TQ.thenC ?_
        first | refine TC.condD rfl (fun hb2 => ?_) (fun hb2 => ?_) | refine TC.cond rfl (fun hb2 => ?_) (fun hb2 => ?_)
        · skip
          refine TC.seq ?_
          refine TC.region ?_
          refine TL.pure (PV.assign rfl) rfl (by decide) ?_
          refine TL.pure (PV.assign rfl) rfl (by decide) ?_
          refine TL.pure (PV.assign rfl) rfl (by decide) ?_
          refine TL.nil ?_
          refine TQ.thenC ?_
          refine TC.ret ?_
          refine TQ.thenR ?_
          refine TQ.blkR ?_
          refine TQ.thenR ?_
          refine TQ.thenR ?_
          refine TQ.blkR ?_
          refine TQ.thenR ?_
          refine TQ.retE3 rfl rfl rfl rfl ?_
          exact ⟨(), by rw [pth_bad hil (fun h9 => by omega)]; rfl, trivial, List.nil_sublist _⟩
        · skip
          have hin : 0 ≤ ks.getD i 0 ∧ ks.getD i 0 < rs.length := by omega
          refine TC.skip ?_
          refine TQ.thenC ?_
          refine TC.seq ?_
          refine TC.seq ?_
          refine TC.region ?_
          refine TL.pure (PV.assign rfl) rfl (by decide) ?_
          refine TL.nil ?_
          refine TQ.thenC ?_
          refine TC.block ?_
          -- live and written in the loop, not told: [4, 5, 6]
          refine TC.lit [(2, _), (3, _), (7, _), (8, _)] (by repeat (first | exact True.intro | refine And.intro rfl ?_)) ?_
          refine TC.loopK [2, 3, 7] (X := Nat) (fun j => j ≤ i ∧ ∀ j9, j9 < j → ks.getD j9 0 ≠ ks.getD i 0) (fun j => [(8, .int .i64 (j : Nat))]) (fun j => [(b1, Obj.cells #[.slice tp ks.length tc, .int .i64 am] 89 (0, 0)), (b0, Obj.cells #[.int .i64 (n : Nat), .int .i64 (s : Nat), .int .i64 (t : Nat), .slice p rs.length cap] 24 (0, 0))]) (fun j => i - j) 0 ⟨Nat.zero_le _, fun j9 h9 => absurd h9 (Nat.not_lt_zero _)⟩ (by repeat (first | exact True.intro | refine And.intro rfl ?_)) (by repeat (first | exact List.Sublist.slnil | exact List.nil_sublist _ | exact List.Sublist.refl _ | refine List.Sublist.cons_cons _ ?_ | refine List.Sublist.cons _ ?_ | refine List.Sublist.trans ?_ (List.sublist_append_right _ _))) ?_
          intro j hj
          refine TC.lit [(2, _), (3, _), (7, _), (8, _)] (by repeat (first | exact True.intro | refine And.intro rfl ?_)) ?_
          refine TC.seq ?_
          refine TC.seq ?_
          refine TC.region ?_
          refine TL.pure (PV.move rfl) rfl (by decide) ?_
          refine TL.pure (PV.move rfl) rfl (by decide) ?_
          refine TL.pure (PV.lss rfl rfl) rfl (by decide) ?_
          refine TL.nil ?_
          refine TQ.thenC ?_
          first | refine TC.condD rfl (fun hlt2 => ?_) (fun hlt2 => ?_) | refine TC.cond rfl (fun hlt2 => ?_) (fun hlt2 => ?_)
          · skip
            refine TC.skip ?_
            refine TQ.thenC ?_
            refine TC.seq ?_
            refine TC.block ?_
            refine TC.seq ?_
            obtain ⟨q3, q3p, q3v⟩ := hx j (by omega)
            refine TC.mixV [true, true, true, true, true, true, true, true, true, true, true] [(b1, Obj.cells #[.slice tp ks.length tc, .int .i64 am] 89 (0, 0)), (b0, Obj.cells #[.int .i64 (n : Nat), .int .i64 (s : Nat), .int .i64 (t : Nat), .slice p rs.length cap] 24 (0, 0))] 11 Tb.mixed rfl (by kernel_rfl) (by kernel_rfl) (by kernel_rfl) (by kernel_rfl) (by repeat (first | exact List.Sublist.slnil | exact List.nil_sublist _ | exact List.Sublist.refl _ | refine List.Sublist.cons_cons _ ?_ | refine List.Sublist.cons _ ?_ | refine List.Sublist.trans ?_ (List.sublist_append_right _ _))) ?_
            refine TV.virt 0 rfl rfl (by decide) rfl (by kernel_rfl) (SOK.pure (PV.fieldAddr rfl Tb.fo_89_0) rfl) ?_
            refine TV.virt 1 rfl rfl (by decide) rfl (by kernel_rfl) (SOK.pure (PV.load rfl Tb.one_25 (by repeat (first | exact List.Mem.head _ | refine List.Mem.tail _ ?_ | refine List.mem_append_right _ ?_)) rfl) rfl) ?_
            refine TV.virt 2 rfl rfl (by decide) rfl (by kernel_rfl) (SOK.pure (PV.move rfl) rfl) ?_
            refine TV.virt 3 rfl rfl (by decide) rfl (by kernel_rfl) (SOK.pure (PV.indexA rfl q3p rfl Tb.elm_25 rfl (by omega)) rfl) ?_
            refine TV.virt 4 rfl rfl (by decide) rfl (by kernel_rfl) (SOK.pure (PV.loadOld rfl Tb.one_3 q3v) rfl) ?_
            refine TV.virt 5 rfl rfl (by decide) rfl (by kernel_rfl) (SOK.pure (PV.fieldAddr rfl Tb.fo_89_0) rfl) ?_
            refine TV.virt 6 rfl rfl (by decide) rfl (by kernel_rfl) (SOK.pure (PV.load rfl Tb.one_25 (by repeat (first | exact List.Mem.head _ | refine List.Mem.tail _ ?_ | refine List.mem_append_right _ ?_)) rfl) rfl) ?_
            refine TV.virt 7 rfl rfl (by decide) rfl (by kernel_rfl) (SOK.pure (PV.move rfl) rfl) ?_
            refine TV.virt 8 rfl rfl (by decide) rfl (by kernel_rfl) (SOK.pure (PV.indexA rfl q1p rfl Tb.elm_25 rfl (by omega)) rfl) ?_
            refine TV.virt 9 rfl rfl (by decide) rfl (by kernel_rfl) (SOK.pure (PV.loadOld rfl Tb.one_3 q1v) rfl) ?_
            refine TV.virt 10 rfl rfl (by decide) rfl (by kernel_rfl) (SOK.pure (PV.eql rfl rfl) rfl) ?_
            refine TV.done (by kernel_rfl) ?_
            refine TQ.thenC ?_
            first | refine TC.condD rfl (fun heq => ?_) (fun heq => ?_) | refine TC.cond rfl (fun heq => ?_) (fun heq => ?_)
            · skip
              refine TC.seq ?_
              refine TC.region ?_
              refine TL.pure (PV.assign rfl) rfl (by decide) ?_
              refine TL.pure (PV.assign rfl) rfl (by decide) ?_
              refine TL.pure (PV.assign rfl) rfl (by decide) ?_
              refine TL.nil ?_
              refine TQ.thenC ?_
              refine TC.ret ?_
              refine TQ.blkR ?_
              refine TQ.thenR ?_
              refine TQ.thenR ?_
              refine TQ.blkR ?_
              refine TQ.thenR ?_
              refine TQ.blkR ?_
              refine TQ.thenR ?_
              refine TQ.thenR ?_
              refine TQ.blkR ?_
              refine TQ.thenR ?_
              refine TQ.retE3 rfl rfl rfl rfl ?_
              exact ⟨(), by rw [pth_bad hil (fun h9 => h9.2.1 (heq ▸ in_take (by omega) (by omega)))]; rfl, trivial, List.nil_sublist _⟩
            · skip
              refine TC.skip ?_
              refine TQ.blkN ?_
              refine TQ.thenC ?_
              refine TC.region ?_
              refine TL.pure (PV.move rfl) rfl (by decide) ?_
              refine TL.pure (PV.add rfl rfl (by omega)) rfl (by decide) ?_
              refine TL.pure (PV.assign rfl) rfl (by decide) ?_
              refine TL.nil ?_
              refine TQ.thenN ?_
              refine TQ.backK (j + 1) (by repeat (first | exact True.intro | refine And.intro rfl ?_)) (by repeat (first | exact True.intro | refine And.intro rfl ?_)) (by repeat (first | exact List.Sublist.slnil | exact List.nil_sublist _ | exact List.Sublist.refl _ | refine List.Sublist.cons_cons _ ?_ | refine List.Sublist.cons _ ?_ | refine List.Sublist.trans ?_ (List.sublist_append_right _ _))) ⟨by omega, fun j9 h9 => by
                by_cases e9 : j9 = j
                · subst e9; exact heq
                · exact hj.2 j9 (by omega)⟩ (by omega)
          · skip
            refine TC.exit ?_
            refine TQ.thenE ?_
            refine TQ.thenE ?_
            refine TQ.blkS ?_
            refine TQ.thenC ?_
            refine TC.seq ?_
            have hnd := not_take (i := i) (v := ks.getD i 0) (by omega) (fun j9 h9 => hj.2 j9 (by omega))
            refine TC.mixV [true, true, true, true, true, true, true, true, true, true, true, true, true, true, true, true, true, true, true, true, true, true, true, true, true, true] [(b1, Obj.cells #[.slice tp ks.length tc, .int .i64 am] 89 (0, 0)), (b0, Obj.cells #[.int .i64 (n : Nat), .int .i64 (s : Nat), .int .i64 (t : Nat), .slice p rs.length cap] 24 (0, 0))] 26 Tb.mixed rfl (by kernel_rfl) (by kernel_rfl) (by kernel_rfl) (by kernel_rfl) (by repeat (first | exact List.Sublist.slnil | exact List.nil_sublist _ | exact List.Sublist.refl _ | refine List.Sublist.cons_cons _ ?_ | refine List.Sublist.cons _ ?_ | refine List.Sublist.trans ?_ (List.sublist_append_right _ _))) ?_
            refine TV.virt 0 rfl rfl (by decide) rfl (by kernel_rfl) (SOK.pure (PV.move rfl) rfl) ?_
            refine TV.virt 1 rfl rfl (by decide) rfl (by kernel_rfl) (SOK.pure (PV.gtr rfl rfl) rfl) ?_
            refine TV.virt 2 rfl rfl (by decide) rfl (by kernel_rfl) (SOK.pure (PV.move rfl) rfl) ?_
            first | refine TV.splitD 55 rfl (fun c1 => ?_) (fun c1 => ?_) | refine TV.split 55 rfl (fun c1 => ?_) (fun c1 => ?_)
            · skip
              refine TV.virt 3 rfl rfl (by decide) rfl (by kernel_rfl) (SOK.pure (PV.fieldAddr rfl Tb.fo_24_3) rfl) ?_
              refine TV.virt 4 rfl rfl (by decide) rfl (by kernel_rfl) (SOK.pure (PV.load rfl Tb.one_22 (by repeat (first | exact List.Mem.head _ | refine List.Mem.tail _ ?_ | refine List.mem_append_right _ ?_)) rfl) rfl) ?_
              refine TV.virt 5 rfl rfl (by decide) rfl (by kernel_rfl) (SOK.pure (PV.fieldAddr rfl Tb.fo_89_0) rfl) ?_
              refine TV.virt 6 rfl rfl (by decide) rfl (by kernel_rfl) (SOK.pure (PV.load rfl Tb.one_25 (by repeat (first | exact List.Mem.head _ | refine List.Mem.tail _ ?_ | refine List.mem_append_right _ ?_)) rfl) rfl) ?_
              refine TV.virt 7 rfl rfl (by decide) rfl (by kernel_rfl) (SOK.pure (PV.move rfl) rfl) ?_
              refine TV.virt 8 rfl rfl (by decide) rfl (by kernel_rfl) (SOK.pure (PV.sub rfl rfl (by omega)) rfl) ?_
              refine TV.virt 9 rfl rfl (by decide) rfl (by kernel_rfl) (SOK.pure (PV.indexA (j := i - 1) rfl (q2h (by omega)).1 rfl Tb.elm_25 (by omega) (by omega)) rfl) ?_
              refine TV.virt 10 rfl rfl (by decide) rfl (by kernel_rfl) (SOK.pure (PV.loadOld rfl Tb.one_3 (q2h (by omega)).2) rfl) ?_
              refine TV.virt 11 rfl rfl (by decide) rfl (by kernel_rfl) (SOK.pure (PV.indexA (j := (ks.getD (i - 1) 0).toNat) rfl (r2h (hpv (by omega))).1 rfl Tb.elm_22 (by have := hpv (by omega); omega) (by have := hpv (by omega); omega)) rfl) ?_
              refine TV.virt 12 rfl rfl (by decide) rfl (by kernel_rfl) (SOK.pure (PV.fieldAddrA rfl Tb.fo_40_1) rfl) ?_
              refine TV.virt 13 rfl rfl (by decide) rfl (by kernel_rfl) (SOK.pure (PV.loadOld rfl Tb.one_3 ((r2h (hpv (by omega))).2 1 _ rfl)) rfl) ?_
              refine TV.virt 14 rfl rfl (by decide) rfl (by kernel_rfl) (SOK.pure (PV.fieldAddr rfl Tb.fo_24_3) rfl) ?_
              refine TV.virt 15 rfl rfl (by decide) rfl (by kernel_rfl) (SOK.pure (PV.load rfl Tb.one_22 (by repeat (first | exact List.Mem.head _ | refine List.Mem.tail _ ?_ | refine List.mem_append_right _ ?_)) rfl) rfl) ?_
              refine TV.virt 16 rfl rfl (by decide) rfl (by kernel_rfl) (SOK.pure (PV.fieldAddr rfl Tb.fo_89_0) rfl) ?_
              refine TV.virt 17 rfl rfl (by decide) rfl (by kernel_rfl) (SOK.pure (PV.load rfl Tb.one_25 (by repeat (first | exact List.Mem.head _ | refine List.Mem.tail _ ?_ | refine List.mem_append_right _ ?_)) rfl) rfl) ?_
              refine TV.virt 18 rfl rfl (by decide) rfl (by kernel_rfl) (SOK.pure (PV.move rfl) rfl) ?_
              refine TV.virt 19 rfl rfl (by decide) rfl (by kernel_rfl) (SOK.pure (PV.indexA rfl q1p rfl Tb.elm_25 rfl (by omega)) rfl) ?_
              refine TV.virt 20 rfl rfl (by decide) rfl (by kernel_rfl) (SOK.pure (PV.loadOld rfl Tb.one_3 q1v) rfl) ?_
              refine TV.virt 21 rfl rfl (by decide) rfl (by kernel_rfl) (SOK.pure (PV.indexA (j := (ks.getD i 0).toNat) rfl (r1h hin).1 rfl Tb.elm_22 (by omega) (by omega)) rfl) ?_
              refine TV.virt 22 rfl rfl (by decide) rfl (by kernel_rfl) (SOK.pure (PV.fieldAddrA rfl Tb.fo_40_0) rfl) ?_
              refine TV.virt 23 rfl rfl (by decide) rfl (by kernel_rfl) (SOK.pure (PV.loadOld rfl Tb.one_3 ((r1h hin).2 0 _ rfl)) rfl) ?_
              refine TV.virt 24 rfl rfl (by decide) rfl (by kernel_rfl) (SOK.pure (PV.neq rfl rfl) rfl) ?_
              refine TV.virt 25 rfl rfl (by decide) rfl (by kernel_rfl) (SOK.pure (PV.pickT rfl rfl) rfl) ?_
              refine TV.done (by kernel_rfl) ?_
              refine TQ.thenC ?_
              first | refine TC.condD rfl (fun hno => ?_) (fun hno => ?_) | refine TC.cond rfl (fun hno => ?_) (fun hno => ?_)
              · skip
                refine TC.seq ?_
                refine TC.region ?_
                refine TL.pure (PV.assign rfl) rfl (by decide) ?_
                refine TL.pure (PV.assign rfl) rfl (by decide) ?_
                refine TL.pure (PV.assign rfl) rfl (by decide) ?_
                refine TL.nil ?_
                refine TQ.thenC ?_
                refine TC.ret ?_
                refine TQ.blkR ?_
                refine TQ.thenR ?_
                refine TQ.thenR ?_
                refine TQ.blkR ?_
                refine TQ.thenR ?_
                refine TQ.retE3 rfl rfl rfl rfl ?_
                exact ⟨(), by rw [pth_bad hil (fun h9 => h9.2.2.elim (fun h8 => absurd h8 (by omega)) (fun h8 => hno (show (rs.getD (ks.getD (i - 1) 0).toNat default).b = (rs.getD (ks.getD i 0).toNat default).a from h8)))]; rfl, trivial, List.nil_sublist _⟩
              · skip
                have hok : okT rs ks i = true := decide_eq_true ⟨hin, hnd, .inr (show (rs.getD (ks.getD (i - 1) 0).toNat default).b = (rs.getD (ks.getD i 0).toNat default).a from by omega)⟩
                refine TC.skip ?_
                refine TQ.blkN ?_
                refine TQ.thenC ?_
                refine TC.region ?_
                refine TL.pure (PV.move rfl) rfl (by decide) ?_
                refine TL.pure (PV.add rfl rfl (by omega)) rfl (by decide) ?_
                refine TL.pure (PV.assign rfl) rfl (by decide) ?_
                refine TL.nil ?_
                refine TQ.thenN ?_
                refine TQ.backK (i + 1) (by repeat (first | exact True.intro | refine And.intro rfl ?_)) (by repeat (first | exact True.intro | refine And.intro rfl ?_)) (by repeat (first | exact List.Sublist.slnil | exact List.nil_sublist _ | exact List.Sublist.refl _ | refine List.Sublist.cons_cons _ ?_ | refine List.Sublist.cons _ ?_ | refine List.Sublist.trans ?_ (List.sublist_append_right _ _))) ⟨by omega, all_next hi.2 hok⟩ (by omega)
            · skip
              refine TV.virt 3 rfl rfl (by decide) rfl (by kernel_rfl) (SOK.skip rfl) ?_
              refine TV.virt 4 rfl rfl (by decide) rfl (by kernel_rfl) (SOK.skip rfl) ?_
              refine TV.virt 5 rfl rfl (by decide) rfl (by kernel_rfl) (SOK.skip rfl) ?_
              refine TV.virt 6 rfl rfl (by decide) rfl (by kernel_rfl) (SOK.skip rfl) ?_
              refine TV.virt 7 rfl rfl (by decide) rfl (by kernel_rfl) (SOK.skip rfl) ?_
              refine TV.virt 8 rfl rfl (by decide) rfl (by kernel_rfl) (SOK.skip rfl) ?_
              refine TV.virt 9 rfl rfl (by decide) rfl (by kernel_rfl) (SOK.skip rfl) ?_
              refine TV.virt 10 rfl rfl (by decide) rfl (by kernel_rfl) (SOK.skip rfl) ?_
              refine TV.virt 11 rfl rfl (by decide) rfl (by kernel_rfl) (SOK.skip rfl) ?_
              refine TV.virt 12 rfl rfl (by decide) rfl (by kernel_rfl) (SOK.skip rfl) ?_
              refine TV.virt 13 rfl rfl (by decide) rfl (by kernel_rfl) (SOK.skip rfl) ?_
              refine TV.virt 14 rfl rfl (by decide) rfl (by kernel_rfl) (SOK.skip rfl) ?_
              refine TV.virt 15 rfl rfl (by decide) rfl (by kernel_rfl) (SOK.skip rfl) ?_
              refine TV.virt 16 rfl rfl (by decide) rfl (by kernel_rfl) (SOK.skip rfl) ?_
              refine TV.virt 17 rfl rfl (by decide) rfl (by kernel_rfl) (SOK.skip rfl) ?_
              refine TV.virt 18 rfl rfl (by decide) rfl (by kernel_rfl) (SOK.skip rfl) ?_
              refine TV.virt 19 rfl rfl (by decide) rfl (by kernel_rfl) (SOK.skip rfl) ?_
              refine TV.virt 20 rfl rfl (by decide) rfl (by kernel_rfl) (SOK.skip rfl) ?_
              refine TV.virt 21 rfl rfl (by decide) rfl (by kernel_rfl) (SOK.skip rfl) ?_
              refine TV.virt 22 rfl rfl (by decide) rfl (by kernel_rfl) (SOK.skip rfl) ?_
              refine TV.virt 23 rfl rfl (by decide) rfl (by kernel_rfl) (SOK.skip rfl) ?_
              refine TV.virt 24 rfl rfl (by decide) rfl (by kernel_rfl) (SOK.skip rfl) ?_
              refine TV.virt 25 rfl rfl (by decide) rfl (by kernel_rfl) (SOK.pure (PV.pickF rfl rfl) rfl) ?_
              refine TV.done (by kernel_rfl) ?_
              refine TQ.thenC ?_
              refine TC.condF rfl ?_
              have hok : okT rs ks i = true := decide_eq_true ⟨hin, hnd, .inl (by omega)⟩
              refine TC.skip ?_
              refine TQ.blkN ?_
              refine TQ.thenC ?_
              refine TC.region ?_
              refine TL.pure (PV.move rfl) rfl (by decide) ?_
              refine TL.pure (PV.add rfl rfl (by omega)) rfl (by decide) ?_
              refine TL.pure (PV.assign rfl) rfl (by decide) ?_
              refine TL.nil ?_
              refine TQ.thenN ?_
              refine TQ.backK (i + 1) (by repeat (first | exact True.intro | refine And.intro rfl ?_)) (by repeat (first | exact True.intro | refine And.intro rfl ?_)) (by repeat (first | exact List.Sublist.slnil | exact List.nil_sublist _ | exact List.Sublist.refl _ | refine List.Sublist.cons_cons _ ?_ | refine List.Sublist.cons _ ?_ | refine List.Sublist.trans ?_ (List.sublist_append_right _ _))) ⟨by omega, all_next hi.2 hok⟩ (by omega)
      · skip
        refine TC.exit ?_
        refine TQ.thenE ?_
        refine TQ.thenE ?_
        refine TQ.blkS ?_
        refine TQ.thenC ?_
        refine TC.seq ?_
        have hie : i = ks.length := by have := hi.1; omega
        have hp := pth_yes hgd (hie ▸ hi.2)
        have h0 := pth_len hp
        have v0 := pth_at hp h0
        have v1 := pth_at hp (show ks.length - 1 < ks.length by omega)
        obtain ⟨q0, q0p, q0v⟩ := hx 0 h0
        obtain ⟨q1, q1p, q1v⟩ := hx (ks.length - 1) (by omega)
        obtain ⟨r0, r0p, r0v⟩ := hr (ks.getD 0 0).toNat (by omega)
        obtain ⟨r1, r1p, r1v⟩ := hr (ks.getD (ks.length - 1) 0).toNat (by omega)
        refine TC.mixV [true, true, true, true, true, true, true, true, true, true, true, true, true, true, true, true, true, true, true, true, true, true, true, true, true] [(b1, Obj.cells #[.slice tp ks.length tc, .int .i64 am] 89 (0, 0)), (b0, Obj.cells #[.int .i64 (n : Nat), .int .i64 (s : Nat), .int .i64 (t : Nat), .slice p rs.length cap] 24 (0, 0))] 25 Tb.mixed rfl (by kernel_rfl) (by kernel_rfl) (by kernel_rfl) (by kernel_rfl) (by repeat (first | exact List.Sublist.slnil | exact List.nil_sublist _ | exact List.Sublist.refl _ | refine List.Sublist.cons_cons _ ?_ | refine List.Sublist.cons _ ?_ | refine List.Sublist.trans ?_ (List.sublist_append_right _ _))) ?_
        refine TV.virt 0 rfl rfl (by decide) rfl (by kernel_rfl) (SOK.pure (PV.fieldAddr rfl Tb.fo_24_3) rfl) ?_
        refine TV.virt 1 rfl rfl (by decide) rfl (by kernel_rfl) (SOK.pure (PV.load rfl Tb.one_22 (by repeat (first | exact List.Mem.head _ | refine List.Mem.tail _ ?_ | refine List.mem_append_right _ ?_)) rfl) rfl) ?_
        refine TV.virt 2 rfl rfl (by decide) rfl (by kernel_rfl) (SOK.pure (PV.fieldAddr rfl Tb.fo_89_0) rfl) ?_
        refine TV.virt 3 rfl rfl (by decide) rfl (by kernel_rfl) (SOK.pure (PV.load rfl Tb.one_25 (by repeat (first | exact List.Mem.head _ | refine List.Mem.tail _ ?_ | refine List.mem_append_right _ ?_)) rfl) rfl) ?_
        refine TV.virt 4 rfl rfl (by decide) rfl (by kernel_rfl) (SOK.pure (PV.indexA (j := 0) rfl q0p rfl Tb.elm_25 rfl h0) rfl) ?_
        refine TV.virt 5 rfl rfl (by decide) rfl (by kernel_rfl) (SOK.pure (PV.loadOld rfl Tb.one_3 q0v) rfl) ?_
        refine TV.virt 6 rfl rfl (by decide) rfl (by kernel_rfl) (SOK.pure (PV.indexA (j := (ks.getD 0 0).toNat) rfl r0p rfl Tb.elm_22 (by omega) (by omega)) rfl) ?_
        refine TV.virt 7 rfl rfl (by decide) rfl (by kernel_rfl) (SOK.pure (PV.fieldAddrA rfl Tb.fo_40_0) rfl) ?_
        refine TV.virt 8 rfl rfl (by decide) rfl (by kernel_rfl) (SOK.pure (PV.loadOld rfl Tb.one_3 (r0v 0 _ rfl)) rfl) ?_
        refine TV.virt 9 rfl rfl (by decide) rfl (by kernel_rfl) (SOK.pure (PV.fieldAddr rfl Tb.fo_24_3) rfl) ?_
        refine TV.virt 10 rfl rfl (by decide) rfl (by kernel_rfl) (SOK.pure (PV.load rfl Tb.one_22 (by repeat (first | exact List.Mem.head _ | refine List.Mem.tail _ ?_ | refine List.mem_append_right _ ?_)) rfl) rfl) ?_
        refine TV.virt 11 rfl rfl (by decide) rfl (by kernel_rfl) (SOK.pure (PV.fieldAddr rfl Tb.fo_89_0) rfl) ?_
        refine TV.virt 12 rfl rfl (by decide) rfl (by kernel_rfl) (SOK.pure (PV.load rfl Tb.one_25 (by repeat (first | exact List.Mem.head _ | refine List.Mem.tail _ ?_ | refine List.mem_append_right _ ?_)) rfl) rfl) ?_
        refine TV.virt 13 rfl rfl (by decide) rfl (by kernel_rfl) (SOK.pure (PV.fieldAddr rfl Tb.fo_89_0) rfl) ?_
        refine TV.virt 14 rfl rfl (by decide) rfl (by kernel_rfl) (SOK.pure (PV.load rfl Tb.one_25 (by repeat (first | exact List.Mem.head _ | refine List.Mem.tail _ ?_ | refine List.mem_append_right _ ?_)) rfl) rfl) ?_
        refine TV.virt 15 rfl rfl (by decide) rfl (by kernel_rfl) (SOK.pure (PV.len rfl Tb.sl_25) rfl) ?_
        refine TV.virt 16 rfl rfl (by decide) rfl (by kernel_rfl) (SOK.pure (PV.sub rfl rfl (by omega)) rfl) ?_
        refine TV.virt 17 rfl rfl (by decide) rfl (by kernel_rfl) (SOK.pure (PV.indexA (j := ks.length - 1) rfl q1p rfl Tb.elm_25 (by omega) (by omega)) rfl) ?_
        refine TV.virt 18 rfl rfl (by decide) rfl (by kernel_rfl) (SOK.pure (PV.loadOld rfl Tb.one_3 q1v) rfl) ?_
        refine TV.virt 19 rfl rfl (by decide) rfl (by kernel_rfl) (SOK.pure (PV.indexA (j := (ks.getD (ks.length - 1) 0).toNat) rfl r1p rfl Tb.elm_22 (by omega) (by omega)) rfl) ?_
        refine TV.virt 20 rfl rfl (by decide) rfl (by kernel_rfl) (SOK.pure (PV.fieldAddrA rfl Tb.fo_40_1) rfl) ?_
        refine TV.virt 21 rfl rfl (by decide) rfl (by kernel_rfl) (SOK.pure (PV.loadOld rfl Tb.one_3 (r1v 1 _ rfl)) rfl) ?_
        refine TV.virt 22 rfl rfl (by decide) rfl (by kernel_rfl) (SOK.pure (PV.assign rfl) rfl) ?_
        refine TV.virt 23 rfl rfl (by decide) rfl (by kernel_rfl) (SOK.pure (PV.assign rfl) rfl) ?_
        refine TV.virt 24 rfl rfl (by decide) rfl (by kernel_rfl) (SOK.pure (PV.assign rfl) rfl) ?_
        refine TV.done (by kernel_rfl) ?_
        refine TQ.thenC ?_
        refine TC.ret ?_
        refine TQ.retE3 rfl rfl rfl rfl ?_
        exact ⟨(), by rw [hp]; rfl, trivial, List.nil_sublist _⟩

set_option maxRecDepth 100000 in
theorem rIsWay_ok (w0 : World) (n s t : Nat) (p : Option Addr) (cap : Nat) (rs : List Bd) (hr : BdsAt w0 p rs) (tp : Option Addr) (tc : Nat) (ks : List Int) (am : Int) (hx : IntsAt w0 tp ks) (hl : ks.length ≤ 1000) (hlen : rs.length ≤ 1000) :
    Calls Try.prog 83 #[dnV n s t p rs.length cap, .agg #[.slice tp ks.length tc, .int .i64 am]] w0 (Post (X := Unit) (fun _ => .bool (pthB rs ks am && wayB s t rs ks)) (fun _ => True) (fun _ => []) w0) := by
  refine calls Try.func83 rfl (n := 28) rfl (by simp) ?_
  refine TC.seq ?_
  refine TC.region ?_
  refine TL.box rfl rfl (by decide) (fun b0 hb0 => ?_)
  refine TL.box rfl rfl (by decide) (fun b1 hb1 => ?_)
  refine TL.pure (PV.assign rfl) rfl (by decide) ?_
  refine TL.nil ?_
  refine TQ.thenC ?_
  refine TC.seq ?_
  refine TC.region ?_
  refine TL.pure (PV.loadBox rfl Tb.agg_24 (by repeat (first | exact List.Mem.head _ | refine List.Mem.tail _ ?_ | refine List.mem_append_right _ ?_)) rfl) rfl (by decide) ?_
  refine TL.pure (PV.loadBox rfl Tb.agg_89 (by repeat (first | exact List.Mem.head _ | refine List.Mem.tail _ ?_ | refine List.mem_append_right _ ?_)) rfl) rfl (by decide) ?_
  refine TL.call rfl Tb.gofn_93 (fun a w hs => Path_ok w n s t p cap rs (hr.new hs.new) tp tc ks am (hx.new hs.new) hl hlen) rfl (by decide) (fun _ _ => ?_)
  refine TL.pure (PV.move rfl) rfl (by decide) ?_
  refine TL.pure (PV.extract rfl rfl) rfl (by decide) ?_
  refine TL.pure (PV.extract rfl rfl) rfl (by decide) ?_
  refine TL.pure (PV.extract rfl rfl) rfl (by decide) ?_
  refine TL.pure (PV.assign rfl) rfl (by decide) ?_
  refine TL.pure (PV.assign rfl) rfl (by decide) ?_
  refine TL.pure (PV.assign rfl) rfl (by decide) ?_
  refine TL.nil ?_
  refine TQ.thenC ?_
  refine TC.seq ?_
  refine TC.region ?_
  refine TL.pure (PV.move rfl) rfl (by decide) ?_
  refine TL.pure (PV.move rfl) rfl (by decide) ?_
  first | refine TL.splitD 16 rfl (fun e1 => ?_) (fun e1 => ?_) | refine TL.split 16 rfl (fun e1 => ?_) (fun e1 => ?_)
  · skip
    refine TL.pure (PV.move rfl) rfl (by decide) ?_
    refine TL.pure (PV.fieldAddr rfl Tb.fo_24_1) rfl (by decide) ?_
    refine TL.pure (PV.load rfl Tb.one_3 (by repeat (first | exact List.Mem.head _ | refine List.Mem.tail _ ?_ | refine List.mem_append_right _ ?_)) rfl) rfl (by decide) ?_
    refine TL.pure (PV.eql rfl rfl) rfl (by decide) ?_
    refine TL.pure (PV.pickT rfl rfl) rfl (by decide) ?_
    refine TL.pure (PV.move rfl) rfl (by decide) ?_
    first | refine TL.splitD 22 rfl (fun e2 => ?_) (fun e2 => ?_) | refine TL.split 22 rfl (fun e2 => ?_) (fun e2 => ?_)
    · skip
      refine TL.pure (PV.move rfl) rfl (by decide) ?_
      refine TL.pure (PV.fieldAddr rfl Tb.fo_24_2) rfl (by decide) ?_
      refine TL.pure (PV.load rfl Tb.one_3 (by repeat (first | exact List.Mem.head _ | refine List.Mem.tail _ ?_ | refine List.mem_append_right _ ?_)) rfl) rfl (by decide) ?_
      refine TL.pure (PV.eql rfl rfl) rfl (by decide) ?_
      refine TL.pure (PV.pickT rfl rfl) rfl (by decide) ?_
      refine TL.pure (PV.assign rfl) rfl (by decide) ?_
      refine TL.nil ?_
      refine TQ.thenC ?_
      refine TC.ret ?_
      refine TQ.retE1 rfl rfl ?_
      exact ⟨(), congrArg Value.bool (by unfold wayB; simp_all), trivial, List.nil_sublist _⟩
    · skip
      refine TL.skip rfl (fun k hk => by cases hk; decide) ?_
      refine TL.skip rfl (fun k hk => by cases hk; decide) ?_
      refine TL.skip rfl (fun k hk => by cases hk; decide) ?_
      refine TL.skip rfl (fun k hk => by cases hk; decide) ?_
      refine TL.pure (PV.pickF rfl rfl) rfl (by decide) ?_
      refine TL.pure (PV.assign rfl) rfl (by decide) ?_
      refine TL.nil ?_
      refine TQ.thenC ?_
      refine TC.ret ?_
      refine TQ.retE1 rfl rfl ?_
      exact ⟨(), congrArg Value.bool (by unfold wayB; simp_all), trivial, List.nil_sublist _⟩
  · skip
    refine TL.skip rfl (fun k hk => by cases hk; decide) ?_
    refine TL.skip rfl (fun k hk => by cases hk; decide) ?_
    refine TL.skip rfl (fun k hk => by cases hk; decide) ?_
    refine TL.skip rfl (fun k hk => by cases hk; decide) ?_
    refine TL.pure (PV.pickF rfl rfl) rfl (by decide) ?_
    refine TL.pure (PV.move rfl) rfl (by decide) ?_
    refine TL.skip rfl (fun k hk => by cases hk; decide) ?_
    refine TL.skip rfl (fun k hk => by cases hk; decide) ?_
    refine TL.skip rfl (fun k hk => by cases hk; decide) ?_
    refine TL.skip rfl (fun k hk => by cases hk; decide) ?_
    refine TL.pure (PV.pickF rfl rfl) rfl (by decide) ?_
    refine TL.pure (PV.assign rfl) rfl (by decide) ?_
    refine TL.nil ?_
    refine TQ.thenC ?_
    refine TC.ret ?_
    refine TQ.retE1 rfl rfl ?_
    exact ⟨(), congrArg Value.bool (by unfold wayB; simp_all), trivial, List.nil_sublist _⟩

set_option maxRecDepth 100000 in
theorem rIsRound_ok (w0 : World) (n s t : Nat) (p : Option Addr) (cap : Nat) (rs : List Bd) (hr : BdsAt w0 p rs) (tp : Option Addr) (tc : Nat) (ks : List Int) (am : Int) (hx : IntsAt w0 tp ks) (hl : ks.length ≤ 1000) (hlen : rs.length ≤ 1000) :
    Calls Try.prog 84 #[dnV n s t p rs.length cap, .agg #[.slice tp ks.length tc, .int .i64 am]] w0 (Post (X := Unit) (fun _ => .bool (pthB rs ks am && rndB rs ks)) (fun _ => True) (fun _ => []) w0) := by
  refine calls Try.func84 rfl (n := 21) rfl (by simp) ?_
  refine TC.seq ?_
  refine TC.region ?_
  refine TL.box rfl rfl (by decide) (fun b0 hb0 => ?_)
  refine TL.box rfl rfl (by decide) (fun b1 hb1 => ?_)
  refine TL.pure (PV.assign rfl) rfl (by decide) ?_
  refine TL.nil ?_
  refine TQ.thenC ?_
  refine TC.seq ?_
  refine TC.region ?_
  refine TL.pure (PV.loadBox rfl Tb.agg_24 (by repeat (first | exact List.Mem.head _ | refine List.Mem.tail _ ?_ | refine List.mem_append_right _ ?_)) rfl) rfl (by decide) ?_
  refine TL.pure (PV.loadBox rfl Tb.agg_89 (by repeat (first | exact List.Mem.head _ | refine List.Mem.tail _ ?_ | refine List.mem_append_right _ ?_)) rfl) rfl (by decide) ?_
  refine TL.call rfl Tb.gofn_93 (fun a w hs => Path_ok w n s t p cap rs (hr.new hs.new) tp tc ks am (hx.new hs.new) hl hlen) rfl (by decide) (fun _ _ => ?_)
  refine TL.pure (PV.move rfl) rfl (by decide) ?_
  refine TL.pure (PV.extract rfl rfl) rfl (by decide) ?_
  refine TL.pure (PV.extract rfl rfl) rfl (by decide) ?_
  refine TL.pure (PV.extract rfl rfl) rfl (by decide) ?_
  refine TL.pure (PV.assign rfl) rfl (by decide) ?_
  refine TL.pure (PV.assign rfl) rfl (by decide) ?_
  refine TL.pure (PV.assign rfl) rfl (by decide) ?_
  refine TL.nil ?_
  refine TQ.thenC ?_
  refine TC.seq ?_
  refine TC.region ?_
  refine TL.pure (PV.move rfl) rfl (by decide) ?_
  refine TL.pure (PV.move rfl) rfl (by decide) ?_
  first | refine TL.splitD 16 rfl (fun e1 => ?_) (fun e1 => ?_) | refine TL.split 16 rfl (fun e1 => ?_) (fun e1 => ?_)
  · skip
    refine TL.pure (PV.move rfl) rfl (by decide) ?_
    refine TL.pure (PV.move rfl) rfl (by decide) ?_
    refine TL.pure (PV.eql rfl rfl) rfl (by decide) ?_
    refine TL.pure (PV.pickT rfl rfl) rfl (by decide) ?_
    refine TL.pure (PV.assign rfl) rfl (by decide) ?_
    refine TL.nil ?_
    refine TQ.thenC ?_
    refine TC.ret ?_
    refine TQ.retE1 rfl rfl ?_
    exact ⟨(), congrArg Value.bool (by unfold rndB; simp_all), trivial, List.nil_sublist _⟩
  · skip
    refine TL.skip rfl (fun k hk => by cases hk; decide) ?_
    refine TL.skip rfl (fun k hk => by cases hk; decide) ?_
    refine TL.skip rfl (fun k hk => by cases hk; decide) ?_
    refine TL.pure (PV.pickF rfl rfl) rfl (by decide) ?_
    refine TL.pure (PV.assign rfl) rfl (by decide) ?_
    refine TL.nil ?_
    refine TQ.thenC ?_
    refine TC.ret ?_
    refine TQ.retE1 rfl rfl ?_
    exact ⟨(), congrArg Value.bool (by unfold rndB; simp_all), trivial, List.nil_sublist _⟩

set_option maxRecDepth 100000 in
theorem many_ok (w0 : World) (pt : Option Addr) (ct : Nat) (ts : List TV) (hT : TrsAt w0 pt ts) :
    Calls Try.prog 50 #[.slice pt ts.length ct] w0 (Post (X := Unit) (fun _ => .bool (decide (100 < ts.length) || anyLong ts)) (fun _ => True) (fun _ => []) w0) := by
  refine calls Try.func50 rfl (n := 20) rfl (by simp) ?_
  refine TC.seq ?_
  refine TC.region ?_
  refine TL.pure (PV.assign rfl) rfl (by decide) ?_
  refine TL.nil ?_
  refine TQ.thenC ?_
  refine TC.seq ?_
  refine TC.seq ?_
  refine TC.region ?_
  refine TL.pure (PV.move rfl) rfl (by decide) ?_
  refine TL.pure (PV.len rfl Tb.sl_52) rfl (by decide) ?_
  refine TL.pure (PV.gtr rfl rfl) rfl (by decide) ?_
  refine TL.nil ?_
  refine TQ.thenC ?_
  first | refine TC.condD rfl (fun h100 => ?_) (fun h100 => ?_) | refine TC.cond rfl (fun h100 => ?_) (fun h100 => ?_)
  · skip
    refine TC.seq ?_
    refine TC.region ?_
    refine TL.pure (PV.assign rfl) rfl (by decide) ?_
    refine TL.nil ?_
    refine TQ.thenC ?_
    refine TC.ret ?_
    refine TQ.thenR ?_
    refine TQ.retE1 rfl rfl ?_
    exact ⟨(), by rw [decide_eq_true (by omega)]; rfl, trivial, List.nil_sublist _⟩
  · skip
    refine TC.skip ?_
    refine TQ.thenC ?_
    refine TC.seq ?_
    refine TC.seq ?_
    refine TC.region ?_
    refine TL.pure (PV.assign rfl) rfl (by decide) ?_
    refine TL.nil ?_
    refine TQ.thenC ?_
    refine TC.block ?_
    -- live and written in the loop, not told: [2]
    refine TC.loopK [0] (X := Nat) (fun j => j ≤ ts.length ∧ anyLong (ts.take j) = false) (fun j => [(3, .int .i64 (j : Nat))]) (fun j => []) (fun j => ts.length - j) 0 ⟨Nat.zero_le _, rfl⟩ (by repeat (first | exact True.intro | refine And.intro rfl ?_)) (by repeat (first | exact List.Sublist.slnil | exact List.nil_sublist _ | exact List.Sublist.refl _ | refine List.Sublist.cons_cons _ ?_ | refine List.Sublist.cons _ ?_ | refine List.Sublist.trans ?_ (List.sublist_append_right _ _))) ?_
    intro j hj
    refine TC.seq ?_
    refine TC.seq ?_
    refine TC.region ?_
    refine TL.pure (PV.move rfl) rfl (by decide) ?_
    refine TL.pure (PV.move rfl) rfl (by decide) ?_
    refine TL.pure (PV.len rfl Tb.sl_52) rfl (by decide) ?_
    refine TL.pure (PV.lss rfl rfl) rfl (by decide) ?_
    refine TL.nil ?_
    refine TQ.thenC ?_
    first | refine TC.condD rfl (fun hlt => ?_) (fun hlt => ?_) | refine TC.cond rfl (fun hlt => ?_) (fun hlt => ?_)
    · skip
      refine TC.skip ?_
      refine TQ.thenC ?_
      refine TC.seq ?_
      refine TC.block ?_
      refine TC.seq ?_
      obtain ⟨⟨q, hqp, hq⟩, hI⟩ := hT.at (show j < ts.length by omega)
      refine TC.region ?_
      refine TL.pure (PV.move rfl) rfl (by decide) ?_
      refine TL.pure (PV.move rfl) rfl (by decide) ?_
      refine TL.pure (PV.indexA rfl hqp rfl Tb.elm_52 rfl (by omega)) rfl (by decide) ?_
      refine TL.pure (PV.fieldAddrA rfl Tb.fo_89_0) rfl (by decide) ?_
      refine TL.pure (PV.loadOld rfl Tb.one_25 (hq 0 _ rfl)) rfl (by decide) ?_
      refine TL.pure (PV.len rfl Tb.sl_25) rfl (by decide) ?_
      refine TL.pure (PV.gtr rfl rfl) rfl (by decide) ?_
      refine TL.nil ?_
      refine TQ.thenC ?_
      first | refine TC.condD rfl (fun hbig => ?_) (fun hbig => ?_) | refine TC.cond rfl (fun hbig => ?_) (fun hbig => ?_)
      · skip
        refine TC.seq ?_
        refine TC.region ?_
        refine TL.pure (PV.assign rfl) rfl (by decide) ?_
        refine TL.nil ?_
        refine TQ.thenC ?_
        refine TC.ret ?_
        refine TQ.blkR ?_
        refine TQ.thenR ?_
        refine TQ.thenR ?_
        refine TQ.blkR ?_
        refine TQ.thenR ?_
        refine TQ.retE1 rfl rfl ?_
        exact ⟨(), by rw [show anyLong ts = true from List.any_eq_true.2 ⟨ts.getD j default, mem_getD (by omega), decide_eq_true (by omega)⟩, Bool.or_true], trivial, List.nil_sublist _⟩
      · skip
        refine TC.skip ?_
        refine TQ.blkN ?_
        refine TQ.thenC ?_
        refine TC.region ?_
        refine TL.pure (PV.move rfl) rfl (by decide) ?_
        refine TL.pure (PV.add rfl rfl (by omega)) rfl (by decide) ?_
        refine TL.pure (PV.assign rfl) rfl (by decide) ?_
        refine TL.nil ?_
        refine TQ.thenN ?_
        refine TQ.backK (j + 1) (by repeat (first | exact True.intro | refine And.intro rfl ?_)) (by repeat (first | exact True.intro | refine And.intro rfl ?_)) (by repeat (first | exact List.Sublist.slnil | exact List.nil_sublist _ | exact List.Sublist.refl _ | refine List.Sublist.cons_cons _ ?_ | refine List.Sublist.cons _ ?_ | refine List.Sublist.trans ?_ (List.sublist_append_right _ _))) ⟨by omega, by unfold anyLong at *; rw [List.take_succ_eq_append_getElem (show j < ts.length by omega), List.any_append, hj.2]; simp only [List.any_cons, List.any_nil, Bool.or_false, Bool.false_or]; refine decide_eq_false ?_; rw [show ts[j] = ts.getD j default from by simp [List.getD, show j < ts.length by omega]]; omega⟩ (by omega)
    · skip
      refine TC.exit ?_
      refine TQ.thenE ?_
      refine TQ.thenE ?_
      refine TQ.blkS ?_
      refine TQ.thenC ?_
      refine TC.seq ?_
      have hje : j = ts.length := by omega
      refine TC.region ?_
      refine TL.pure (PV.assign rfl) rfl (by decide) ?_
      refine TL.nil ?_
      refine TQ.thenC ?_
      refine TC.ret ?_
      refine TQ.retE1 rfl rfl ?_
      exact ⟨(), by have h9 := hj.2; rw [hje, List.take_length] at h9; rw [h9, decide_eq_false (by omega)]; rfl, trivial, List.nil_sublist _⟩

set_option maxRecDepth 100000 in
set_option maxHeartbeats 2000000 in
theorem Sum_v (w0 : World) (n s t : Nat) (p : Option Addr) (cap : Nat) (rs : List Bd) (hr : BdsAt w0 p rs) (hv : Vd n s t rs) (hd0 : dI n s t rs = 0) (pt : Option Addr) (ct : Nat) (ts : List TV) (hT : TrsAt w0 pt ts) (hsm : ∀ tv ∈ ts, tv.ks.length ≤ 100) (htl : ts.length ≤ 1000000) :
    Calls Try.prog 51 #[dnV n s t p rs.length cap, .slice pt ts.length ct] w0 (Post (X := HD) (fun h => .tuple #[gval h (sumL s t rs ts).length, .int .i64 (sumE s t rs ts)]) (fun h => goI (h, sumL s t rs ts)) (fun h => gbI (h, sumL s t rs ts)) w0) := by
  have hw := hv.w1
  have hlen := hv.len
  have hn8 := hw.n8
  have hsn := hw.sn
  have htn := hw.tn
  have h256 := p2_256 hn8
  have hpos := Nat.two_pow_pos n
  refine calls Try.func51 rfl (n := 64) rfl (by simp) ?_
  refine TC.seq ?_
  refine TC.region ?_
  refine TL.box rfl rfl (by decide) (fun b0 hb0 => ?_)
  refine TL.pure (PV.assign rfl) rfl (by decide) ?_
  refine TL.pure (PV.assign rfl) rfl (by decide) ?_
  refine TL.nil ?_
  refine TQ.thenC ?_
  refine TC.seq ?_
  refine TC.seq ?_
  refine TC.region ?_
  refine TL.pure (PV.loadBox rfl Tb.agg_24 (by repeat (first | exact List.Mem.head _ | refine List.Mem.tail _ ?_ | refine List.mem_append_right _ ?_)) rfl) rfl (by decide) ?_
  refine TL.call rfl Tb.gofn_20 (fun a w hs => validate_ok w n s t p cap rs (hr.new hs.new)) rfl (by decide) (fun _ _ => ?_)
  refine TL.pure (PV.assign rfl) rfl (by decide) ?_
  refine TL.nil ?_
  refine TQ.thenC ?_
  refine TC.seq ?_
  refine TC.region ?_
  refine TL.pure (PV.move rfl) rfl (by decide) ?_
  refine TL.pure (PV.neq rfl rfl) rfl (by decide) ?_
  refine TL.nil ?_
  refine TQ.thenC ?_
  first | refine TC.condD rfl (fun hv9 => ?_) (fun hv9 => ?_) | refine TC.cond rfl (fun hv9 => ?_) (fun hv9 => ?_)
  · skip
    refine TC.seq ?_
    refine TC.region ?_
    refine TL.pure (PV.move rfl) rfl (by decide) ?_
    refine TL.pure (PV.assign rfl) rfl (by decide) ?_
    refine TL.pure (PV.assign rfl) rfl (by decide) ?_
    refine TL.nil ?_
    refine TQ.thenC ?_
    refine TC.ret ?_
    refine TQ.thenR ?_
    refine TQ.retE2 rfl rfl rfl ?_
    exact absurd hd0 hv9
  · skip
    refine TC.skip ?_
    refine TQ.thenC ?_
    refine TC.seq ?_
    refine TC.seq ?_
    refine TC.region ?_
    refine TL.pure (PV.move rfl) rfl (by decide) ?_
    refine TL.pure (PV.len rfl Tb.sl_52) rfl (by decide) ?_
    refine TL.pure (PV.gtr rfl rfl) rfl (by decide) ?_
    refine TL.nil ?_
    refine TQ.thenC ?_
    first | refine TC.condD rfl (fun h40 => ?_) (fun h40 => ?_) | refine TC.cond rfl (fun h40 => ?_) (fun h40 => ?_)
    · skip
      refine TC.seq ?_
      refine TC.region ?_
      refine TL.pure (PV.assign rfl) rfl (by decide) ?_
      refine TL.pure (PV.assign rfl) rfl (by decide) ?_
      refine TL.nil ?_
      refine TQ.thenC ?_
      refine TC.ret ?_
      refine TQ.thenR ?_
      refine TQ.retE2 rfl rfl rfl ?_
      exact ⟨none, by rw [sumL_no (by rw [sumE_3 (by omega)]; decide), sumE_3 (by omega)]; rfl, by rw [sumL_no (by rw [sumE_3 (by omega)]; decide)]; exact goI_nil, List.nil_sublist _⟩
    · skip
      refine TC.skip ?_
      refine TQ.thenC ?_
      refine TC.seq ?_
      refine TC.region ?_
      refine TL.pure (PV.fieldAddr rfl Tb.fo_24_3) rfl (by decide) ?_
      refine TL.pure (PV.load rfl Tb.one_22 (by repeat (first | exact List.Mem.head _ | refine List.Mem.tail _ ?_ | refine List.mem_append_right _ ?_)) rfl) rfl (by decide) ?_
      refine TL.pure (PV.len rfl Tb.sl_22) rfl (by decide) ?_
      refine TL.makeI (k := rs.length) rfl rfl Tb.sl_25 Tb.zi_3 rfl (by omega) (by omega) rfl (by decide) (fun bS hbS => ?_)
      refine TL.pure (PV.assign rfl) rfl (by decide) ?_
      refine TL.nil ?_
      refine TQ.thenC ?_
      refine TC.seq ?_
      refine TC.seq ?_
      refine TC.region ?_
      refine TL.pure (PV.move rfl) rfl (by decide) ?_
      refine TL.pure (PV.len rfl Tb.sl_52) rfl (by decide) ?_
      refine TL.pure (PV.move rfl) rfl (by decide) ?_
      refine TL.nil ?_
      refine TQ.thenC ?_
      refine TC.block ?_
      -- live and written in the loop, not told: [4, 5]
      refine TC.lit [(2, _), (7, _), (24, _), (25, _), (26, _)] (by repeat (first | exact True.intro | refine And.intro rfl ?_)) ?_
      refine TC.loopK [2, 7, 24, 25] (X := Nat) (fun j => j ≤ ts.length ∧ (ts.take j).all (trOK s t rs) = true ∧ Bnd rs.length (2000 * j) (SJ rs ts j)) (fun j => [(26, .int .i64 (j : Nat))]) (fun j => [(bS, Obj.cells (intsA (SJ rs ts j)) 3 (0, 0)), (b0, Obj.cells #[.int .i64 (n : Nat), .int .i64 (s : Nat), .int .i64 (t : Nat), .slice p rs.length cap] 24 (0, 0))]) (fun j => ts.length - j) 0 ⟨Nat.zero_le _, rfl, Bnd.zero _⟩ (by repeat (first | exact True.intro | refine And.intro rfl ?_)) (by repeat (first | exact List.Sublist.slnil | exact List.nil_sublist _ | exact List.Sublist.refl _ | refine List.Sublist.cons_cons _ ?_ | refine List.Sublist.cons _ ?_ | refine List.Sublist.trans ?_ (List.sublist_append_right _ _))) ?_
      intro j hj
      have hj1 := hj.1
      refine TC.lit [(2, _), (7, _), (24, _), (25, _), (26, _)] (by repeat (first | exact True.intro | refine And.intro rfl ?_)) ?_
      refine TC.seq ?_
      refine TC.region ?_
      refine TL.pure (PV.lss rfl rfl) rfl (by decide) ?_
      refine TL.nil ?_
      refine TQ.thenC ?_
      refine TC.seq ?_
      first | refine TC.condD rfl (fun hlt => ?_) (fun hlt => ?_) | refine TC.cond rfl (fun hlt => ?_) (fun hlt => ?_)
      · skip
        refine TC.skip ?_
        refine TQ.thenC ?_
        refine TC.seq ?_
        refine TC.block ?_
        refine TC.seq ?_
        have hjl : j < ts.length := by omega
        obtain ⟨⟨q, hqp, hq⟩, hI⟩ := hT.at hjl
        have hk100 := hsm _ (mem_getD (l := ts) hjl)
        refine TC.region ?_
        refine TL.pure (PV.indexA rfl hqp rfl Tb.elm_52 rfl (by omega)) rfl (by decide) ?_
        refine TL.pure (PV.loadAggA (vs := [.slice (ts.getD j default).p (ts.getD j default).ks.length (ts.getD j default).c, .int .i64 (ts.getD j default).am]) rfl Tb.agg_89 rfl hq) rfl (by decide) ?_
        refine TL.alloc Tb.zero_89 rfl (by decide) (fun bT hbT => ?_)
        refine TL.storeAgg (vs := [.slice (ts.getD j default).p (ts.getD j default).ks.length (ts.getD j default).c, .int .i64 (ts.getD j default).am]) rfl rfl Tb.cells_89 (by repeat (first | exact Upd.head _ | apply Upd.tail | apply Upd.appR)) rfl rfl rfl rfl rfl ?_
        refine TL.nil ?_
        refine TQ.thenC ?_
        refine TC.seqG [2, 4, 5, 7, 9, 24, 25, 26] (X := Unit) (fun x9 => trOK s t rs (ts.getD j default) = true) (fun x9 => []) ?_ ?_
        · skip
          refine TC.seq ?_
          refine TC.region ?_
          refine TL.pure (PV.loadBox rfl Tb.agg_24 (by repeat (first | exact List.Mem.head _ | refine List.Mem.tail _ ?_ | refine List.mem_append_right _ ?_)) rfl) rfl (by decide) ?_
          refine TL.pure (PV.loadBox rfl Tb.agg_89 (by repeat (first | exact List.Mem.head _ | refine List.Mem.tail _ ?_ | refine List.mem_append_right _ ?_)) rfl) rfl (by decide) ?_
          refine TL.call rfl Tb.gofn_80 (fun a w hs => isTrail_ok w n s t p cap rs (hr.new hs.new) (ts.getD j default).p (ts.getD j default).c (ts.getD j default).ks (ts.getD j default).am (hI.new hs.new) (by omega) (by omega)) rfl (by decide) (fun _ _ => ?_)
          refine TL.pure ((by first | exact PV.notD rfl | exact PV.not rfl)) rfl (by decide) ?_
          refine TL.pure (PV.move rfl) rfl (by decide) ?_
          first | refine TL.splitD 34 rfl (fun a1 => ?_) (fun a1 => ?_) | refine TL.split 34 rfl (fun a1 => ?_) (fun a1 => ?_)
          · skip
            refine TL.skip rfl (fun k hk => by cases hk; decide) ?_
            refine TL.skip rfl (fun k hk => by cases hk; decide) ?_
            refine TL.skip rfl (fun k hk => by cases hk; decide) ?_
            refine TL.skip rfl (fun k hk => by cases hk; decide) ?_
            refine TL.skip rfl (fun k hk => by cases hk; decide) ?_
            refine TL.skipU rfl (fun k hk => by cases hk; decide) ?_
            refine TL.skipU rfl (fun k hk => by cases hk; decide) ?_
            refine TL.skipU rfl (fun k hk => by cases hk; decide) ?_
            refine TL.skipU rfl (fun k hk => by cases hk; decide) ?_
            refine TL.skip rfl (fun k hk => by cases hk; decide) ?_
            refine TL.pure (PV.pickT rfl rfl) rfl (by decide) ?_
            refine TL.nil ?_
            refine TQ.thenC ?_
            refine TC.condT rfl ?_
            refine TC.seq ?_
            refine TC.region ?_
            refine TL.pure (PV.assign rfl) rfl (by decide) ?_
            refine TL.pure (PV.assign rfl) rfl (by decide) ?_
            refine TL.nil ?_
            refine TQ.thenC ?_
            refine TC.ret ?_
            refine TQ.thenR ?_
            refine TQ.blkR ?_
            refine TQ.thenR ?_
            refine TQ.thenR ?_
            refine TQ.blkR ?_
            refine TQ.thenR ?_
            refine TQ.retE2 rfl rfl rfl ?_
            exact ⟨none, by rw [sumL_no (by rw [sumE_1 (by omega) hjl (trOK_a (nb_t a1))]; decide), sumE_1 (by omega) hjl (trOK_a (nb_t a1))]; rfl, by rw [sumL_no (by rw [sumE_1 (by omega) hjl (trOK_a (nb_t a1))]; decide)]; exact goI_nil, List.nil_sublist _⟩
          · skip
            refine TL.pure (PV.loadBox rfl Tb.agg_24 (by repeat (first | exact List.Mem.head _ | refine List.Mem.tail _ ?_ | refine List.mem_append_right _ ?_)) rfl) rfl (by decide) ?_
            refine TL.pure (PV.loadBox rfl Tb.agg_89 (by repeat (first | exact List.Mem.head _ | refine List.Mem.tail _ ?_ | refine List.mem_append_right _ ?_)) rfl) rfl (by decide) ?_
            refine TL.call rfl Tb.gofn_81 (fun a w hs => isWay_ok w n s t p cap rs (hr.new hs.new) (ts.getD j default).p (ts.getD j default).c (ts.getD j default).ks (ts.getD j default).am (hI.new hs.new) (by omega) (by omega) (nb_f a1)) rfl (by decide) (fun _ _ => ?_)
            refine TL.pure ((by first | exact PV.notD rfl | exact PV.not rfl)) rfl (by decide) ?_
            refine TL.pure (PV.move rfl) rfl (by decide) ?_
            first | refine TL.splitD 39 rfl (fun a2 => ?_) (fun a2 => ?_) | refine TL.split 39 rfl (fun a2 => ?_) (fun a2 => ?_)
            · skip
              refine TL.pure (PV.loadBox rfl Tb.agg_24 (by repeat (first | exact List.Mem.head _ | refine List.Mem.tail _ ?_ | refine List.mem_append_right _ ?_)) rfl) rfl (by decide) ?_
              refine TL.pure (PV.loadBox rfl Tb.agg_89 (by repeat (first | exact List.Mem.head _ | refine List.Mem.tail _ ?_ | refine List.mem_append_right _ ?_)) rfl) rfl (by decide) ?_
              refine TL.call rfl Tb.gofn_82 (fun a w hs => isRound_ok w n s t p cap rs (hr.new hs.new) (ts.getD j default).p (ts.getD j default).c (ts.getD j default).ks (ts.getD j default).am (hI.new hs.new) (by omega) (by omega) (nb_f a1)) rfl (by decide) (fun _ _ => ?_)
              refine TL.pure ((by first | exact PV.notD rfl | exact PV.not rfl)) rfl (by decide) ?_
              refine TL.pure (PV.pickT rfl rfl) rfl (by decide) ?_
              refine TL.pure (PV.pickF rfl rfl) rfl (by decide) ?_
              refine TL.nil ?_
              refine TQ.thenC ?_
              first | refine TC.condD rfl (fun hno => ?_) (fun hno => ?_) | refine TC.cond rfl (fun hno => ?_) (fun hno => ?_)
              · skip
                refine TC.seq ?_
                refine TC.region ?_
                refine TL.pure (PV.assign rfl) rfl (by decide) ?_
                refine TL.pure (PV.assign rfl) rfl (by decide) ?_
                refine TL.nil ?_
                refine TQ.thenC ?_
                refine TC.ret ?_
                refine TQ.thenR ?_
                refine TQ.blkR ?_
                refine TQ.thenR ?_
                refine TQ.thenR ?_
                refine TQ.blkR ?_
                refine TQ.thenR ?_
                refine TQ.retE2 rfl rfl rfl ?_
                exact ⟨none, by rw [sumL_no (by rw [sumE_1 (by omega) hjl (trOK_b (decide_eq_false a2) (decide_eq_false hno))]; decide), sumE_1 (by omega) hjl (trOK_b (decide_eq_false a2) (decide_eq_false hno))]; rfl, by rw [sumL_no (by rw [sumE_1 (by omega) hjl (trOK_b (decide_eq_false a2) (decide_eq_false hno))]; decide)]; exact goI_nil, List.nil_sublist _⟩
              · skip
                have htok : trOK s t rs (ts.getD j default) = true := trOK_r (nb_f a1) (decide_eq_true (Decidable.not_not.1 hno))
                refine TC.skip ?_
                refine TQ.thenN ?_
                refine TQ.midK () (by repeat (first | exact True.intro | refine And.intro rfl ?_)) (by repeat (first | exact True.intro | refine And.intro rfl ?_)) (by repeat (first | exact List.Sublist.slnil | exact List.nil_sublist _ | exact List.Sublist.refl _ | refine List.Sublist.cons_cons _ ?_ | refine List.Sublist.cons _ ?_ | refine List.Sublist.trans ?_ (List.sublist_append_right _ _))) htok
            · skip
              refine TL.skip rfl (fun k hk => by cases hk; decide) ?_
              refine TL.skip rfl (fun k hk => by cases hk; decide) ?_
              refine TL.skip rfl (fun k hk => by cases hk; decide) ?_
              refine TL.skip rfl (fun k hk => by cases hk; decide) ?_
              refine TL.pure (PV.pickF rfl rfl) rfl (by decide) ?_
              refine TL.pure (PV.pickF rfl rfl) rfl (by decide) ?_
              refine TL.nil ?_
              refine TQ.thenC ?_
              refine TC.condF rfl ?_
              have htok : trOK s t rs (ts.getD j default) = true := trOK_w (nb_f a1) (decide_eq_true (Decidable.not_not.1 a2))
              refine TC.skip ?_
              refine TQ.thenN ?_
              refine TQ.midK () (by repeat (first | exact True.intro | refine And.intro rfl ?_)) (by repeat (first | exact True.intro | refine And.intro rfl ?_)) (by repeat (first | exact List.Sublist.slnil | exact List.nil_sublist _ | exact List.Sublist.refl _ | refine List.Sublist.cons_cons _ ?_ | refine List.Sublist.cons _ ?_ | refine List.Sublist.trans ?_ (List.sublist_append_right _ _))) htok
        · skip
          intro x9 htok
          refine TC.lit [(2, _), (7, _), (9, _), (24, _), (25, _), (26, _)] (by repeat (first | exact True.intro | refine And.intro rfl ?_)) ?_
          refine TC.seq ?_
          have ham := trOK_am htok
          refine TC.region ?_
          refine TL.pure (PV.fieldAddr rfl Tb.fo_89_0) rfl (by decide) ?_
          refine TL.pure (PV.load rfl Tb.one_25 (by repeat (first | exact List.Mem.head _ | refine List.Mem.tail _ ?_ | refine List.mem_append_right _ ?_)) rfl) rfl (by decide) ?_
          refine TL.pure (PV.len rfl Tb.sl_25) rfl (by decide) ?_
          refine TL.pure (PV.move rfl) rfl (by decide) ?_
          refine TL.nil ?_
          refine TQ.thenC ?_
          refine TC.block ?_
          refine TC.lit [(2, _), (7, _), (9, _), (24, _), (25, _), (26, _), (47, _), (48, _), (49, _)] (by repeat (first | exact True.intro | refine And.intro rfl ?_)) ?_
          refine TC.loopK [2, 4, 5, 7, 9, 24, 25, 26, 47, 48] (X := Nat) (fun i => i ≤ (ts.getD j default).ks.length ∧ Bnd rs.length (2000 * j + 20 * i) (IJ rs ts j i)) (fun i => [(49, .int .i64 (i : Nat))]) (fun i => [(bT, Obj.cells #[.slice (ts.getD j default).p (ts.getD j default).ks.length (ts.getD j default).c, .int .i64 (ts.getD j default).am] 89 (0, 0)), (bS, Obj.cells (intsA (IJ rs ts j i)) 3 (0, 0)), (b0, Obj.cells #[.int .i64 (n : Nat), .int .i64 (s : Nat), .int .i64 (t : Nat), .slice p rs.length cap] 24 (0, 0))]) (fun i => (ts.getD j default).ks.length - i) 0 ⟨Nat.zero_le _, by rw [IJ_zero]; exact hj.2.2.mono (by omega)⟩ (by repeat (first | exact True.intro | refine And.intro rfl ?_)) (by repeat (first | exact List.Sublist.slnil | exact List.nil_sublist _ | exact List.Sublist.refl _ | exact List.sublist_append_left _ _ | refine List.Sublist.cons_cons _ ?_ | refine (List.append_sublist_append_left _).2 ?_ | refine List.Sublist.cons _ ?_ | refine List.Sublist.trans ?_ (List.sublist_append_right _ _))) ?_
          intro i hi
          have hi1 := hi.1
          refine TC.lit [(2, _), (7, _), (9, _), (24, _), (25, _), (26, _), (47, _), (48, _), (49, _)] (by repeat (first | exact True.intro | refine And.intro rfl ?_)) ?_
          refine TC.seq ?_
          refine TC.region ?_
          refine TL.pure (PV.lss rfl rfl) rfl (by decide) ?_
          refine TL.nil ?_
          refine TQ.thenC ?_
          refine TC.seq ?_
          first | refine TC.condD rfl (fun hlt2 => ?_) (fun hlt2 => ?_) | refine TC.cond rfl (fun hlt2 => ?_) (fun hlt2 => ?_)
          · skip
            refine TC.skip ?_
            refine TQ.thenC ?_
            refine TC.seq ?_
            refine TC.block ?_
            refine TC.seq ?_
            have hil : i < (ts.getD j default).ks.length := by omega
            obtain ⟨q2, q2p, q2v⟩ := hI i hil
            have hvi := trOK_at htok hil
            have hbi := hi.2.bd ((ts.getD j default).ks.getD i 0).toNat
            refine TC.region ?_
            refine TL.pure (PV.indexA rfl q2p rfl Tb.elm_25 rfl (by omega)) rfl (by decide) ?_
            refine TL.pure (PV.loadOld rfl Tb.one_3 q2v) rfl (by decide) ?_
            refine TL.pure (PV.assign rfl) rfl (by decide) ?_
            refine TL.nil ?_
            refine TQ.thenC ?_
            refine TC.mixV [true, true, true, true, true, true, true, true, false] [(bT, Obj.cells #[.slice (ts.getD j default).p (ts.getD j default).ks.length (ts.getD j default).c, .int .i64 (ts.getD j default).am] 89 (0, 0)), (bS, Obj.cells (intsA (IJ rs ts j i)) 3 (0, 0)), (b0, Obj.cells #[.int .i64 (n : Nat), .int .i64 (s : Nat), .int .i64 (t : Nat), .slice p rs.length cap] 24 (0, 0))] 9 Tb.mixed rfl (by kernel_rfl) (by kernel_rfl) (by kernel_rfl) (by kernel_rfl) (by repeat (first | exact List.Sublist.slnil | exact List.nil_sublist _ | exact List.Sublist.refl _ | refine List.Sublist.cons_cons _ ?_ | refine List.Sublist.cons _ ?_ | refine List.Sublist.trans ?_ (List.sublist_append_right _ _))) ?_
            refine TV.virt 0 rfl rfl (by decide) rfl (by kernel_rfl) (SOK.pure (PV.move rfl) rfl) ?_
            refine TV.virt 1 rfl rfl (by decide) rfl (by kernel_rfl) (SOK.pure (PV.move rfl) rfl) ?_
            refine TV.virt 2 rfl rfl (by decide) rfl (by kernel_rfl) (SOK.pure (PV.index (j := ((ts.getD j default).ks.getD i 0).toNat) rfl rfl Tb.elm_25 (by omega) (by omega)) rfl) ?_
            refine TV.virt 3 rfl rfl (by decide) rfl (by kernel_rfl) (SOK.pure (PV.loadIo (xs := IJ rs ts j i) ((ts.getD j default).ks.getD i 0).toNat rfl (off1 _) Tb.one_3 (by repeat (first | exact List.Mem.head _ | refine List.Mem.tail _ ?_ | refine List.mem_append_right _ ?_)) (by have := hi.2.len; omega)) rfl) ?_
            refine TV.virt 4 rfl rfl (by decide) rfl (by kernel_rfl) (SOK.pure (PV.fieldAddr rfl Tb.fo_89_1) rfl) ?_
            refine TV.virt 5 rfl rfl (by decide) rfl (by kernel_rfl) (SOK.pure (PV.load rfl Tb.one_3 (by repeat (first | exact List.Mem.head _ | refine List.Mem.tail _ ?_ | refine List.mem_append_right _ ?_)) rfl) rfl) ?_
            refine TV.virt 6 rfl rfl (by decide) rfl (by kernel_rfl) (SOK.pure (PV.add rfl rfl (by omega)) rfl) ?_
            refine TV.virt 7 rfl rfl (by decide) rfl (by kernel_rfl) (SOK.pure (PV.index (j := ((ts.getD j default).ks.getD i 0).toNat) rfl rfl Tb.elm_25 (by omega) (by omega)) rfl) ?_
            refine TV.step [8] (by kernel_rfl) (by decide) rfl ⟨⟨_, rfl, ?_⟩, trivial⟩
            refine TL.storeIo (xs := IJ rs ts j i) ((ts.getD j default).ks.getD i 0).toNat (addK (ts.getD j default).am (IJ rs ts j i) ((ts.getD j default).ks.getD i 0)) rfl rfl (off1 _) rfl Tb.cells_3 (by repeat (first | exact Upd.head _ | apply Upd.tail | apply Upd.appR)) (by have := hi.2.len; omega) rfl rfl ?_
            refine TL.nil ?_
            refine TV.next (.inr (by kernel_rfl)) ?_
            refine TV.done (by kernel_rfl) ?_
            refine TQ.blkN ?_
            refine TQ.thenC ?_
            refine TC.region ?_
            refine TL.pure (PV.add rfl rfl (by omega)) rfl (by decide) ?_
            refine TL.pure (PV.move rfl) rfl (by decide) ?_
            refine TL.nil ?_
            refine TQ.thenN ?_
            refine TQ.backK (i + 1) (by repeat (first | exact True.intro | refine And.intro rfl ?_)) (by repeat (first | exact True.intro | refine And.intro rfl ?_)) (by rw [IJ_next hil]; exact (by repeat (first | exact List.Sublist.slnil | exact List.nil_sublist _ | exact List.Sublist.refl _ | exact List.sublist_append_left _ _ | refine List.Sublist.cons_cons _ ?_ | refine (List.append_sublist_append_left _).2 ?_ | refine List.Sublist.cons _ ?_ | refine List.Sublist.trans ?_ (List.sublist_append_right _ _)))) ⟨by omega, by rw [IJ_next hil]; exact (hi.2.add ham).mono (by omega)⟩ (by omega)
          · skip
            refine TC.exit ?_
            refine TQ.thenE ?_
            refine TQ.thenE ?_
            refine TQ.blkS ?_
            refine TQ.blkN ?_
            refine TQ.thenC ?_
            have hie : i = (ts.getD j default).ks.length := by omega
            have hnx9 : SJ rs ts (j + 1) = IJ rs ts j i := by rw [hie]; exact (IJ_all hjl).symm
            have hk100 := hsm _ (mem_getD (l := ts) hjl)
            have hnb : Bnd rs.length (2000 * (j + 1 : Nat)) (SJ rs ts (j + 1)) := by rw [hnx9]; exact hi.2.mono (by push_cast; omega)
            refine TC.region ?_
            refine TL.pure (PV.add rfl rfl (by omega)) rfl (by decide) ?_
            refine TL.pure (PV.move rfl) rfl (by decide) ?_
            refine TL.nil ?_
            refine TQ.thenN ?_
            refine TQ.backK (j + 1) (by repeat (first | exact True.intro | refine And.intro rfl ?_)) (by repeat (first | exact True.intro | refine And.intro rfl ?_)) (by rw [hnx9]; exact (by repeat (first | exact List.Sublist.slnil | exact List.nil_sublist _ | exact List.Sublist.refl _ | exact List.sublist_append_left _ _ | refine List.Sublist.cons_cons _ ?_ | refine (List.append_sublist_append_left _).2 ?_ | refine List.Sublist.cons _ ?_ | refine List.Sublist.trans ?_ (List.sublist_append_right _ _)))) ⟨by omega, all_take_next hj.2.1 hjl htok, hnb⟩ (by omega)
      · skip
        refine TC.exit ?_
        refine TQ.thenE ?_
        refine TQ.thenE ?_
        refine TQ.blkS ?_
        refine TQ.thenC ?_
        refine TC.seq ?_
        refine TC.region ?_
        refine TL.pure (PV.move rfl) rfl (by decide) ?_
        refine TL.pure (PV.assign rfl) rfl (by decide) ?_
        refine TL.pure (PV.assign rfl) rfl (by decide) ?_
        refine TL.nil ?_
        refine TQ.thenC ?_
        refine TC.ret ?_
        refine TQ.retE2 rfl rfl rfl ?_
        have hje : j = ts.length := by omega
        have hE := sumE_0 (s := (s : Int)) (t := (t : Int)) (rs := rs) (ts := ts) (by omega) (by have h9 := hj.2.1; rw [hje, List.take_length] at h9; exact h9)
        have hL := sumL_yes hE
        have hSl : (sumT rs ts).length = rs.length := by rw [← SJ_all, ← hje]; exact hj.2.2.len
        exact ⟨some (bS, rs.length, []), by rw [hL, hE, hSl]; rfl, by rw [hL, ← hSl]; exact go_own _ _, by rw [hL, gb_own, ← SJ_all, ← hje]; exact (by repeat (first | exact List.Sublist.slnil | exact List.nil_sublist _ | exact List.Sublist.refl _ | exact List.sublist_append_left _ _ | refine List.Sublist.cons_cons _ ?_ | refine (List.append_sublist_append_left _).2 ?_ | refine List.Sublist.cons _ ?_ | refine List.Sublist.trans ?_ (List.sublist_append_right _ _)))⟩

set_option maxRecDepth 100000 in
set_option maxHeartbeats 2000000 in
theorem rSum_v (w0 : World) (n s t : Nat) (p : Option Addr) (cap : Nat) (rs : List Bd) (hr : BdsAt w0 p rs) (hv : Vd n s t rs) (hd0 : dI n s t rs = 0) (pt : Option Addr) (ct : Nat) (ts : List TV) (hT : TrsAt w0 pt ts) (hsm : ∀ tv ∈ ts, tv.ks.length ≤ 100) (htl : ts.length ≤ 1000000) :
    Calls Try.prog 52 #[dnV n s t p rs.length cap, .slice pt ts.length ct] w0 (Post (X := HD) (fun h => .tuple #[gval h (sumL s t rs ts).length, .int .i64 (sumE s t rs ts)]) (fun h => goI (h, sumL s t rs ts)) (fun h => gbI (h, sumL s t rs ts)) w0) := by
  have hw := hv.w1
  have hlen := hv.len
  have hn8 := hw.n8
  have hsn := hw.sn
  have htn := hw.tn
  have h256 := p2_256 hn8
  have hpos := Nat.two_pow_pos n
  refine calls Try.func52 rfl (n := 73) rfl (by simp) ?_
  refine TC.seq ?_
  refine TC.region ?_
  refine TL.box rfl rfl (by decide) (fun b0 hb0 => ?_)
  refine TL.pure (PV.assign rfl) rfl (by decide) ?_
  refine TL.pure (PV.assign rfl) rfl (by decide) ?_
  refine TL.nil ?_
  refine TQ.thenC ?_
  refine TC.seq ?_
  refine TC.seq ?_
  refine TC.region ?_
  refine TL.pure (PV.loadBox rfl Tb.agg_24 (by repeat (first | exact List.Mem.head _ | refine List.Mem.tail _ ?_ | refine List.mem_append_right _ ?_)) rfl) rfl (by decide) ?_
  refine TL.call rfl Tb.gofn_21 (fun a w hs => rvalidate_ok w n s t p cap rs (hr.new hs.new)) rfl (by decide) (fun _ _ => ?_)
  refine TL.pure (PV.assign rfl) rfl (by decide) ?_
  refine TL.nil ?_
  refine TQ.thenC ?_
  refine TC.seq ?_
  refine TC.region ?_
  refine TL.pure (PV.move rfl) rfl (by decide) ?_
  refine TL.pure (PV.neq rfl rfl) rfl (by decide) ?_
  refine TL.nil ?_
  refine TQ.thenC ?_
  first | refine TC.condD rfl (fun hv9 => ?_) (fun hv9 => ?_) | refine TC.cond rfl (fun hv9 => ?_) (fun hv9 => ?_)
  · skip
    refine TC.seq ?_
    refine TC.region ?_
    refine TL.pure (PV.move rfl) rfl (by decide) ?_
    refine TL.pure (PV.assign rfl) rfl (by decide) ?_
    refine TL.pure (PV.assign rfl) rfl (by decide) ?_
    refine TL.nil ?_
    refine TQ.thenC ?_
    refine TC.ret ?_
    refine TQ.thenR ?_
    refine TQ.retE2 rfl rfl rfl ?_
    exact absurd hd0 hv9
  · skip
    refine TC.skip ?_
    refine TQ.thenC ?_
    refine TC.seq ?_
    refine TC.seq ?_
    refine TC.region ?_
    refine TL.pure (PV.move rfl) rfl (by decide) ?_
    refine TL.pure (PV.len rfl Tb.sl_52) rfl (by decide) ?_
    refine TL.pure (PV.gtr rfl rfl) rfl (by decide) ?_
    refine TL.nil ?_
    refine TQ.thenC ?_
    first | refine TC.condD rfl (fun h40 => ?_) (fun h40 => ?_) | refine TC.cond rfl (fun h40 => ?_) (fun h40 => ?_)
    · skip
      refine TC.seq ?_
      refine TC.region ?_
      refine TL.pure (PV.assign rfl) rfl (by decide) ?_
      refine TL.pure (PV.assign rfl) rfl (by decide) ?_
      refine TL.nil ?_
      refine TQ.thenC ?_
      refine TC.ret ?_
      refine TQ.thenR ?_
      refine TQ.retE2 rfl rfl rfl ?_
      exact ⟨none, by rw [sumL_no (by rw [sumE_3 (by omega)]; decide), sumE_3 (by omega)]; rfl, by rw [sumL_no (by rw [sumE_3 (by omega)]; decide)]; exact goI_nil, List.nil_sublist _⟩
    · skip
      refine TC.skip ?_
      refine TQ.thenC ?_
      refine TC.seq ?_
      refine TC.region ?_
      refine TL.pure (PV.fieldAddr rfl Tb.fo_24_3) rfl (by decide) ?_
      refine TL.pure (PV.load rfl Tb.one_22 (by repeat (first | exact List.Mem.head _ | refine List.Mem.tail _ ?_ | refine List.mem_append_right _ ?_)) rfl) rfl (by decide) ?_
      refine TL.pure (PV.len rfl Tb.sl_22) rfl (by decide) ?_
      refine TL.makeI (k := rs.length) rfl rfl Tb.sl_25 Tb.zi_3 rfl (by omega) (by omega) rfl (by decide) (fun bS hbS => ?_)
      refine TL.pure (PV.assign rfl) rfl (by decide) ?_
      refine TL.nil ?_
      refine TQ.thenC ?_
      refine TC.seq ?_
      refine TC.seq ?_
      refine TC.region ?_
      refine TL.pure (PV.assign rfl) rfl (by decide) ?_
      refine TL.nil ?_
      refine TQ.thenC ?_
      refine TC.block ?_
      -- live and written in the loop, not told: [4, 5]
      refine TC.lit [(1, _), (2, _), (7, _), (8, _)] (by repeat (first | exact True.intro | refine And.intro rfl ?_)) ?_
      refine TC.loopK [1, 2, 7] (X := Nat) (fun j => j ≤ ts.length ∧ (ts.take j).all (trOK s t rs) = true ∧ Bnd rs.length (2000 * j) (SJ rs ts j)) (fun j => [(8, .int .i64 (j : Nat))]) (fun j => [(bS, Obj.cells (intsA (SJ rs ts j)) 3 (0, 0)), (b0, Obj.cells #[.int .i64 (n : Nat), .int .i64 (s : Nat), .int .i64 (t : Nat), .slice p rs.length cap] 24 (0, 0))]) (fun j => ts.length - j) 0 ⟨Nat.zero_le _, rfl, Bnd.zero _⟩ (by repeat (first | exact True.intro | refine And.intro rfl ?_)) (by repeat (first | exact List.Sublist.slnil | exact List.nil_sublist _ | exact List.Sublist.refl _ | refine List.Sublist.cons_cons _ ?_ | refine List.Sublist.cons _ ?_ | refine List.Sublist.trans ?_ (List.sublist_append_right _ _))) ?_
      intro j hj
      have hj1 := hj.1
      refine TC.lit [(1, _), (2, _), (7, _), (8, _)] (by repeat (first | exact True.intro | refine And.intro rfl ?_)) ?_
      refine TC.seq ?_
      refine TC.seq ?_
      refine TC.region ?_
      refine TL.pure (PV.move rfl) rfl (by decide) ?_
      refine TL.pure (PV.move rfl) rfl (by decide) ?_
      refine TL.pure (PV.len rfl Tb.sl_52) rfl (by decide) ?_
      refine TL.pure (PV.lss rfl rfl) rfl (by decide) ?_
      refine TL.nil ?_
      refine TQ.thenC ?_
      first | refine TC.condD rfl (fun hlt => ?_) (fun hlt => ?_) | refine TC.cond rfl (fun hlt => ?_) (fun hlt => ?_)
      · skip
        refine TC.skip ?_
        refine TQ.thenC ?_
        refine TC.seq ?_
        refine TC.block ?_
        refine TC.seqG [1, 2, 4, 5, 7, 8] (X := Unit) (fun x9 => trOK s t rs (ts.getD j default) = true) (fun x9 => []) ?_ ?_
        · skip
          refine TC.seq ?_
          have hjl : j < ts.length := by omega
          obtain ⟨⟨q, hqp, hq⟩, hI⟩ := hT.at hjl
          have hk100 := hsm _ (mem_getD (l := ts) hjl)
          refine TC.mixV [true, true, true, true, true, false, true, true, true, true, true, true, true, false, true, true] [(bS, Obj.cells (intsA (SJ rs ts j)) 3 (0, 0)), (b0, Obj.cells #[.int .i64 (n : Nat), .int .i64 (s : Nat), .int .i64 (t : Nat), .slice p rs.length cap] 24 (0, 0))] 16 Tb.mixed rfl (by kernel_rfl) (by kernel_rfl) (by kernel_rfl) (by kernel_rfl) (by repeat (first | exact List.Sublist.slnil | exact List.nil_sublist _ | exact List.Sublist.refl _ | refine List.Sublist.cons_cons _ ?_ | refine List.Sublist.cons _ ?_ | refine List.Sublist.trans ?_ (List.sublist_append_right _ _))) ?_
          refine TV.virt 0 rfl rfl (by decide) rfl (by kernel_rfl) (SOK.pure (PV.loadBox rfl Tb.agg_24 (by repeat (first | exact List.Mem.head _ | refine List.Mem.tail _ ?_ | refine List.mem_append_right _ ?_)) rfl) rfl) ?_
          refine TV.virt 1 rfl rfl (by decide) rfl (by kernel_rfl) (SOK.pure (PV.move rfl) rfl) ?_
          refine TV.virt 2 rfl rfl (by decide) rfl (by kernel_rfl) (SOK.pure (PV.move rfl) rfl) ?_
          refine TV.virt 3 rfl rfl (by decide) rfl (by kernel_rfl) (SOK.pure (PV.indexA rfl hqp rfl Tb.elm_52 rfl (by omega)) rfl) ?_
          refine TV.virt 4 rfl rfl (by decide) rfl (by kernel_rfl) (SOK.pure (PV.loadAggA (vs := [.slice (ts.getD j default).p (ts.getD j default).ks.length (ts.getD j default).c, .int .i64 (ts.getD j default).am]) rfl Tb.agg_89 rfl hq) rfl) ?_
          refine TV.step [5] (by kernel_rfl) (by decide) rfl ⟨⟨_, rfl, ?_⟩, trivial⟩
          refine TL.call rfl Tb.gofn_83 (fun a w hs => rIsWay_ok w n s t p cap rs (hr.new hs.new) (ts.getD j default).p (ts.getD j default).c (ts.getD j default).ks (ts.getD j default).am (hI.new hs.new) (by omega) (by omega)) rfl (by decide) (fun _ _ => ?_)
          refine TL.nil ?_
          refine TV.next (.inl (by repeat (first | exact List.Sublist.slnil | exact List.nil_sublist _ | exact List.Sublist.refl _ | refine List.Sublist.cons_cons _ ?_ | refine List.Sublist.cons _ ?_ | refine List.Sublist.trans ?_ (List.sublist_append_right _ _)))) ?_
          refine TV.virt 6 rfl rfl (by decide) rfl (by kernel_rfl) (SOK.pure ((by first | exact PV.notD rfl | exact PV.not rfl)) rfl) ?_
          refine TV.virt 7 rfl rfl (by decide) rfl (by kernel_rfl) (SOK.pure (PV.move rfl) rfl) ?_
          first | refine TV.splitD 35 rfl (fun a1 => ?_) (fun a1 => ?_) | refine TV.split 35 rfl (fun a1 => ?_) (fun a1 => ?_)
          · skip
            refine TV.virt 8 rfl rfl (by decide) rfl (by kernel_rfl) (SOK.pure (PV.loadBox rfl Tb.agg_24 (by repeat (first | exact List.Mem.head _ | refine List.Mem.tail _ ?_ | refine List.mem_append_right _ ?_)) rfl) rfl) ?_
            refine TV.virt 9 rfl rfl (by decide) rfl (by kernel_rfl) (SOK.pure (PV.move rfl) rfl) ?_
            refine TV.virt 10 rfl rfl (by decide) rfl (by kernel_rfl) (SOK.pure (PV.move rfl) rfl) ?_
            refine TV.virt 11 rfl rfl (by decide) rfl (by kernel_rfl) (SOK.pure (PV.indexA rfl hqp rfl Tb.elm_52 rfl (by omega)) rfl) ?_
            refine TV.virt 12 rfl rfl (by decide) rfl (by kernel_rfl) (SOK.pure (PV.loadAggA (vs := [.slice (ts.getD j default).p (ts.getD j default).ks.length (ts.getD j default).c, .int .i64 (ts.getD j default).am]) rfl Tb.agg_89 rfl hq) rfl) ?_
            refine TV.step [13] (by kernel_rfl) (by decide) rfl ⟨⟨_, rfl, ?_⟩, trivial⟩
            refine TL.call rfl Tb.gofn_84 (fun a w hs => rIsRound_ok w n s t p cap rs (hr.new hs.new) (ts.getD j default).p (ts.getD j default).c (ts.getD j default).ks (ts.getD j default).am (hI.new hs.new) (by omega) (by omega)) rfl (by decide) (fun _ _ => ?_)
            refine TL.nil ?_
            refine TV.next (.inl (by repeat (first | exact List.Sublist.slnil | exact List.nil_sublist _ | exact List.Sublist.refl _ | refine List.Sublist.cons_cons _ ?_ | refine List.Sublist.cons _ ?_ | refine List.Sublist.trans ?_ (List.sublist_append_right _ _)))) ?_
            refine TV.virt 14 rfl rfl (by decide) rfl (by kernel_rfl) (SOK.pure ((by first | exact PV.notD rfl | exact PV.not rfl)) rfl) ?_
            refine TV.virt 15 rfl rfl (by decide) rfl (by kernel_rfl) (SOK.pure (PV.pickT rfl rfl) rfl) ?_
            refine TV.done (by kernel_rfl) ?_
            refine TQ.thenC ?_
            first | refine TC.condD rfl (fun hno => ?_) (fun hno => ?_) | refine TC.cond rfl (fun hno => ?_) (fun hno => ?_)
            · skip
              refine TC.seq ?_
              refine TC.region ?_
              refine TL.pure (PV.assign rfl) rfl (by decide) ?_
              refine TL.pure (PV.assign rfl) rfl (by decide) ?_
              refine TL.nil ?_
              refine TQ.thenC ?_
              refine TC.ret ?_
              refine TQ.thenR ?_
              refine TQ.blkR ?_
              refine TQ.thenR ?_
              refine TQ.thenR ?_
              refine TQ.blkR ?_
              refine TQ.thenR ?_
              refine TQ.retE2 rfl rfl rfl ?_
              exact ⟨none, by rw [sumL_no (by rw [sumE_1 (by omega) hjl (trOK_c (nb_t a1) (nb_t hno))]; decide), sumE_1 (by omega) hjl (trOK_c (nb_t a1) (nb_t hno))]; rfl, by rw [sumL_no (by rw [sumE_1 (by omega) hjl (trOK_c (nb_t a1) (nb_t hno))]; decide)]; exact goI_nil, List.nil_sublist _⟩
            · skip
              have htok : trOK s t rs (ts.getD j default) = true := trOK_e (nb_f hno)
              refine TC.skip ?_
              refine TQ.thenN ?_
              refine TQ.midK () (by repeat (first | exact True.intro | refine And.intro rfl ?_)) (by repeat (first | exact True.intro | refine And.intro rfl ?_)) (by repeat (first | exact List.Sublist.slnil | exact List.nil_sublist _ | exact List.Sublist.refl _ | refine List.Sublist.cons_cons _ ?_ | refine List.Sublist.cons _ ?_ | refine List.Sublist.trans ?_ (List.sublist_append_right _ _))) htok
          · skip
            refine TV.virt 8 rfl rfl (by decide) rfl (by kernel_rfl) (SOK.skip rfl) ?_
            refine TV.virt 9 rfl rfl (by decide) rfl (by kernel_rfl) (SOK.skip rfl) ?_
            refine TV.virt 10 rfl rfl (by decide) rfl (by kernel_rfl) (SOK.skip rfl) ?_
            refine TV.virt 11 rfl rfl (by decide) rfl (by kernel_rfl) (SOK.skip rfl) ?_
            refine TV.virt 12 rfl rfl (by decide) rfl (by kernel_rfl) (SOK.skip rfl) ?_
            refine TV.step [13] (by kernel_rfl) (by decide) rfl ⟨⟨_, rfl, ?_⟩, trivial⟩
            refine TL.skip rfl (fun k hk => by cases hk; decide) ?_
            refine TL.nil ?_
            refine TV.next (.inl (by repeat (first | exact List.Sublist.slnil | exact List.nil_sublist _ | exact List.Sublist.refl _ | refine List.Sublist.cons_cons _ ?_ | refine List.Sublist.cons _ ?_ | refine List.Sublist.trans ?_ (List.sublist_append_right _ _)))) ?_
            refine TV.virt 14 rfl rfl (by decide) rfl (by kernel_rfl) (SOK.skip rfl) ?_
            refine TV.virt 15 rfl rfl (by decide) rfl (by kernel_rfl) (SOK.pure (PV.pickF rfl rfl) rfl) ?_
            refine TV.done (by kernel_rfl) ?_
            refine TQ.thenC ?_
            refine TC.condF rfl ?_
            have htok : trOK s t rs (ts.getD j default) = true := trOK_d (nb_f a1)
            refine TC.skip ?_
            refine TQ.thenN ?_
            refine TQ.midK () (by repeat (first | exact True.intro | refine And.intro rfl ?_)) (by repeat (first | exact True.intro | refine And.intro rfl ?_)) (by repeat (first | exact List.Sublist.slnil | exact List.nil_sublist _ | exact List.Sublist.refl _ | refine List.Sublist.cons_cons _ ?_ | refine List.Sublist.cons _ ?_ | refine List.Sublist.trans ?_ (List.sublist_append_right _ _))) htok
        · skip
          intro x9 htok
          have hjl : j < ts.length := by omega
          obtain ⟨⟨q, hqp, hq⟩, hI⟩ := hT.at hjl
          have hk100 := hsm _ (mem_getD (l := ts) hjl)
          refine TC.lit [(1, _), (2, _), (7, _), (8, _)] (by repeat (first | exact True.intro | refine And.intro rfl ?_)) ?_
          refine TC.seq ?_
          have ham := trOK_am htok
          refine TC.region ?_
          refine TL.pure (PV.assign rfl) rfl (by decide) ?_
          refine TL.nil ?_
          refine TQ.thenC ?_
          refine TC.block ?_
          refine TC.lit [(1, _), (2, _), (7, _), (8, _), (9, _)] (by repeat (first | exact True.intro | refine And.intro rfl ?_)) ?_
          refine TC.loopK [1, 2, 4, 5, 7, 8] (X := Nat) (fun i => i ≤ (ts.getD j default).ks.length ∧ Bnd rs.length (2000 * j + 20 * i) (IJ rs ts j i)) (fun i => [(9, .int .i64 (i : Nat))]) (fun i => [(bS, Obj.cells (intsA (IJ rs ts j i)) 3 (0, 0)), (b0, Obj.cells #[.int .i64 (n : Nat), .int .i64 (s : Nat), .int .i64 (t : Nat), .slice p rs.length cap] 24 (0, 0))]) (fun i => (ts.getD j default).ks.length - i) 0 ⟨Nat.zero_le _, by rw [IJ_zero]; exact hj.2.2.mono (by omega)⟩ (by repeat (first | exact True.intro | refine And.intro rfl ?_)) (by repeat (first | exact List.Sublist.slnil | exact List.nil_sublist _ | exact List.Sublist.refl _ | exact List.sublist_append_left _ _ | refine List.Sublist.cons_cons _ ?_ | refine (List.append_sublist_append_left _).2 ?_ | refine List.Sublist.cons _ ?_ | refine List.Sublist.trans ?_ (List.sublist_append_right _ _))) ?_
          intro i hi
          have hi1 := hi.1
          refine TC.lit [(1, _), (2, _), (7, _), (8, _), (9, _)] (by repeat (first | exact True.intro | refine And.intro rfl ?_)) ?_
          refine TC.seq ?_
          refine TC.seq ?_
          refine TC.region ?_
          refine TL.pure (PV.move rfl) rfl (by decide) ?_
          refine TL.pure (PV.move rfl) rfl (by decide) ?_
          refine TL.pure (PV.move rfl) rfl (by decide) ?_
          refine TL.pure (PV.indexA rfl hqp rfl Tb.elm_52 rfl (by omega)) rfl (by decide) ?_
          refine TL.pure (PV.fieldAddrA rfl Tb.fo_89_0) rfl (by decide) ?_
          refine TL.pure (PV.loadOld rfl Tb.one_25 (hq 0 _ rfl)) rfl (by decide) ?_
          refine TL.pure (PV.len rfl Tb.sl_25) rfl (by decide) ?_
          refine TL.pure (PV.lss rfl rfl) rfl (by decide) ?_
          refine TL.nil ?_
          refine TQ.thenC ?_
          first | refine TC.condD rfl (fun hlt2 => ?_) (fun hlt2 => ?_) | refine TC.cond rfl (fun hlt2 => ?_) (fun hlt2 => ?_)
          · skip
            refine TC.skip ?_
            refine TQ.thenC ?_
            refine TC.seq ?_
            refine TC.block ?_
            have hil : i < (ts.getD j default).ks.length := by omega
            obtain ⟨q2, q2p, q2v⟩ := hI i hil
            have hvi := trOK_at htok hil
            have hbi := hi.2.bd ((ts.getD j default).ks.getD i 0).toNat
            refine TC.mixV [true, true, true, true, true, true, true, true, true, true, true, true, true, true, true, true, true, true, false] [(bS, Obj.cells (intsA (IJ rs ts j i)) 3 (0, 0)), (b0, Obj.cells #[.int .i64 (n : Nat), .int .i64 (s : Nat), .int .i64 (t : Nat), .slice p rs.length cap] 24 (0, 0))] 19 Tb.mixed rfl (by kernel_rfl) (by kernel_rfl) (by kernel_rfl) (by kernel_rfl) (by repeat (first | exact List.Sublist.slnil | exact List.nil_sublist _ | exact List.Sublist.refl _ | refine List.Sublist.cons_cons _ ?_ | refine List.Sublist.cons _ ?_ | refine List.Sublist.trans ?_ (List.sublist_append_right _ _))) ?_
            refine TV.virt 0 rfl rfl (by decide) rfl (by kernel_rfl) (SOK.pure (PV.move rfl) rfl) ?_
            refine TV.virt 1 rfl rfl (by decide) rfl (by kernel_rfl) (SOK.pure (PV.move rfl) rfl) ?_
            refine TV.virt 2 rfl rfl (by decide) rfl (by kernel_rfl) (SOK.pure (PV.move rfl) rfl) ?_
            refine TV.virt 3 rfl rfl (by decide) rfl (by kernel_rfl) (SOK.pure (PV.indexA rfl hqp rfl Tb.elm_52 rfl (by omega)) rfl) ?_
            refine TV.virt 4 rfl rfl (by decide) rfl (by kernel_rfl) (SOK.pure (PV.fieldAddrA rfl Tb.fo_89_0) rfl) ?_
            refine TV.virt 5 rfl rfl (by decide) rfl (by kernel_rfl) (SOK.pure (PV.loadOld rfl Tb.one_25 (hq 0 _ rfl)) rfl) ?_
            refine TV.virt 6 rfl rfl (by decide) rfl (by kernel_rfl) (SOK.pure (PV.move rfl) rfl) ?_
            refine TV.virt 7 rfl rfl (by decide) rfl (by kernel_rfl) (SOK.pure (PV.indexA rfl q2p rfl Tb.elm_25 rfl (by omega)) rfl) ?_
            refine TV.virt 8 rfl rfl (by decide) rfl (by kernel_rfl) (SOK.pure (PV.loadOld rfl Tb.one_3 q2v) rfl) ?_
            refine TV.virt 9 rfl rfl (by decide) rfl (by kernel_rfl) (SOK.pure (PV.index (j := ((ts.getD j default).ks.getD i 0).toNat) rfl rfl Tb.elm_25 (by omega) (by omega)) rfl) ?_
            refine TV.virt 10 rfl rfl (by decide) rfl (by kernel_rfl) (SOK.pure (PV.loadIo (xs := IJ rs ts j i) ((ts.getD j default).ks.getD i 0).toNat rfl (off1 _) Tb.one_3 (by repeat (first | exact List.Mem.head _ | refine List.Mem.tail _ ?_ | refine List.mem_append_right _ ?_)) (by have := hi.2.len; omega)) rfl) ?_
            refine TV.virt 11 rfl rfl (by decide) rfl (by kernel_rfl) (SOK.pure (PV.move rfl) rfl) ?_
            refine TV.virt 12 rfl rfl (by decide) rfl (by kernel_rfl) (SOK.pure (PV.move rfl) rfl) ?_
            refine TV.virt 13 rfl rfl (by decide) rfl (by kernel_rfl) (SOK.pure (PV.indexA rfl hqp rfl Tb.elm_52 rfl (by omega)) rfl) ?_
            refine TV.virt 14 rfl rfl (by decide) rfl (by kernel_rfl) (SOK.pure (PV.fieldAddrA rfl Tb.fo_89_1) rfl) ?_
            refine TV.virt 15 rfl rfl (by decide) rfl (by kernel_rfl) (SOK.pure (PV.loadOld rfl Tb.one_3 (hq 1 _ rfl)) rfl) ?_
            refine TV.virt 16 rfl rfl (by decide) rfl (by kernel_rfl) (SOK.pure (PV.add rfl rfl (by omega)) rfl) ?_
            refine TV.virt 17 rfl rfl (by decide) rfl (by kernel_rfl) (SOK.pure (PV.index (j := ((ts.getD j default).ks.getD i 0).toNat) rfl rfl Tb.elm_25 (by omega) (by omega)) rfl) ?_
            refine TV.step [18] (by kernel_rfl) (by decide) rfl ⟨⟨_, rfl, ?_⟩, trivial⟩
            refine TL.storeIo (xs := IJ rs ts j i) ((ts.getD j default).ks.getD i 0).toNat (addK (ts.getD j default).am (IJ rs ts j i) ((ts.getD j default).ks.getD i 0)) rfl rfl (off1 _) rfl Tb.cells_3 (by repeat (first | exact Upd.head _ | apply Upd.tail | apply Upd.appR)) (by have := hi.2.len; omega) rfl rfl ?_
            refine TL.nil ?_
            refine TV.next (.inr (by kernel_rfl)) ?_
            refine TV.done (by kernel_rfl) ?_
            refine TQ.blkN ?_
            refine TQ.thenC ?_
            refine TC.region ?_
            refine TL.pure (PV.move rfl) rfl (by decide) ?_
            refine TL.pure (PV.add rfl rfl (by omega)) rfl (by decide) ?_
            refine TL.pure (PV.assign rfl) rfl (by decide) ?_
            refine TL.nil ?_
            refine TQ.thenN ?_
            refine TQ.backK (i + 1) (by repeat (first | exact True.intro | refine And.intro rfl ?_)) (by repeat (first | exact True.intro | refine And.intro rfl ?_)) (by rw [IJ_next hil]; exact (by repeat (first | exact List.Sublist.slnil | exact List.nil_sublist _ | exact List.Sublist.refl _ | exact List.sublist_append_left _ _ | refine List.Sublist.cons_cons _ ?_ | refine (List.append_sublist_append_left _).2 ?_ | refine List.Sublist.cons _ ?_ | refine List.Sublist.trans ?_ (List.sublist_append_right _ _)))) ⟨by omega, by rw [IJ_next hil]; exact (hi.2.add ham).mono (by omega)⟩ (by omega)
          · skip
            refine TC.exit ?_
            refine TQ.thenE ?_
            refine TQ.thenE ?_
            refine TQ.blkS ?_
            refine TQ.blkN ?_
            refine TQ.thenC ?_
            have hie : i = (ts.getD j default).ks.length := by omega
            have hnx9 : SJ rs ts (j + 1) = IJ rs ts j i := by rw [hie]; exact (IJ_all hjl).symm
            have hk100 := hsm _ (mem_getD (l := ts) hjl)
            have hnb : Bnd rs.length (2000 * (j + 1 : Nat)) (SJ rs ts (j + 1)) := by rw [hnx9]; exact hi.2.mono (by push_cast; omega)
            refine TC.region ?_
            refine TL.pure (PV.move rfl) rfl (by decide) ?_
            refine TL.pure (PV.add rfl rfl (by omega)) rfl (by decide) ?_
            refine TL.pure (PV.assign rfl) rfl (by decide) ?_
            refine TL.nil ?_
            refine TQ.thenN ?_
            refine TQ.backK (j + 1) (by repeat (first | exact True.intro | refine And.intro rfl ?_)) (by repeat (first | exact True.intro | refine And.intro rfl ?_)) (by rw [hnx9]; exact (by repeat (first | exact List.Sublist.slnil | exact List.nil_sublist _ | exact List.Sublist.refl _ | exact List.sublist_append_left _ _ | refine List.Sublist.cons_cons _ ?_ | refine (List.append_sublist_append_left _).2 ?_ | refine List.Sublist.cons _ ?_ | refine List.Sublist.trans ?_ (List.sublist_append_right _ _)))) ⟨by omega, all_take_next hj.2.1 hjl htok, hnb⟩ (by omega)
      · skip
        refine TC.exit ?_
        refine TQ.thenE ?_
        refine TQ.thenE ?_
        refine TQ.blkS ?_
        refine TQ.thenC ?_
        refine TC.seq ?_
        refine TC.region ?_
        refine TL.pure (PV.move rfl) rfl (by decide) ?_
        refine TL.pure (PV.assign rfl) rfl (by decide) ?_
        refine TL.pure (PV.assign rfl) rfl (by decide) ?_
        refine TL.nil ?_
        refine TQ.thenC ?_
        refine TC.ret ?_
        refine TQ.retE2 rfl rfl rfl ?_
        have hje : j = ts.length := by omega
        have hE := sumE_0 (s := (s : Int)) (t := (t : Int)) (rs := rs) (ts := ts) (by omega) (by have h9 := hj.2.1; rw [hje, List.take_length] at h9; exact h9)
        have hL := sumL_yes hE
        have hSl : (sumT rs ts).length = rs.length := by rw [← SJ_all, ← hje]; exact hj.2.2.len
        exact ⟨some (bS, rs.length, []), by rw [hL, hE, hSl]; rfl, by rw [hL, ← hSl]; exact go_own _ _, by rw [hL, gb_own, ← SJ_all, ← hje]; exact (by repeat (first | exact List.Sublist.slnil | exact List.nil_sublist _ | exact List.Sublist.refl _ | exact List.sublist_append_left _ _ | refine List.Sublist.cons_cons _ ?_ | refine (List.append_sublist_append_left _).2 ?_ | refine List.Sublist.cons _ ?_ | refine List.Sublist.trans ?_ (List.sublist_append_right _ _)))⟩

end Go.Proofs.Ytnlbngbbddhgeaa

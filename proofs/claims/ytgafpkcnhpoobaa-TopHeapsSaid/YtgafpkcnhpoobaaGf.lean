/- Turns and Script by the reference: contracts. -/
import Derived.Test.YtgafpkcnhpoobaaGe
set_option linter.unusedVariables false
set_option linter.unusedSimpArgs false
namespace Go.Proofs.Ytgafpkcnhpoobaa
open Go.Sx Go.RowKit Go.Sand

/-- Rows that were put in one after another. -/
structure RgI (f : Nat → List Int) (N k : Nat) (y : HD × List (HD × List Int)) : Prop where
  le : k ≤ N
  eq : y.2.map (·.2) = (List.range k).map f
  ok : goP y
  all : ∀ z ∈ y.2, goI z
theorem RgI.zero (f : Nat → List Int) (N : Nat) : RgI f N 0 (none, []) := ⟨Nat.zero_le _, rfl, ⟨rfl, rfl⟩, by simp⟩
theorem RgI.len {f : Nat → List Int} {N k : Nat} {y : HD × List (HD × List Int)} (h : RgI f N k y) : y.2.length = k := by
  have := congrArg List.length h.eq
  simpa using this
theorem RgI.step {f : Nat → List Int} {N k : Nat} {y : HD × List (HD × List Int)} {h' h2 : HD} {r : List Int} (h : RgI f N k y) (hk : k < N) (hr : r = f k) (hro : goI (h2, r)) (ho : goP (h', y.2 ++ [(h2, r)])) : RgI f N (k + 1) (h', y.2 ++ [(h2, r)]) :=
  ⟨hk, by simp only [List.map_append, List.map_cons, List.map_nil]; rw [h.eq, List.range_succ, List.map_append, hr]; rfl, ho, fun z hz => by
    rcases List.mem_append.1 hz with hz | hz
    · exact h.all z hz
    · rw [List.mem_singleton.1 hz]; exact hro⟩
section
variable {P : Program} {n : Nat} {w0 : World} {E : Env} {G : Heap} {d : Option Nat} {ty : TypeId} {pos : String} {aft : Array Edge} {g : Option (Nat × Bool)}
theorem PV.loadGP {x : Operand} {j t : Nat} {y : HD × List (HD × List Int)} {v : Value} (hx : evo E x = some (.pointer (some ⟨(y.1.map (·.1)).getD 0, j * 1, none⟩))) (ht : oneB P t = true)
    (hm : ∀ q ∈ gbP y, q ∈ G) (hok : goP y) (hj : j < y.2.length) (hv : gvI (y.2.getD j (none, [])) = v) : PV P n w0 E G ⟨d, .load t x, ty, pos, aft, g⟩ v := by
  subst hv
  obtain ⟨h, l⟩ := y
  cases h with
  | none => exact absurd hok.2 (by simp only at hj ⊢; omega)
  | some hh =>
    obtain ⟨b, cap, sp⟩ := hh
    simp only [Option.map_some, Option.getD_some, Nat.mul_one] at hx
    refine PV.loadG' hx ht (hm _ (.head _)) ?_
    simp only at hj
    rw [List.getElem?_toArray, List.getElem?_append_left (by simpa using hj)]
    simp [List.getD, hj]
end
theorem tmod_bd (a : Int) {b : Int} (hb : 1 ≤ b) : -b < a.tmod b ∧ a.tmod b < b := by
  refine ⟨?_, Int.tmod_lt_of_pos a (by omega)⟩
  by_cases h : 0 ≤ a
  · have := Int.tmod_nonneg b h; omega
  · have h1 := Int.tmod_lt_of_pos (-a) (show 0 < b by omega)
    rw [Int.neg_tmod] at h1
    omega
abbrev vsF (xs ys : List Int) : Nat → Int := fun i => xs.getD i 0 - ys.getD i 0
abbrev rpL (ls : List (List Int)) (gs xs ys : List Int) (k : Nat) : Nat → List Int := fun i => (mk gs.length (mF ls gs i)).set k (vsF xs ys i)
abbrev dtK (ls : List (List Int)) (gs xs ys : List Int) (k : Nat) : Int := detF gs.length (repF (mF ls gs) k (vsF xs ys))
theorem mx_row {ls : List (List Int)} {gs : List Int} {y : HD × List (HD × List Int)} (h : MxP ls gs y) {i : Nat} (hi : i < gs.length) : goI (y.2.getD i (none, [])) ∧ (y.2.getD i (none, [])).2 = mk gs.length (mF ls gs i) ∧ (y.2.getD i (none, [])) ∈ y.2 := by
  have hl := h.len
  have hmem : y.2.getD i (none, []) ∈ y.2 := by simp [List.getD, show i < y.2.length by omega]
  refine ⟨h.all _ hmem, ?_, hmem⟩
  have e : (y.2.map (·.2)).getD i [] = (tabM gs.length (mF ls gs)).getD i [] := by rw [h.eq]
  rw [tabM_row hi] at e
  rw [← e]
  simp [List.getD, show i < y.2.length by omega]
theorem bl_mem {ps : List (HD × List Int)} {x : HD × List Int} (h : x ∈ ps) : ∀ y ∈ gbI x, y ∈ bl ps := fun y hy => by
  unfold bl
  rw [List.mem_flatMap]
  exact ⟨_, List.mem_reverse.2 h, hy⟩
theorem rp_sh {ls : List (List Int)} {gs xs ys : List Int} {k : Nat} : Sh ((List.range gs.length).map (rpL ls gs xs ys k)) gs.length := ⟨by simp, fun i hi => by simp [List.getD, hi, mk_len]⟩
theorem rp_get {ls : List (List Int)} {gs xs ys : List Int} {k i j : Nat} (hi : i < gs.length) (hj : j < gs.length) : getM ((List.range gs.length).map (rpL ls gs xs ys k)) i j = repF (mF ls gs) k (vsF xs ys) i j := by
  have e : ((List.range gs.length).map (rpL ls gs xs ys k)).getD i [] = rpL ls gs xs ys k i := by simp [List.getD, hi]
  show (((List.range gs.length).map (rpL ls gs xs ys k)).getD i []).getD j 0 = _
  rw [e]
  show ((mk gs.length (mF ls gs i)).set k (vsF xs ys i)).getD j 0 = _
  unfold repF
  by_cases hk : k < gs.length
  · rw [set_at (by rw [mk_len]; exact hk)]
    by_cases e : k = j
    · rw [if_pos e, if_pos e.symm]
    · rw [if_neg e, if_neg (fun h => e h.symm), mk_at _ hj]
  · rw [List.set_eq_of_length_le (by rw [mk_len]; omega), mk_at _ hj, if_neg (by omega)]
theorem rp_bd {ls : List (List Int)} {gs xs ys : List Int} (hB : HB ls gs) (hx0 : ∀ k, 0 ≤ xs.getD k 0 ∧ xs.getD k 0 ≤ 30) (hy0 : ∀ k, 0 ≤ ys.getD k 0 ∧ ys.getD k 0 ≤ 30) (k : Nat) : ∀ a b, a < gs.length → b < gs.length → Bn (repF (mF ls gs) k (vsF xs ys) a b) 30 := fun a b ha _ => by
  unfold repF
  split
  · have := hx0 a; have := hy0 a; unfold Bn; show _ ≤ xs.getD a 0 - ys.getD a 0 ∧ xs.getD a 0 - ys.getD a 0 ≤ _; omega
  · exact mF_bd hB ha b
theorem rdet_rp {ls : List (List Int)} {gs xs ys : List Int} (hB : HB ls gs) (hx0 : ∀ k, 0 ≤ xs.getD k 0 ∧ xs.getD k 0 ≤ 30) (hy0 : ∀ k, 0 ≤ ys.getD k 0 ∧ ys.getD k 0 ≤ 30) {k : Nat} {y : HD × List (HD × List Int)} (h : RgI (rpL ls gs xs ys k) gs.length gs.length y) {w0 w : World} {G : Heap} (hn : New w0 w G) (hm : ∀ z ∈ gbP y, z ∈ G) (hb : ∀ z ∈ bl y.2, z ∈ G) :
    Calls Try.prog 89 #[gvP y] w (Post (X := Unit) (fun _ => .int .i64 (dtK ls gs xs ys k)) (fun _ => True) (fun _ => []) w) := by
  have hr := RowsAt.g hn hm hb h.ok h.all
  rw [h.eq] at hr
  have hg : ∀ a b, a < gs.length → b < gs.length → repF (mF ls gs) k (vsF xs ys) a b = getM ((List.range gs.length).map (rpL ls gs xs ys k)) a b := fun a b ha hb => (rp_get ha hb).symm
  have h2 := det_ok gs.length (by have := hB.n; omega) w (gp y.1) (gc y.1) _ hr rp_sh (((det_bn hB.n.2 (rp_bd hB hx0 hy0 k)).1).congr hg)
  rw [← detF_congr _ hg] at h2
  rw [show gvP y = .slice (gp y.1) gs.length (gc y.1) by rw [show gvP y = .slice (gp y.1) y.2.length (gc y.1) from gval_eq h.ok, h.len]]
  exact h2
theorem dt_bd {ls : List (List Int)} {gs xs ys : List Int} (hB : HB ls gs) (hx0 : ∀ k, 0 ≤ xs.getD k 0 ∧ xs.getD k 0 ≤ 30) (hy0 : ∀ k, 0 ≤ ys.getD k 0 ∧ ys.getD k 0 ≤ 30) (k : Nat) : -2916000000 ≤ dtK ls gs xs ys k ∧ dtK ls gs xs ys k ≤ 2916000000 := (det_bn hB.n.2 (rp_bd hB hx0 hy0 k)).2
/-- The numbers of a script so far. -/
structure SkI (ls : List (List Int)) (gs xs ys : List Int) (k : Nat) (y : HD × List Int) : Prop where
  a : ApK (fun j => (dtK ls gs xs ys j).tdiv (detF gs.length (mF ls gs))) gs.length k y
  m : ∀ j, j < k → (dtK ls gs xs ys j).tmod (detF gs.length (mF ls gs)) = 0
theorem sk_no {ls : List (List Int)} {gs xs ys : List Int} {k : Nat} (hB : HB ls gs) (hk : k < gs.length) (h : ¬ (dtK ls gs xs ys k).tmod (detF gs.length (mF ls gs)) = 0) : ¬ AlkL ls gs xs ys := fun ⟨s, hs⟩ => h (by
  have h1 := script_det hB.n.2 hB.G (s := s) (v := vsF xs ys) (fun i hi => by have : ys.getD i 0 = xs.getD i 0 - _ := hs i hi; show _ = xs.getD i 0 - ys.getD i 0; omega) k hk
  show (detF gs.length (repF (mat gs.length (lk ls) (gd gs)) k (vsF xs ys))).tmod _ = 0
  rw [h1]
  exact Int.mul_tmod_right _ _)
theorem sk_yes {ls : List (List Int)} {gs xs ys s : List Int} (hB : HB ls gs) (he : s = mk gs.length fun j => (dtK ls gs xs ys j).tdiv (detF gs.length (mF ls gs))) (h : ∀ j, j < gs.length → (dtK ls gs xs ys j).tmod (detF gs.length (mF ls gs)) = 0) :
    ∀ i, i < gs.length → ys.getD i 0 = xs.getD i 0 - dl gs.length (lk ls) (gd gs) (gd s) i := fun i hi => by
  have hd := det_1 hB
  have h1 : dl gs.length (lk ls) (gd gs) (fun k => dtK ls gs xs ys k) i = detF gs.length (mF ls gs) * vsF xs ys i := det_script hB.n.2 (vsF xs ys) hi
  have h2 : dl gs.length (lk ls) (gd gs) (fun k => dtK ls gs xs ys k) i = dl gs.length (lk ls) (gd gs) (fun k => detF gs.length (mF ls gs) * gd s k) i := dl_congr (fun j hj => by
    have e := Int.tmod_def (dtK ls gs xs ys j) (detF gs.length (mF ls gs))
    rw [h j hj] at e
    have e2 : gd s j = (dtK ls gs xs ys j).tdiv (detF gs.length (mF ls gs)) := by rw [he]; exact mk_at _ hj
    rw [e2]
    omega) hi
  rw [h2, dl_smul] at h1
  have h3 := Int.eq_of_mul_eq_mul_left (by omega) h1
  rw [h3]
  show ys.getD i 0 = xs.getD i 0 - (xs.getD i 0 - ys.getD i 0)
  omega
theorem ScrP.unique {ls : List (List Int)} {gs xs ys s t : List Int} {b c : Bool} (h : ScrP ls gs xs ys s b) (k : ScrP ls gs xs ys t c) : s = t ∧ b = c := by
  by_cases h0 : givI ls gs [xs, ys] ≠ 0
  · rw [(h.bad h0).1, (h.bad h0).2, (k.bad h0).1, (k.bad h0).2]; exact ⟨rfl, rfl⟩
  · cases b with
    | true =>
      obtain ⟨h1, h2⟩ := h.yes h0 rfl
      cases c with
      | true =>
        obtain ⟨k1, k2⟩ := k.yes h0 rfl
        refine ⟨ints_ext (by rw [h1, k1]) fun j hj => ?_, rfl⟩
        have hB := (giv_hb h0).1
        have h3 := dl_inj hB.G (s := fun i => gd s i - gd t i) (fun i hi => by rw [dl_sub]; have := h2 i hi; have := k2 i hi; omega) j (by omega)
        have h4 : s.getD j 0 - t.getD j 0 = 0 := h3
        omega
      | false => exact absurd ⟨gd s, h2⟩ (k.no h0 rfl).2
    | false =>
      obtain ⟨h1, h2⟩ := h.no h0 rfl
      cases c with
      | true =>
        obtain ⟨k1, k2⟩ := k.yes h0 rfl
        exact absurd ⟨gd t, k2⟩ h2
      | false => exact ⟨by rw [h1, (k.no h0 rfl).1], rfl⟩


set_option maxRecDepth 100000 in
set_option maxHeartbeats 2000000 in
theorem rTurns_ok (w0 : World) (p : Option Addr) (cp : Nat) (ls : List (List Int)) (hr : LsAt w0 p ls) (q : Option Addr) (cq : Nat) (gs : List Int) (hg : IntsAt w0 q gs) (hlo : ∀ k, (ls.getD k []).length ≤ 1000000) (pl : Option Addr) (cl : Nat) (xs : List Int) (hx : IntsAt w0 pl xs) (hxo : xs.length ≤ 1000000) :
    Calls Try.prog 53 #[hv p ls.length cp q gs.length cq, .slice pl xs.length cl] w0 (Post (X := Int) (fun n => .tuple #[.int .i64 n, .int .i64 (vlI ls gs xs)]) (fun n => TurP ls gs xs n) (fun _ => []) w0) := by
  refine calls Try.func53 rfl (n := 45) rfl (by simp) ?_
  refine TC.seq ?_
  refine TC.region ?_
  refine TL.box rfl rfl (by decide) (fun b0 hb0 => ?_)
  refine TL.pure (PV.assign rfl) rfl (by decide) ?_
  refine TL.pure (PV.assign rfl) rfl (by decide) ?_
  refine TL.nil ?_
  refine TQ.thenC ?_
  refine TC.seq ?_
  refine TC.region ?_
  refine TL.pure (PV.loadBox rfl Tb.agg_25 (by repeat (first | exact List.Mem.head _ | refine List.Mem.tail _ ?_ | refine List.mem_append_right _ ?_)) rfl) rfl (by decide) ?_
  refine TL.pure (PV.move rfl) rfl (by decide) ?_
  refine TL.buildSlice (cs := #[.slice pl xs.length cl]) rfl Tb.sl_22 Tb.zi_23 (by decide) (fill_o _ _ _) (by decide) rfl (by decide) (fun bS hbS => ?_)
  refine TL.call rfl Tb.gofn_69 (fun a w hs => given_ok w _ _ _ (hr.new hs.new) _ _ _ (hg.new hs.new) hlo _ 1 [xs] (LsAt.one hs.new (by repeat (first | exact List.Mem.head _ | refine List.Mem.tail _ ?_ | refine List.mem_append_right _ ?_)) (hx.new hs.new)) (by simp) (one_len hxo)) rfl (by decide) (fun _ _ => ?_)
  refine TL.pure (PV.assign rfl) rfl (by decide) ?_
  refine TL.nil ?_
  refine TQ.thenC ?_
  refine TC.seq ?_
  refine TC.seq ?_
  refine TC.region ?_
  refine TL.pure (PV.move rfl) rfl (by decide) ?_
  refine TL.pure (PV.neq rfl rfl) rfl (by decide) ?_
  refine TL.nil ?_
  refine TQ.thenC ?_
  first | refine TC.condD rfl (fun hbad => ?_) (fun hbad => ?_) | refine TC.cond rfl (fun hbad => ?_) (fun hbad => ?_)
  · skip
    refine TC.seq ?_
    refine TC.region ?_
    refine TL.pure (PV.move rfl) rfl (by decide) ?_
    refine TL.pure (PV.assign rfl) rfl (by decide) ?_
    refine TL.pure (PV.assign rfl) rfl (by decide) ?_
    refine TL.nil ?_
    refine TQ.thenC ?_
    refine TC.ret ?_
    refine TQ.thenR ?_
    refine TQ.retE2 rfl rfl rfl ?_
    exact ⟨0, by rw [vl_bad hbad], ⟨fun _ => rfl, fun h2 => absurd hbad (by rw [vl_bad hbad] at h2; exact h2)⟩, List.nil_sublist _⟩
  · skip
    refine TC.skip ?_
    refine TQ.thenC ?_
    refine TC.seq ?_
    refine TC.seq ?_
    have hB := (giv_hb hbad).1
    have hn9 := hB.n
    obtain ⟨hxl, hx0⟩ := giv_ne hbad
    refine TC.region ?_
    refine TL.pure (PV.loadBox rfl Tb.agg_25 (by repeat (first | exact List.Mem.head _ | refine List.Mem.tail _ ?_ | refine List.mem_append_right _ ?_)) rfl) rfl (by decide) ?_
    refine TL.pure (PV.move rfl) rfl (by decide) ?_
    refine TL.call rfl Tb.gofn_85 (fun a w hs => rlasts_ok w _ _ _ (hr.new hs.new) _ _ _ (hg.new hs.new) hB _ _ _ (hx.new hs.new) _ rfl hxl hx0) rfl (by decide) (fun b9 hb9 => ?_)
    refine TL.pure ((by first | exact PV.notD rfl | exact PV.not rfl)) rfl (by decide) ?_
    refine TL.nil ?_
    refine TQ.thenC ?_
    first | refine TC.condD rfl (fun hl9 => ?_) (fun hl9 => ?_) | refine TC.cond rfl (fun hl9 => ?_) (fun hl9 => ?_)
    · skip
      refine TC.seq ?_
      refine TC.region ?_
      refine TL.pure (PV.assign rfl) rfl (by decide) ?_
      refine TL.pure (PV.assign rfl) rfl (by decide) ?_
      refine TL.nil ?_
      refine TQ.thenC ?_
      refine TC.ret ?_
      refine TQ.thenR ?_
      refine TQ.retE2 rfl rfl rfl ?_
      have h8 := vl_8 hbad (fun h => by rw [hb9.2 h] at hl9; exact absurd hl9 (by decide))
      exact ⟨0, by rw [h8], ⟨fun _ => rfl, fun h2 => absurd (by rw [h8]; decide) h2⟩, List.nil_sublist _⟩
    · skip
      refine TC.skip ?_
      refine TQ.thenC ?_
      refine TC.seq ?_
      have hvl := vl_0 hbad (hb9.1 (by simpa using hl9))
      have hd1 := det_1 hB
      have hd2 := det_hi hB
      refine TC.mix [true, false, false, true, false, false, false] _ 5 Tb.mixed rfl (by kernel_rfl) (by kernel_rfl) (by kernel_rfl) (by kernel_rfl) (List.Sublist.refl _) ?_
      refine TB.op (SOK.pure (PV.loadBox rfl Tb.agg_25 (by repeat (first | exact List.Mem.head _ | refine List.Mem.tail _ ?_ | refine List.mem_append_right _ ?_)) rfl) rfl) (by decide) ?_
      refine TB.no ?_
      refine TB.no ?_
      refine TB.op (SOK.pure (PV.loadBox rfl Tb.agg_25 (by repeat (first | exact List.Mem.head _ | refine List.Mem.tail _ ?_ | refine List.mem_append_right _ ?_)) rfl) rfl) (by decide) ?_
      refine TB.no ?_
      refine TB.no ?_
      refine TB.no ?_
      refine TB.fin ?_
      refine TX.step [1] (by kernel_rfl) (by decide) ⟨⟨_, rfl, ?_⟩, trivial⟩
      refine TL.call rfl Tb.gofn_90 (fun a w hs => rmatrix_ok w _ _ _ (hr.new hs.new) _ _ _ (hg.new hs.new) hB) rfl (by decide) (fun m9 hm9 => ?_)
      refine TL.nil ?_
      refine TX.next (.inl (by repeat (first | exact List.Sublist.slnil | exact List.nil_sublist _ | exact List.Sublist.refl _ | refine List.Sublist.cons_cons _ ?_ | refine List.Sublist.cons _ ?_ | refine List.Sublist.trans ?_ (List.sublist_append_right _ _)))) ?_
      refine TX.step [2] (by kernel_rfl) (by decide) ⟨⟨_, rfl, ?_⟩, trivial⟩
      refine TL.call rfl Tb.gofn_89 (fun a w hs => rdet_mx hB hm9 hs.new (fun yy hyy => by repeat (first | exact List.mem_append_left _ hyy | exact List.mem_append_left _ (List.mem_append_right _ hyy) | exact List.mem_append_left _ (List.mem_append_left _ hyy) | refine List.mem_append_right _ ?_ | refine List.Mem.tail _ ?_)) (fun yy hyy => by repeat (first | exact List.mem_append_left _ hyy | exact List.mem_append_left _ (List.mem_append_right _ hyy) | exact List.mem_append_left _ (List.mem_append_left _ hyy) | refine List.mem_append_right _ ?_ | refine List.Mem.tail _ ?_))) rfl (by decide) (fun _ _ => ?_)
      refine TL.nil ?_
      refine TX.next (.inl (by repeat (first | exact List.Sublist.slnil | exact List.nil_sublist _ | exact List.Sublist.refl _ | refine List.Sublist.cons_cons _ ?_ | refine List.Sublist.cons _ ?_ | refine List.Sublist.trans ?_ (List.sublist_append_right _ _)))) ?_
      refine TX.step [4] (by kernel_rfl) (by decide) ⟨⟨_, rfl, ?_⟩, trivial⟩
      refine TL.call rfl Tb.gofn_92 (fun a w hs => rzero_ok w _ _ _ (hr.new hs.new) _ _ _ (hg.new hs.new) hB) rfl (by decide) (fun z9 hz9 => ?_)
      refine TL.nil ?_
      refine TX.next (.inl (by repeat (first | exact List.Sublist.slnil | exact List.nil_sublist _ | exact List.Sublist.refl _ | refine List.Sublist.cons_cons _ ?_ | refine List.Sublist.cons _ ?_ | refine List.Sublist.trans ?_ (List.sublist_append_right _ _)))) ?_
      refine TX.step [5] (by kernel_rfl) (by decide) ⟨⟨_, rfl, ?_⟩, trivial⟩
      refine TL.pure (PV.assign rfl) rfl (by decide) ?_
      refine TL.nil ?_
      refine TX.next (.inl (by repeat (first | exact List.Sublist.slnil | exact List.nil_sublist _ | exact List.Sublist.refl _ | refine List.Sublist.cons_cons _ ?_ | refine List.Sublist.cons _ ?_ | refine List.Sublist.trans ?_ (List.sublist_append_right _ _)))) ?_
      refine TX.step [6] (by kernel_rfl) (by decide) ⟨⟨_, rfl, ?_⟩, trivial⟩
      refine TL.pure (PV.assign rfl) rfl (by decide) ?_
      refine TL.nil ?_
      refine TX.next (.inr (by kernel_rfl)) ?_
      refine TX.done (by kernel_rfl) ?_
      refine TQ.thenC ?_
      refine TC.seq ?_
      refine TC.seq ?_
      refine TC.region ?_
      refine TL.pure (PV.assign rfl) rfl (by decide) ?_
      refine TL.nil ?_
      refine TQ.thenC ?_
      refine TC.block ?_
      -- live and written in the loop, not told: [4, 5]
      refine TC.loopK [1, 2, 7, 8] (X := Int) (fun x => DvI ls gs xs x) (fun x => [(9, .int .i64 x)]) (fun x => gbI z9 ++ [(b0, Obj.cells #[.slice p ls.length cp, .slice q gs.length cq] 25 (0, 0))]) (fun x => ((detF gs.length (mF ls gs)) - x).toNat) 1 (DvI.start hB xs) (by repeat (first | exact True.intro | refine And.intro rfl ?_)) (List.Sublist.append_left (List.Sublist.trans (List.Sublist.cons _ (List.Sublist.refl _)) (List.sublist_append_right _ _)) _) ?_
      intro x hx9
      have hn1 := hx9.n1
      have hnD := hx9.nD
      refine TC.seq ?_
      refine TC.seq ?_
      refine TC.region ?_
      refine TL.pure (PV.move rfl) rfl (by decide) ?_
      refine TL.pure (PV.move rfl) rfl (by decide) ?_
      refine TL.pure (PV.lss rfl rfl) rfl (by decide) ?_
      refine TL.nil ?_
      refine TQ.thenC ?_
      first | refine TC.condD rfl (fun hlt => ?_) (fun hlt => ?_) | refine TC.cond rfl (fun hlt => ?_) (fun hlt => ?_)
      · skip
        refine TC.skip ?_
        refine TQ.thenC ?_
        refine TC.seq ?_
        refine TC.block ?_
        refine TC.seq ?_
        have hm5 := Int.tmod_nonneg x (show 0 ≤ detF gs.length (mF ls gs) by omega)
        have hm6 := Int.tmod_lt_of_pos (detF gs.length (mF ls gs)) (show 0 < x by omega)
        refine TC.region ?_
        refine TL.pure (PV.move rfl) rfl (by decide) ?_
        refine TL.pure (PV.move rfl) rfl (by decide) ?_
        refine TL.pure (PV.rem rfl rfl (by omega) (by omega)) rfl (by decide) ?_
        refine TL.pure (PV.eql rfl rfl) rfl (by decide) ?_
        refine TL.pure (PV.move rfl) rfl (by decide) ?_
        first | refine TL.splitD 35 rfl (fun g1 => ?_) (fun g1 => ?_) | refine TL.split 35 rfl (fun g1 => ?_) (fun g1 => ?_)
        · skip
          refine TL.pure (PV.loadBox rfl Tb.agg_25 (by repeat (first | exact List.Mem.head _ | refine List.Mem.tail _ ?_ | refine List.mem_append_right _ ?_)) rfl) rfl (by decide) ?_
          refine TL.pure (PV.move rfl) rfl (by decide) ?_
          refine TL.pure (PV.move rfl) rfl (by decide) ?_
          refine TL.call rfl Tb.gofn_97 (fun a w hs => rtimes_ok w _ _ _ (hr.new hs.new) _ _ _ (hg.new hs.new) hB _ _ _ (hx.new hs.new) _ rfl hxl hx0 x (by omega)) rfl (by decide) (fun y9 hy9 => ?_)
          refine TL.pure (PV.move rfl) rfl (by decide) ?_
          refine TL.call rfl Tb.gofn_30 (fun a w hs => (by rw [gval_eq (gog hy9.2 hy9.1.1.1), gval_eq (gog hz9.2 hz9.1.1.1)]; exact sameInts_ok w _ _ y9.2 (IntsAt.g (x := y9) hs.new (fun yy hyy => by repeat (first | exact List.mem_append_left _ hyy | exact List.mem_append_left _ (List.mem_append_right _ hyy) | exact List.mem_append_left _ (List.mem_append_left _ hyy) | refine List.mem_append_right _ ?_ | refine List.Mem.tail _ ?_)) hy9.2) _ hy9.1.1.1 _ _ z9.2 (IntsAt.g (x := z9) hs.new (fun yy hyy => by repeat (first | exact List.mem_append_left _ hyy | exact List.mem_append_left _ (List.mem_append_right _ hyy) | exact List.mem_append_left _ (List.mem_append_left _ hyy) | refine List.mem_append_right _ ?_ | refine List.Mem.tail _ ?_)) hz9.2) _ hz9.1.1.1 (by omega) (by omega))) rfl (by decide) (fun _ _ => ?_)
          refine TL.pure (PV.pickT rfl rfl) rfl (by decide) ?_
          refine TL.nil ?_
          refine TQ.thenC ?_
          first | refine TC.condD rfl (fun hq => ?_) (fun hq => ?_) | refine TC.cond rfl (fun hq => ?_) (fun hq => ?_)
          · skip
            refine TC.seq ?_
            refine TC.region ?_
            refine TL.pure (PV.move rfl) rfl (by decide) ?_
            refine TL.pure (PV.assign rfl) rfl (by decide) ?_
            refine TL.pure (PV.assign rfl) rfl (by decide) ?_
            refine TL.nil ?_
            refine TQ.thenC ?_
            refine TC.ret ?_
            refine TQ.blkR ?_
            refine TQ.thenR ?_
            refine TQ.thenR ?_
            refine TQ.blkR ?_
            refine TQ.thenR ?_
            refine TQ.retE2 rfl rfl rfl ?_
            exact ⟨x, by rw [hvl], ⟨fun h2 => absurd hvl h2, fun _ => ⟨hn1, (zero_iff hB hz9.1 hy9.1).1 hq, hx9.m⟩⟩, List.nil_sublist _⟩
          · skip
            have hnx := hx9.step hlt (fun h => hq ((zero_iff hB hz9.1 hy9.1).2 h))
            refine TC.skip ?_
            refine TQ.blkN ?_
            refine TQ.thenC ?_
            refine TC.region ?_
            refine TL.pure (PV.move rfl) rfl (by decide) ?_
            refine TL.pure (PV.add rfl rfl (by omega)) rfl (by decide) ?_
            refine TL.pure (PV.assign rfl) rfl (by decide) ?_
            refine TL.nil ?_
            refine TQ.thenN ?_
            refine TQ.backK (x + 1) (by repeat (first | exact True.intro | refine And.intro rfl ?_)) (by repeat (first | exact True.intro | refine And.intro rfl ?_)) (by first | exact List.Sublist.refl _ | exact List.sublist_append_right _ _) hnx (by omega)
        · skip
          refine TL.skip rfl (fun k hk => by cases hk; decide) ?_
          refine TL.skip rfl (fun k hk => by cases hk; decide) ?_
          refine TL.skip rfl (fun k hk => by cases hk; decide) ?_
          refine TL.skip rfl (fun k hk => by cases hk; decide) ?_
          refine TL.skip rfl (fun k hk => by cases hk; decide) ?_
          refine TL.skip rfl (fun k hk => by cases hk; decide) ?_
          refine TL.pure (PV.pickF rfl rfl) rfl (by decide) ?_
          refine TL.nil ?_
          refine TQ.thenC ?_
          refine TC.condF rfl ?_
          have hnx := hx9.step hlt (hx9.no hB g1)
          refine TC.skip ?_
          refine TQ.blkN ?_
          refine TQ.thenC ?_
          refine TC.region ?_
          refine TL.pure (PV.move rfl) rfl (by decide) ?_
          refine TL.pure (PV.add rfl rfl (by omega)) rfl (by decide) ?_
          refine TL.pure (PV.assign rfl) rfl (by decide) ?_
          refine TL.nil ?_
          refine TQ.thenN ?_
          refine TQ.backK (x + 1) (by repeat (first | exact True.intro | refine And.intro rfl ?_)) (by repeat (first | exact True.intro | refine And.intro rfl ?_)) (by first | exact List.Sublist.refl _ | exact List.sublist_append_right _ _) hnx (by omega)
      · skip
        refine TC.exit ?_
        refine TQ.thenE ?_
        refine TQ.thenE ?_
        refine TQ.blkS ?_
        refine TQ.thenC ?_
        refine TC.seq ?_
        refine TC.region ?_
        refine TL.pure (PV.move rfl) rfl (by decide) ?_
        refine TL.pure (PV.assign rfl) rfl (by decide) ?_
        refine TL.pure (PV.assign rfl) rfl (by decide) ?_
        refine TL.nil ?_
        refine TQ.thenC ?_
        refine TC.ret ?_
        refine TQ.retE2 rfl rfl rfl ?_
        exact ⟨(detF gs.length (mF ls gs)), by rw [hvl], ⟨fun h2 => absurd hvl h2, fun _ => hx9.fin hB hlt⟩, List.nil_sublist _⟩

set_option maxRecDepth 100000 in
set_option maxHeartbeats 4000000 in
theorem rScript_ok (w0 : World) (p : Option Addr) (cp : Nat) (ls : List (List Int)) (hr : LsAt w0 p ls) (q : Option Addr) (cq : Nat) (gs : List Int) (hg : IntsAt w0 q gs) (hlo : ∀ k, (ls.getD k []).length ≤ 1000000) (pl : Option Addr) (cl : Nat) (xs : List Int) (hx : IntsAt w0 pl xs) (hxo : xs.length ≤ 1000000) (p2 : Option Addr) (c2 : Nat) (ys : List Int) (hy : IntsAt w0 p2 ys) (hyo : ys.length ≤ 1000000) :
    Calls Try.prog 57 #[hv p ls.length cp q gs.length cq, .slice pl xs.length cl, .slice p2 ys.length c2] w0 (Post (X := HD × List Int × Bool) (fun y => .tuple #[gval y.1 y.2.1.length, .bool y.2.2, .int .i64 (givI ls gs [xs, ys])]) (fun y => ScrP ls gs xs ys y.2.1 y.2.2 ∧ goI (y.1, y.2.1)) (fun y => gbI (y.1, y.2.1)) w0) := by
  refine calls Try.func57 rfl (n := 77) rfl (by simp) ?_
  refine TC.seq ?_
  refine TC.region ?_
  refine TL.box rfl rfl (by decide) (fun b0 hb0 => ?_)
  refine TL.pure (PV.assign rfl) rfl (by decide) ?_
  refine TL.pure (PV.assign rfl) rfl (by decide) ?_
  refine TL.pure (PV.assign rfl) rfl (by decide) ?_
  refine TL.nil ?_
  refine TQ.thenC ?_
  refine TC.seq ?_
  refine TC.region ?_
  refine TL.pure (PV.loadBox rfl Tb.agg_25 (by repeat (first | exact List.Mem.head _ | refine List.Mem.tail _ ?_ | refine List.mem_append_right _ ?_)) rfl) rfl (by decide) ?_
  refine TL.pure (PV.move rfl) rfl (by decide) ?_
  refine TL.pure (PV.move rfl) rfl (by decide) ?_
  refine TL.buildSlice (cs := #[.slice pl xs.length cl, .slice p2 ys.length c2]) rfl Tb.sl_22 Tb.zi_23 (by decide) (fill_oo _ _ _ _ _ _) (by decide) rfl (by decide) (fun bS hbS => ?_)
  refine TL.call rfl Tb.gofn_69 (fun a w hs => given_ok w _ _ _ (hr.new hs.new) _ _ _ (hg.new hs.new) hlo _ 2 [xs, ys] (LsAt.two hs.new (by repeat (first | exact List.Mem.head _ | refine List.Mem.tail _ ?_ | refine List.mem_append_right _ ?_)) (hx.new hs.new) (hy.new hs.new)) (by simp) (two_len hxo hyo)) rfl (by decide) (fun _ _ => ?_)
  refine TL.pure (PV.assign rfl) rfl (by decide) ?_
  refine TL.nil ?_
  refine TQ.thenC ?_
  refine TC.seq ?_
  refine TC.seq ?_
  refine TC.region ?_
  refine TL.pure (PV.move rfl) rfl (by decide) ?_
  refine TL.pure (PV.neq rfl rfl) rfl (by decide) ?_
  refine TL.nil ?_
  refine TQ.thenC ?_
  first | refine TC.condD rfl (fun hbad => ?_) (fun hbad => ?_) | refine TC.cond rfl (fun hbad => ?_) (fun hbad => ?_)
  · skip
    refine TC.seq ?_
    refine TC.region ?_
    refine TL.pure (PV.move rfl) rfl (by decide) ?_
    refine TL.pure (PV.assign rfl) rfl (by decide) ?_
    refine TL.pure (PV.assign rfl) rfl (by decide) ?_
    refine TL.pure (PV.assign rfl) rfl (by decide) ?_
    refine TL.nil ?_
    refine TQ.thenC ?_
    refine TC.ret ?_
    refine TQ.thenR ?_
    refine TQ.retE3 rfl rfl rfl rfl ?_
    exact ⟨(none, [], false), rfl, ⟨⟨fun _ => ⟨rfl, rfl⟩, fun h2 => absurd hbad h2, fun h2 => absurd hbad h2⟩, goI_nil⟩, List.nil_sublist _⟩
  · skip
    refine TC.skip ?_
    refine TQ.thenC ?_
    refine TC.seq ?_
    have hB := (giv_hb hbad).1
    have hn9 := hB.n
    obtain ⟨⟨hxl, hx0⟩, hyl, hy0⟩ := giv_two hbad
    have hd1 := det_1 hB
    have hd2 := det_hi hB
    refine TC.region ?_
    refine TL.pure (PV.loadBox rfl Tb.agg_25 (by repeat (first | exact List.Mem.head _ | refine List.Mem.tail _ ?_ | refine List.mem_append_right _ ?_)) rfl) rfl (by decide) ?_
    refine TL.call rfl Tb.gofn_90 (fun a w hs => rmatrix_ok w _ _ _ (hr.new hs.new) _ _ _ (hg.new hs.new) hB) rfl (by decide) (fun m9 hm9 => ?_)
    refine TL.pure (PV.assign rfl) rfl (by decide) ?_
    refine TL.nil ?_
    refine TQ.thenC ?_
    refine TC.seq ?_
    refine TC.region ?_
    refine TL.pure (PV.move rfl) rfl (by decide) ?_
    refine TL.call rfl Tb.gofn_89 (fun a w hs => rdet_mx hB hm9 hs.new (fun yy hyy => by repeat (first | exact List.mem_append_left _ hyy | exact List.mem_append_left _ (List.mem_append_right _ hyy) | exact List.mem_append_left _ (List.mem_append_left _ hyy) | refine List.mem_append_right _ ?_ | refine List.Mem.tail _ ?_)) (fun yy hyy => by repeat (first | exact List.mem_append_left _ hyy | exact List.mem_append_left _ (List.mem_append_right _ hyy) | exact List.mem_append_left _ (List.mem_append_left _ hyy) | refine List.mem_append_right _ ?_ | refine List.Mem.tail _ ?_))) rfl (by decide) (fun _ _ => ?_)
    refine TL.pure (PV.assign rfl) rfl (by decide) ?_
    refine TL.nil ?_
    refine TQ.thenC ?_
    refine TC.seq ?_
    refine TC.region ?_
    refine TL.pure (PV.assign rfl) rfl (by decide) ?_
    refine TL.nil ?_
    refine TQ.thenC ?_
    refine TC.seq ?_
    refine TC.seq ?_
    refine TC.region ?_
    refine TL.pure (PV.assign rfl) rfl (by decide) ?_
    refine TL.nil ?_
    refine TQ.thenC ?_
    refine TC.block ?_
    -- live and written in the loop, not told: [6, 7, 8]
    refine TC.lit [(1, _), (2, _), (10, _), (11, _), (12, _), (13, _)] (by repeat (first | exact True.intro | refine And.intro rfl ?_)) ?_
    refine TC.loopK [1, 2, 10, 11] (X := Nat × HD × List Int) (fun k => SkI ls gs xs ys k.1 k.2) (fun k => [(13, .int .i64 k.1), (12, gvI k.2)]) (fun k => gbI k.2 ++ (gbP m9 ++ bl m9.2 ++ [(bS, Obj.cells #[.slice pl xs.length cl, .slice p2 ys.length c2] 23 (0, 0)), (b0, Obj.cells #[.slice p ls.length cp, .slice q gs.length cq] 25 (0, 0))])) (fun k => gs.length - k.1) (0, none, []) ⟨ApK.zero _ _, fun j hj => absurd hj (Nat.not_lt_zero _)⟩ (by repeat (first | exact True.intro | refine And.intro rfl ?_)) (List.Sublist.refl _) ?_
    intro k hk
    have hkle := hk.a.le
    have hkl := hk.a.len
    refine TC.lit [(1, _), (2, _), (10, _), (11, _), (12, _), (13, _)] (by repeat (first | exact True.intro | refine And.intro rfl ?_)) ?_
    refine TC.seq ?_
    refine TC.seq ?_
    refine TC.region ?_
    refine TL.pure (PV.move rfl) rfl (by decide) ?_
    refine TL.pure (PV.move rfl) rfl (by decide) ?_
    refine TL.pure (PV.len rfl Tb.sl_23) rfl (by decide) ?_
    refine TL.pure (PV.lss rfl rfl) rfl (by decide) ?_
    refine TL.nil ?_
    refine TQ.thenC ?_
    first | refine TC.condD rfl (fun hlt => ?_) (fun hlt => ?_) | refine TC.cond rfl (fun hlt => ?_) (fun hlt => ?_)
    · skip
      refine TC.skip ?_
      refine TQ.thenC ?_
      refine TC.seq ?_
      refine TC.block ?_
      refine TC.seq ?_
      refine TC.region ?_
      refine TL.pure (PV.assign rfl) rfl (by decide) ?_
      refine TL.nil ?_
      refine TQ.thenC ?_
      refine TC.seq ?_
      refine TC.seq ?_
      refine TC.region ?_
      refine TL.pure (PV.assign rfl) rfl (by decide) ?_
      refine TL.nil ?_
      refine TQ.thenC ?_
      refine TC.block ?_
      refine TC.lit [(1, _), (2, _), (10, _), (11, _), (12, _), (13, _), (14, _), (15, _)] (by repeat (first | exact True.intro | refine And.intro rfl ?_)) ?_
      refine TC.loopK [1, 2, 6, 7, 8, 10, 11, 12, 13] (X := Nat × HD × List (HD × List Int)) (fun i => RgI (rpL ls gs xs ys k.1) gs.length i.1 i.2) (fun i => [(15, .int .i64 i.1), (14, gvP i.2)]) (fun i => gbP i.2 ++ (bl i.2.2 ++ (gbI k.2 ++ (gbP m9 ++ bl m9.2 ++ [(bS, Obj.cells #[.slice pl xs.length cl, .slice p2 ys.length c2] 23 (0, 0)), (b0, Obj.cells #[.slice p ls.length cp, .slice q gs.length cq] 25 (0, 0))])))) (fun i => gs.length - i.1) (0, none, []) (RgI.zero _ _) (by repeat (first | exact True.intro | refine And.intro rfl ?_)) (List.Sublist.refl _) ?_
      intro i hi
      have hile := hi.le
      have hil := hi.len
      refine TC.lit [(1, _), (2, _), (10, _), (11, _), (12, _), (13, _), (14, _), (15, _)] (by repeat (first | exact True.intro | refine And.intro rfl ?_)) ?_
      refine TC.seq ?_
      refine TC.seq ?_
      refine TC.region ?_
      refine TL.pure (PV.move rfl) rfl (by decide) ?_
      refine TL.pure (PV.move rfl) rfl (by decide) ?_
      refine TL.pure (PV.len rfl Tb.sl_23) rfl (by decide) ?_
      refine TL.pure (PV.lss rfl rfl) rfl (by decide) ?_
      refine TL.nil ?_
      refine TQ.thenC ?_
      first | refine TC.condD rfl (fun hlt2 => ?_) (fun hlt2 => ?_) | refine TC.cond rfl (fun hlt2 => ?_) (fun hlt2 => ?_)
      · skip
        refine TC.skip ?_
        refine TQ.thenC ?_
        refine TC.seq ?_
        refine TC.block ?_
        refine TC.seq ?_
        obtain ⟨hro, hre, hrm⟩ := mx_row hm9 (i := i.1) (by omega)
        have hrl : (m9.2.getD i.1 (none, [])).2.length = gs.length := by rw [hre, mk_len]
        have hml := hm9.len
        refine TC.region ?_
        refine TL.buildSlice0 Tb.sl_23 Tb.zi_3 rfl (by decide) (fun bA hbA => ?_)
        refine TL.pure (PV.move rfl) rfl (by decide) ?_
        refine TL.pure (PV.move rfl) rfl (by decide) ?_
        refine TL.pure (PV.indexG (j := i.1) rfl rfl hm9.ok Tb.elm_22 rfl (by omega)) rfl (by decide) ?_
        refine TL.pure (PV.loadGP (y := m9) (j := i.1) (v := gval (m9.2.getD i.1 (none, [])).1 gs.length) rfl Tb.one_23 (fun yy hyy => by repeat (first | exact List.mem_append_left _ hyy | exact List.mem_append_left _ (List.mem_append_right _ hyy) | exact List.mem_append_left _ (List.mem_append_left _ hyy) | refine List.mem_append_right _ ?_ | refine List.Mem.tail _ ?_)) hm9.ok (by omega) (by show gval _ _ = gval _ _; rw [hrl])) rfl (by decide) ?_
        refine TL.append0 (m := gs.length) (news := ival (m9.2.getD i.1 (none, [])).2) (bA := bA) rfl rfl Tb.sl_23 Tb.zi_3 rfl (by repeat (first | exact Take.head _ | apply Take.tail | apply Take.appR)) (fun w' hN2 => src_g Tb.sl_23 (gog hro hrl) (fun y hy => by have := bl_mem hrm y hy; simp only [List.mem_append, List.mem_cons]; simp [this]) (ival_one _) hN2) (by omega) (by omega) rfl (by decide) (fun h9 ho9 => ?_)
        refine TL.pure (PV.assign rfl) rfl (by decide) ?_
        refine TL.nil ?_
        refine TQ.thenC ?_
        refine TC.seq ?_
        obtain ⟨q2, hq2p, hq2⟩ := hx i.1 (by omega)
        obtain ⟨q3, hq3p, hq3⟩ := hy i.1 (by omega)
        have hb1 := hx0 i.1
        have hb2 := hy0 i.1
        refine TC.draw 12 Tb.mixed (by kernel_rfl) ?_
        simp only [List.take_succ_cons, List.take_zero, List.drop_succ_cons, List.drop_zero]
        refine TS.pure (PV.move rfl) rfl (by decide) ?_
        refine TS.pure (PV.move rfl) rfl (by decide) ?_
        refine TS.pure (PV.move rfl) rfl (by decide) ?_
        refine TS.pure (PV.move rfl) rfl (by decide) ?_
        refine TS.pure (PV.indexA rfl hq2p rfl Tb.elm_23 rfl (by omega)) rfl (by decide) ?_
        refine TS.pure (PV.loadOld rfl Tb.one_3 hq2) rfl (by decide) ?_
        refine TS.pure (PV.move rfl) rfl (by decide) ?_
        refine TS.pure (PV.move rfl) rfl (by decide) ?_
        refine TS.pure (PV.indexA rfl hq3p rfl Tb.elm_23 rfl (by omega)) rfl (by decide) ?_
        refine TS.pure (PV.loadOld rfl Tb.one_3 hq3) rfl (by decide) ?_
        refine TS.pure (PV.sub rfl rfl (by omega)) rfl (by decide) ?_
        refine TS.pure (PV.indexG (j := k.1) rfl rfl ho9 Tb.elm_23 rfl (by omega)) rfl (by decide) ?_
        refine TS.nil ?_
        refine TL.putI (h := h9) (xs := (m9.2.getD i.1 (none, [])).2) (xs' := ((m9.2.getD i.1 (none, [])).2.set k.1 (xs.getD i.1 0 - ys.getD i.1 0))) (j := k.1) rfl rfl Tb.cells_3 (go_lenI ho9 hrl) rfl (by repeat (first | exact PutH.here _ _ _ _ | apply PutH.tail | apply PutH.app)) (by omega) rfl rfl ?_
        refine TL.nil ?_
        refine TQ.thenC ?_
        refine TC.region ?_
        refine TL.pure (PV.move rfl) rfl (by decide) ?_
        refine TL.pure (PV.move rfl) rfl (by decide) ?_
        have hsl : gval h9 gs.length = gvI (h9, ((m9.2.getD i.1 (none, [])).2.set k.1 (xs.getD i.1 0 - ys.getD i.1 0))) := by show gval _ _ = gval _ _; rw [List.length_set, hrl]
        refine TL.buildSlice (cs := #[gvI (h9, ((m9.2.getD i.1 (none, [])).2.set k.1 (xs.getD i.1 0 - ys.getD i.1 0)))]) rfl Tb.sl_22 Tb.zi_23 (by decide) (by rw [hsl]; exact fill_g _ _) (by decide) rfl (by decide) (fun bO hbO => ?_)
        refine TL.appendP (x0 := i.2) (y := (h9, ((m9.2.getD i.1 (none, [])).2.set k.1 (xs.getD i.1 0 - ys.getD i.1 0)))) rfl rfl (by repeat (first | exact List.Mem.head _ | refine List.Mem.tail _ ?_ | refine List.mem_append_right _ ?_)) hi.ok (by repeat (first | exact TakeH.here _ _ _ _ | apply TakeH.tail | apply TakeH.app)) (by have := hi.len; omega) rfl (by decide) (fun hP_ hP => ?_)
        refine TL.pure (PV.assign rfl) rfl (by decide) ?_
        refine TL.nil ?_
        refine TQ.blkN ?_
        refine TQ.thenC ?_
        refine TC.region ?_
        refine TL.pure (PV.move rfl) rfl (by decide) ?_
        refine TL.pure (PV.add rfl rfl (by omega)) rfl (by decide) ?_
        refine TL.pure (PV.assign rfl) rfl (by decide) ?_
        refine TL.nil ?_
        refine TQ.thenN ?_
        refine TQ.backK (i.1 + 1, hP_, i.2.2 ++ [(h9, ((m9.2.getD i.1 (none, [])).2.set k.1 (xs.getD i.1 0 - ys.getD i.1 0)))]) (by repeat (first | exact True.intro | refine And.intro rfl ?_)) (by repeat (first | exact True.intro | refine And.intro rfl ?_)) (by rw [bl_snoc]; simp only [List.append_assoc]; exact List.Sublist.append_left (List.Sublist.cons _ (List.Sublist.refl _)) _) (hi.step (by omega) (by rw [hre]) (go_lenI ho9 (by rw [List.length_set]; exact hrl)) hP) (by simp only; omega)
      · skip
        refine TC.exit ?_
        refine TQ.thenE ?_
        refine TQ.thenE ?_
        refine TQ.blkS ?_
        refine TQ.thenC ?_
        refine TC.seq ?_
        have hie : i.1 = gs.length := by have := hi.le; omega
        refine TC.region ?_
        refine TL.pure (PV.move rfl) rfl (by decide) ?_
        refine TL.call rfl Tb.gofn_89 (fun a w hs => rdet_rp hB hx0 hy0 (k := k.1) (y := i.2) (hie ▸ hi) hs.new (fun yy hyy => by repeat (first | exact List.mem_append_left _ hyy | exact List.mem_append_left _ (List.mem_append_right _ hyy) | exact List.mem_append_left _ (List.mem_append_left _ hyy) | refine List.mem_append_right _ ?_ | refine List.Mem.tail _ ?_)) (fun yy hyy => by repeat (first | exact List.mem_append_left _ hyy | exact List.mem_append_left _ (List.mem_append_right _ hyy) | exact List.mem_append_left _ (List.mem_append_left _ hyy) | refine List.mem_append_right _ ?_ | refine List.Mem.tail _ ?_))) rfl (by decide) (fun _ _ => ?_)
        refine TL.pure (PV.assign rfl) rfl (by decide) ?_
        refine TL.nil ?_
        refine TQ.thenC ?_
        refine TC.seq ?_
        refine TC.seq ?_
        have hdb := dt_bd hB hx0 hy0 k.1
        have hmb := tmod_bd (dtK ls gs xs ys k.1) hd1
        refine TC.region ?_
        refine TL.pure (PV.move rfl) rfl (by decide) ?_
        refine TL.pure (PV.move rfl) rfl (by decide) ?_
        refine TL.pure (PV.rem rfl rfl (by omega) (by omega)) rfl (by decide) ?_
        refine TL.pure (PV.neq rfl rfl) rfl (by decide) ?_
        refine TL.nil ?_
        refine TQ.thenC ?_
        first | refine TC.condD rfl (fun hm => ?_) (fun hm => ?_) | refine TC.cond rfl (fun hm => ?_) (fun hm => ?_)
        · skip
          refine TC.seq ?_
          refine TC.region ?_
          refine TL.pure (PV.assign rfl) rfl (by decide) ?_
          refine TL.pure (PV.assign rfl) rfl (by decide) ?_
          refine TL.pure (PV.assign rfl) rfl (by decide) ?_
          refine TL.nil ?_
          refine TQ.thenC ?_
          refine TC.ret ?_
          refine TQ.thenR ?_
          refine TQ.blkR ?_
          refine TQ.thenR ?_
          refine TQ.thenR ?_
          refine TQ.blkR ?_
          refine TQ.thenR ?_
          refine TQ.retE3 rfl rfl rfl rfl ?_
          exact ⟨(none, [], false), by rw [Decidable.of_not_not hbad]; rfl, ⟨⟨fun h2 => absurd h2 hbad, fun _ h2 => absurd h2 Bool.noConfusion, fun _ _ => ⟨rfl, sk_no hB (by omega) hm⟩⟩, goI_nil⟩, List.nil_sublist _⟩
        · skip
          refine TC.skip ?_
          refine TQ.thenC ?_
          have hk9 := tdiv_bd hdb (b := detF gs.length (mF ls gs)) hd1
          unfold Bn at hk9
          refine TC.region ?_
          refine TL.pure (PV.move rfl) rfl (by decide) ?_
          refine TL.pure (PV.move rfl) rfl (by decide) ?_
          refine TL.pure (PV.move rfl) rfl (by decide) ?_
          refine TL.pure (PV.quo rfl rfl (by omega) (by omega)) rfl (by decide) ?_
          refine TL.buildSlice (cs := #[.int .i64 ((dtK ls gs xs ys k.1).tdiv (detF gs.length (mF ls gs)))]) rfl Tb.sl_23 Tb.zi_3 (by decide) (fill_i _) (by decide) rfl (by decide) (fun bE hbE => ?_)
          refine TL.appendI (x0 := k.2) rfl rfl (by repeat (first | exact List.Mem.head _ | refine List.Mem.tail _ ?_ | refine List.mem_append_right _ ?_)) hk.a.ok (by repeat (first | exact TakeH.here _ _ _ _ | apply TakeH.tail | apply TakeH.app)) (by have := hk.a.len; omega) rfl (by decide) (fun hh hho => ?_)
          refine TL.pure (PV.assign rfl) rfl (by decide) ?_
          refine TL.nil ?_
          refine TQ.blkN ?_
          refine TQ.thenC ?_
          refine TC.region ?_
          refine TL.pure (PV.move rfl) rfl (by decide) ?_
          refine TL.pure (PV.add rfl rfl (by omega)) rfl (by decide) ?_
          refine TL.pure (PV.assign rfl) rfl (by decide) ?_
          refine TL.nil ?_
          refine TQ.thenN ?_
          refine TQ.backK (k.1 + 1, hh, k.2.2 ++ [(dtK ls gs xs ys k.1).tdiv (detF gs.length (mF ls gs))]) (by repeat (first | exact True.intro | refine And.intro rfl ?_)) (by repeat (first | exact True.intro | refine And.intro rfl ?_)) (by simp only [List.append_assoc]; exact List.Sublist.append_left (List.Sublist.cons _ (List.Sublist.trans (List.sublist_append_right _ _) (List.sublist_append_right _ _))) _) ⟨hk.a.step (by omega) rfl hho, fun j hj => if e : j < k.1 then hk.m j e else (show k.1 = j by simp only at hj; omega) ▸ Decidable.of_not_not hm⟩ (by simp only; omega)
    · skip
      refine TC.exit ?_
      refine TQ.thenE ?_
      refine TQ.thenE ?_
      refine TQ.blkS ?_
      refine TQ.thenC ?_
      refine TC.seq ?_
      refine TC.region ?_
      refine TL.pure (PV.move rfl) rfl (by decide) ?_
      refine TL.pure (PV.assign rfl) rfl (by decide) ?_
      refine TL.pure (PV.assign rfl) rfl (by decide) ?_
      refine TL.pure (PV.assign rfl) rfl (by decide) ?_
      refine TL.nil ?_
      refine TQ.thenC ?_
      refine TC.ret ?_
      refine TQ.retE3 rfl rfl rfl rfl ?_
      have hke : k.1 = gs.length := by omega
      exact ⟨(k.2.1, k.2.2, true), by rw [Decidable.of_not_not hbad], ⟨⟨fun h2 => absurd h2 hbad, fun _ _ => ⟨hkl.trans hke, sk_yes hB (by have := hk.a.eq; rw [hke] at this; exact this) (fun j hj => hk.m j (by omega))⟩, fun _ h2 => absurd h2 Bool.noConfusion⟩, hk.a.ok⟩, List.sublist_append_left _ _⟩

end Go.Proofs.Ytgafpkcnhpoobaa

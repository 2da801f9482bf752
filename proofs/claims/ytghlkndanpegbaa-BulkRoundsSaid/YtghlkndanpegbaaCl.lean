/- The reference's search for a best plan: contract. -/
import Derived.Test.YtghlkndanpegbaaBo
import Derived.Test.YtghlkndanpegbaaCj
set_option linter.unusedVariables false
set_option linter.unusedSimpArgs false
namespace Go.Proofs.Ytghlkndanpegbaa
open Go.Sx Go.RowKit Go.Sand Go.Tp

theorem sum_mk (n : Nat) (f : Nat → Int) : sumI (mk n f) = sm n f := by
  unfold sumI
  rw [mk_len]
  exact sm_congr fun j hj => mk_at f hj
theorem sml_mk {n : Nat} {f : Nat → Int} (h : ∀ i, i < n → 0 ≤ f i ∧ f i ≤ 30) : Sml (mk n f) := fun j hj => by
  rw [mk_len] at hj
  rw [mk_at f hj]
  have := h j hj
  omega
theorem pp_left {t : Td} (hV : VT t) {x : Mat} {left need : Nat → Int} (h : PP t.s.length t.d.length (fS t) (fD t) x left need) : (∀ i, i < t.s.length → 0 ≤ left i ∧ left i ≤ 30) ∧ ∀ j, j < t.d.length → 0 ≤ need j ∧ need j ≤ 30 := by
  refine ⟨fun i hi => ?_, fun j hj => ?_⟩
  · have h1 := h.row i hi
    have h2 : 0 ≤ fS t i ∧ fS t i ≤ 30 := hV.s i hi
    have h3 := sm_nonneg (n := t.d.length) (f := x i) fun j hj => h.nn i j hi hj
    have h4 := h.l0 i hi
    omega
  · have h1 := h.col j hj
    have h2 : 0 ≤ fD t j ∧ fD t j ≤ 30 := hV.d j hj
    have h3 := sm_nonneg (n := t.s.length) (f := fun i => x i j) fun i hi => h.nn i j hi hj
    have h4 := h.n0 j hj
    omega
theorem wk_30 {t : Td} (hV : VT t) {c x y : Mat} {left need l u v : Nat → Int} {st : RS} {W : Nat} {cur : Int} (h : WK t.s.length t.d.length c (fS t) (fD t) x left need u v st W y l cur) {i j : Nat} (hi : i < t.s.length) (hj : j < t.d.length) : 0 ≤ y i j ∧ y i j ≤ 30 := by
  have h1 := h.row i hi
  have h2 : 0 ≤ fS t i ∧ fS t i ≤ 30 := hV.s i hi
  have h3 := sm_one (n := t.d.length) (f := y i) (fun q hq => h.nn i q hi hq) j hj
  have h4 := (h.l0 i hi).1
  exact ⟨h.nn i j hi hj, by omega⟩
theorem pp_zero {t : Td} (hV : VT t) : PP t.s.length t.d.length (fS t) (fD t) (fun _ _ => 0) (fS t) (fD t) := ⟨fun _ _ _ _ => Int.le_refl _, fun i hi => by rw [sm_zero, Int.zero_add], fun j hj => by rw [sm_zero, Int.zero_add], fun i hi => (hV.s i hi).1, fun j hj => (hV.d j hj).1⟩
theorem pi_zero {t : Td} (hV : VT t) : PI t.s.length t.d.length (getM t.c) (fun _ _ => 0) (fS t) (fun _ => 0) (fun _ => 0) := ⟨fun i j hi hj => (hV.c.bd i j hi hj).1, fun i j hi hj h => absurd h (Int.lt_irrefl _), fun _ _ => Int.le_refl _, fun _ _ => Int.le_refl _, fun _ _ _ => rfl, fun i j hi hj => hV.c.bd i j hi hj⟩
theorem sums_eq {t : Td} (hV : VT t) : sm t.s.length (fS t) = sm t.d.length (fD t) := hV.sum
def m0 (k : Nat) : Nat → Int := fun q => if q < k then inf else 0
def l0 (left : Nat → Int) (k : Nat) : Nat → Int := fun i => if i < k ∧ left i = 0 then inf else 0
def p0 (k : Nat) : Nat → Int := fun i => if i < k then -1 else 0
theorem m0_set {k n : Nat} (h : k < n) : (mk n (m0 k)).set k inf = mk n (m0 (k + 1)) := mk_set h (if_pos (by omega)).symm fun j hj hne => by
  unfold m0
  by_cases h2 : j < k
  · rw [if_pos h2, if_pos (by omega)]
  · rw [if_neg h2, if_neg (by omega)]
theorem p0_set {k n : Nat} (h : k < n) : (mk n (p0 k)).set k (-1) = mk n (p0 (k + 1)) := mk_set h (if_pos (by omega)).symm fun j hj hne => by
  unfold p0
  by_cases h2 : j < k
  · rw [if_pos h2, if_pos (by omega)]
  · rw [if_neg h2, if_neg (by omega)]
theorem l0_set {left : Nat → Int} {k n : Nat} (h : k < n) (hz : left k = 0) : (mk n (l0 left k)).set k inf = mk n (l0 left (k + 1)) := mk_set h (if_pos ⟨by omega, hz⟩).symm fun j hj hne => by
  unfold l0
  by_cases h2 : j < k ∧ left j = 0
  · rw [if_pos h2, if_pos ⟨by omega, h2.2⟩]
  · rw [if_neg h2, if_neg (by omega)]
theorem l0_same {left : Nat → Int} {k n : Nat} (hz : ¬ left k = 0) : mk n (l0 left k) = mk n (l0 left (k + 1)) := mk_congr fun j hj => by
  unfold l0
  by_cases h2 : j < k ∧ left j = 0
  · rw [if_pos h2, if_pos ⟨by omega, h2.2⟩]
  · rw [if_neg h2, if_neg (fun h3 => by
      by_cases e : j = k
      · subst e; exact hz h3.2
      · omega)]
theorem m0_fin (left : Nat → Int) (n : Nat) : mk n (m0 n) = mk n (rs0 left).M := mk_congr fun j hj => if_pos hj
theorem p0_fin (left : Nat → Int) (n : Nat) : mk n (p0 n) = mk n (rs0 left).pi := mk_congr fun j hj => if_pos hj
theorem l0_fin (left : Nat → Int) (n : Nat) : mk n (l0 left n) = mk n (rs0 left).L := mk_congr fun j hj => by
  show (if j < n ∧ left j = 0 then inf else 0) = if left j = 0 then inf else 0
  by_cases h : left j = 0
  · rw [if_pos ⟨hj, h⟩, if_pos h]
  · rw [if_neg (fun h2 => h h2.2), if_neg h]
theorem l0_0 (left : Nat → Int) (n : Nat) : mk n (fun _ => 0) = mk n (l0 left 0) := mk_congr fun j hj => (if_neg (by omega)).symm
theorem p0_0 (n : Nat) : mk n (fun _ => 0) = mk n (p0 0) := mk_congr fun j hj => (if_neg (by omega)).symm
def LstOk (need : Nat → Int) (B k : Nat) (last : Int) : Prop := (last = -1 ∧ ∀ q, q < k → ¬ 0 < need q) ∨ ∃ j : Nat, j < B ∧ last = (j : Int) ∧ 0 < need j
theorem hasn {B k : Nat} {need : Nat → Int} {last : Int} (h : LstOk need B k last) (hk : B ≤ k) (hs : 0 < sm B need) : ∃ j : Nat, j < B ∧ last = (j : Int) ∧ 0 < need j := by
  rcases h with ⟨_, h2⟩ | h
  · obtain ⟨j, hj, h3⟩ := sm_pos hs
    exact absurd h3 (h2 j (by omega))
  · exact h
noncomputable def wm (v : Nat → Int) (st : RS) (W : Nat) (cur : Int) : Nat := if 0 ≤ cur then muM v st W cur.toNat + 1 else 0
theorem lst_lt {need : Nat → Int} {B k : Nat} {last : Int} (h : LstOk need B k last) : 0 ≤ last → last.toNat < B := fun h0 => by
  rcases h with ⟨h1, _⟩ | ⟨j, h1, h2, _⟩ <;> omega
theorem lst_keep {need : Nat → Int} {B k : Nat} {last : Int} (h : LstOk need B k last) (hno : 0 < need k → 0 ≤ last) : LstOk need B (k + 1) last := by
  rcases h with ⟨h1, h2⟩ | h
  · refine .inl ⟨h1, fun q hq => ?_⟩
    by_cases e : q = k
    · subst e; exact fun h3 => by have := hno h3; omega
    · exact h2 q (by omega)
  · exact .inr h
theorem wm_at (v : Nat → Int) (st : RS) (W j : Nat) : wm v st W (j : Int) = muM v st W j + 1 := by
  unfold wm
  rw [if_pos (by omega), Int.toNat_natCast]
theorem wm_no (v : Nat → Int) (st : RS) (W : Nat) : wm v st W (-1) = 0 := if_neg (by decide)
theorem wk_cur {S B : Nat} {c x y : Mat} {s d left need l u v : Nat → Int} {st : RS} {W : Nat} {cur : Int} (h : WK S B c s d x left need u v st W y l cur) (h0 : 0 ≤ cur) : ∃ j : Nat, j < B ∧ cur = (j : Int) := by
  rcases h.cb with h1 | h1
  · omega
  · exact h1
theorem wk_out {S B : Nat} {c x y : Mat} {s d left need l u v : Nat → Int} {st : RS} {W : Nat} {cur : Int} (h : WK S B c s d x left need u v st W y l cur) (h0 : ¬ 0 ≤ cur) : cur = -1 := by
  rcases h.cb with h1 | ⟨j, _, h1⟩ <;> omega
theorem gblk_some (b k : Nat) (sp : List Value) (e : TypeId) (ys : List Value) : gblk (some (b, k, sp)) e ys = [(b, Obj.cells (ys ++ sp).toArray e (0, 0))] := rfl
theorem m0_0 (n : Nat) : mk n (fun _ => 0) = mk n (m0 0) := rfl
theorem putB_M {st : RS} {c : Mat} {i j n now : Nat} (h : j < n) : (mk n st.M).set j (st.L i + c i j) = mk n (putB st c i j now).M := mk_set h (if_pos rfl).symm fun q hq hne => (if_neg hne).symm
theorem putB_pb {st : RS} {c : Mat} {i j n now : Nat} (h : j < n) : (mk n st.pb).set j (i : Int) = mk n (putB st c i j now).pb := mk_set h (if_pos rfl).symm fun q hq hne => (if_neg hne).symm
theorem putS_L {st : RS} {c : Mat} {i j n now : Nat} (h : i < n) : (mk n st.L).set i (st.M j - c i j) = mk n (putS st c i j now).L := mk_set h (if_pos rfl).symm fun q hq hne => (if_neg hne).symm
theorem putS_pi {st : RS} {c : Mat} {i j n now : Nat} (h : i < n) : (mk n st.pi).set i (j : Int) = mk n (putS st c i j now).pi := mk_set h (if_pos rfl).symm fun q hq hne => (if_neg hne).symm
theorem need_set {need : Nat → Int} {j n : Nat} (h : j < n) : (mk n need).set j (need j - 1) = mk n (fun q => if q = j then need q - 1 else need q) := mk_set h (if_pos rfl).symm fun q hq hne => (if_neg hne).symm
theorem put_set {S B : Nat} {y : Mat} {i j : Nat} {v : Int} {h : HD} {rs : List RW} (s : TbS S B y h rs) (hi : i < S) (hj : j < B) : TbS S B (put2 y i j v) h (rwS rs i j v) := s.set hi hj (put2_k y i j v).symm fun p q _ _ hne => put2_ne y v hne


set_option maxRecDepth 100000 in
set_option maxHeartbeats 40000000 in
theorem rbest_ok (w0 : World) (vt : Value) (t : Td) (ht : IsT w0 vt t) (hV : VT t) :
    Calls Try.prog 69 #[vt] w0 (Post (X := List (List Int) × (Value × Heap)) (fun y => y.2.1) (fun y => VP t y.1 ∧ RdG y.1 y.2 ∧ costI t y.1 = mnI t) (fun y => y.2.2) w0) := by
  obtain ⟨p1, c1, p2, c2, p3, c3, rfl, t1, t2, t3⟩ := ht
  have hns := hV.ns
  have hnd := hV.nd
  refine calls Try.func69 rfl (n := 263) rfl (by simp) ?_
  refine TC.seq ?_
  refine TC.region ?_
  refine TL.box rfl rfl (by decide) (fun b0 hb0 => ?_)
  refine TL.pure (PV.assign rfl) rfl (by decide) ?_
  refine TL.nil ?_
  refine TQ.thenC ?_
  refine TC.seq ?_
  refine TC.region ?_
  refine TL.pure (PV.loadBox rfl Tb.agg_25 (by repeat (first | exact List.Mem.head _ | refine List.Mem.tail _ ?_ | refine List.mem_append_right _ ?_)) rfl) rfl (by decide) ?_
  refine TL.call rfl Tb.gofn_66 (fun a w hs => empty_ok w _ t (IsT.mk (t1.new hs.new) (t2.new hs.new) (t3.new hs.new)) hV) rfl (by decide) (fun y8 hy8 => ?_)
  refine TL.pure (PV.assign rfl) rfl (by decide) ?_
  refine TL.nil ?_
  refine TQ.thenC ?_
  refine TC.seqK [1, 2, 3] (X := HD × HD) (fun z2 => goI (z2.1, mk t.s.length (fS t)) ∧ goI (z2.2, mk t.d.length (fD t))) (fun z2 => [(4, gval z2.1 t.s.length), (5, gval z2.2 t.d.length)]) (fun z2 => gbR rwR 22 y8.1 y8.2 ++ (rwB y8.2 ++ (gbI (z2.1, mk t.s.length (fS t)) ++ (gbI (z2.2, mk t.d.length (fD t)) ++ [(b0, Obj.cells #[.slice p1 t.s.length c1, .slice p2 t.d.length c2, .slice p3 t.c.length c3] 25 (0, 0))])))) ?_ ?_
  · skip
    refine TC.mixV [false, true, true, false, false, true, true, false, true, true] [(b0, Obj.cells #[.slice p1 t.s.length c1, .slice p2 t.d.length c2, .slice p3 t.c.length c3] 25 (0, 0))] 10 Tb.mixed rfl (by kernel_rfl) (by kernel_rfl) (by kernel_rfl) (by kernel_rfl) (by repeat (first | exact List.Sublist.slnil | exact List.nil_sublist _ | exact List.Sublist.refl _ | refine List.Sublist.cons_cons _ ?_ | refine List.Sublist.cons _ ?_ | refine List.Sublist.trans ?_ (List.sublist_append_right _ _))) ?_
    refine TV.virt 1 rfl rfl (by decide) rfl (by kernel_rfl) (SOK.pure (PV.fieldAddr rfl Tb.fo_25_0) rfl) ?_
    refine TV.virt 2 rfl rfl (by decide) rfl (by kernel_rfl) (SOK.pure (PV.load rfl Tb.one_22 (by repeat (first | exact List.Mem.head _ | refine List.Mem.tail _ ?_ | refine List.mem_append_right _ ?_)) rfl) rfl) ?_
    refine TV.virt 5 rfl rfl (by decide) rfl (by kernel_rfl) (SOK.pure (PV.fieldAddr rfl Tb.fo_25_1) rfl) ?_
    refine TV.virt 6 rfl rfl (by decide) rfl (by kernel_rfl) (SOK.pure (PV.load rfl Tb.one_22 (by repeat (first | exact List.Mem.head _ | refine List.Mem.tail _ ?_ | refine List.mem_append_right _ ?_)) rfl) rfl) ?_
    refine TV.step [0, 4] (by kernel_rfl) (by decide) rfl ⟨⟨_, rfl, ?_⟩, ⟨_, rfl, ?_⟩, trivial⟩
    · skip
      refine TL.buildSlice0 Tb.sl_22 Tb.zi_3 rfl (by decide) (fun bA0 hbA0 => ?_)
      refine TL.nil ?_
      refine TV.next (.inl (by repeat (first | exact List.Sublist.slnil | exact List.nil_sublist _ | exact List.Sublist.refl _ | refine List.Sublist.cons_cons _ ?_ | refine List.Sublist.cons _ ?_ | refine List.Sublist.trans ?_ (List.sublist_append_right _ _)))) ?_
      refine TV.step [3, 4] (by kernel_rfl) (by decide) rfl ⟨⟨_, rfl, ?_⟩, ⟨_, rfl, ?_⟩, trivial⟩
      · skip
        refine TL.append0 (m := t.s.length) (news := ival (mk t.s.length (fS t))) rfl rfl Tb.sl_22 Tb.zi_3 rfl (by repeat (first | exact Take.head _ | apply Take.tail | apply Take.appR)) (fun w' hN => ints_src Tb.sl_22 (mk_len _ _) (by have h := t1.new hN; rw [ext_mk t.s] at h; exact h)) (by omega) (by omega) rfl (by decide) (fun h8 hh8 => ?_)
        refine TL.nil ?_
        refine TV.next (.inl (by repeat (first | exact List.Sublist.slnil | exact List.nil_sublist _ | exact List.Sublist.refl _ | refine List.Sublist.cons_cons _ ?_ | refine List.Sublist.cons _ ?_ | refine List.Sublist.trans ?_ (List.sublist_append_right _ _)))) ?_
        refine TV.step [4] (by kernel_rfl) (by decide) rfl ⟨⟨_, rfl, ?_⟩, trivial⟩
        refine TL.buildSlice0 Tb.sl_22 Tb.zi_3 rfl (by decide) (fun bA4 hbA4 => ?_)
        refine TL.nil ?_
        refine TV.next (.inl (by repeat (first | exact List.Sublist.slnil | exact List.nil_sublist _ | exact List.Sublist.refl _ | refine List.Sublist.cons_cons _ ?_ | refine List.Sublist.cons _ ?_ | refine List.Sublist.trans ?_ (List.sublist_append_right _ _)))) ?_
        refine TV.step [7] (by kernel_rfl) (by decide) rfl ⟨⟨_, rfl, ?_⟩, trivial⟩
        refine TL.append0 (m := t.d.length) (news := ival (mk t.d.length (fD t))) rfl rfl Tb.sl_22 Tb.zi_3 rfl (by repeat (first | exact Take.head _ | apply Take.tail | apply Take.appR)) (fun w' hN => ints_src Tb.sl_22 (mk_len _ _) (by have h := t2.new hN; rw [ext_mk t.d] at h; exact h)) (by omega) (by omega) rfl (by decide) (fun h9 hh9 => ?_)
        refine TL.nil ?_
        refine TV.next (.inl (by repeat (first | exact List.Sublist.slnil | exact List.nil_sublist _ | exact List.Sublist.refl _ | refine List.Sublist.cons_cons _ ?_ | refine List.Sublist.cons _ ?_ | refine List.Sublist.trans ?_ (List.sublist_append_right _ _)))) ?_
        refine TV.virt 8 rfl rfl (by decide) rfl (by kernel_rfl) (SOK.pure (PV.assign rfl) rfl) ?_
        refine TV.virt 9 rfl rfl (by decide) rfl (by kernel_rfl) (SOK.pure (PV.assign rfl) rfl) ?_
        refine TV.done (by kernel_rfl) ?_
        refine TQ.thenN ?_
        refine TQ.perm (G' := gbR rwR 22 y8.1 y8.2 ++ (rwB y8.2 ++ (gbI (h8, mk t.s.length (fS t)) ++ (gbI (h9, mk t.d.length (fD t)) ++ [(b0, Obj.cells #[.slice p1 t.s.length c1, .slice p2 t.d.length c2, .slice p3 t.c.length c3] 25 (0, 0))])))) (perm_of fun c9 => by simp only [gbI, gbR, List.map_append, List.sum_append, List.map_cons, List.sum_cons, List.map_nil, List.sum_nil, Value.cells]; try omega) ?_
        refine TQ.midK (h8, h9) (by repeat (first | exact True.intro | refine And.intro rfl ?_)) (by repeat (first | exact True.intro | refine And.intro rfl ?_)) (List.Sublist.refl _) ⟨by unfold goI; simpa [mk_len] using hh8, by unfold goI; simpa [mk_len] using hh9⟩
      · skip
        refine TL.buildSlice0 Tb.sl_22 Tb.zi_3 rfl (by decide) (fun bA4 hbA4 => ?_)
        refine TL.nil ?_
        refine TV.next (.inl (by repeat (first | exact List.Sublist.slnil | exact List.nil_sublist _ | exact List.Sublist.refl _ | refine List.Sublist.cons_cons _ ?_ | refine List.Sublist.cons _ ?_ | refine List.Sublist.trans ?_ (List.sublist_append_right _ _)))) ?_
        refine TV.step [3] (by kernel_rfl) (by decide) rfl ⟨⟨_, rfl, ?_⟩, trivial⟩
        refine TL.append0 (m := t.s.length) (news := ival (mk t.s.length (fS t))) rfl rfl Tb.sl_22 Tb.zi_3 rfl (by repeat (first | exact Take.head _ | apply Take.tail | apply Take.appR)) (fun w' hN => ints_src Tb.sl_22 (mk_len _ _) (by have h := t1.new hN; rw [ext_mk t.s] at h; exact h)) (by omega) (by omega) rfl (by decide) (fun h8 hh8 => ?_)
        refine TL.nil ?_
        refine TV.next (.inl (by repeat (first | exact List.Sublist.slnil | exact List.nil_sublist _ | exact List.Sublist.refl _ | refine List.Sublist.cons_cons _ ?_ | refine List.Sublist.cons _ ?_ | refine List.Sublist.trans ?_ (List.sublist_append_right _ _)))) ?_
        refine TV.step [7] (by kernel_rfl) (by decide) rfl ⟨⟨_, rfl, ?_⟩, trivial⟩
        refine TL.append0 (m := t.d.length) (news := ival (mk t.d.length (fD t))) rfl rfl Tb.sl_22 Tb.zi_3 rfl (by repeat (first | exact Take.head _ | apply Take.tail | apply Take.appR)) (fun w' hN => ints_src Tb.sl_22 (mk_len _ _) (by have h := t2.new hN; rw [ext_mk t.d] at h; exact h)) (by omega) (by omega) rfl (by decide) (fun h9 hh9 => ?_)
        refine TL.nil ?_
        refine TV.next (.inl (by repeat (first | exact List.Sublist.slnil | exact List.nil_sublist _ | exact List.Sublist.refl _ | refine List.Sublist.cons_cons _ ?_ | refine List.Sublist.cons _ ?_ | refine List.Sublist.trans ?_ (List.sublist_append_right _ _)))) ?_
        refine TV.virt 8 rfl rfl (by decide) rfl (by kernel_rfl) (SOK.pure (PV.assign rfl) rfl) ?_
        refine TV.virt 9 rfl rfl (by decide) rfl (by kernel_rfl) (SOK.pure (PV.assign rfl) rfl) ?_
        refine TV.done (by kernel_rfl) ?_
        refine TQ.thenN ?_
        refine TQ.perm (G' := gbR rwR 22 y8.1 y8.2 ++ (rwB y8.2 ++ (gbI (h8, mk t.s.length (fS t)) ++ (gbI (h9, mk t.d.length (fD t)) ++ [(b0, Obj.cells #[.slice p1 t.s.length c1, .slice p2 t.d.length c2, .slice p3 t.c.length c3] 25 (0, 0))])))) (perm_of fun c9 => by simp only [gbI, gbR, List.map_append, List.sum_append, List.map_cons, List.sum_cons, List.map_nil, List.sum_nil, Value.cells]; try omega) ?_
        refine TQ.midK (h8, h9) (by repeat (first | exact True.intro | refine And.intro rfl ?_)) (by repeat (first | exact True.intro | refine And.intro rfl ?_)) (List.Sublist.refl _) ⟨by unfold goI; simpa [mk_len] using hh8, by unfold goI; simpa [mk_len] using hh9⟩
    · skip
      refine TL.buildSlice0 Tb.sl_22 Tb.zi_3 rfl (by decide) (fun bA4 hbA4 => ?_)
      refine TL.nil ?_
      refine TV.next (.inl (by repeat (first | exact List.Sublist.slnil | exact List.nil_sublist _ | exact List.Sublist.refl _ | refine List.Sublist.cons_cons _ ?_ | refine List.Sublist.cons _ ?_ | refine List.Sublist.trans ?_ (List.sublist_append_right _ _)))) ?_
      refine TV.step [0] (by kernel_rfl) (by decide) rfl ⟨⟨_, rfl, ?_⟩, trivial⟩
      refine TL.buildSlice0 Tb.sl_22 Tb.zi_3 rfl (by decide) (fun bA0 hbA0 => ?_)
      refine TL.nil ?_
      refine TV.next (.inl (by repeat (first | exact List.Sublist.slnil | exact List.nil_sublist _ | exact List.Sublist.refl _ | refine List.Sublist.cons_cons _ ?_ | refine List.Sublist.cons _ ?_ | refine List.Sublist.trans ?_ (List.sublist_append_right _ _)))) ?_
      refine TV.step [3] (by kernel_rfl) (by decide) rfl ⟨⟨_, rfl, ?_⟩, trivial⟩
      refine TL.append0 (m := t.s.length) (news := ival (mk t.s.length (fS t))) rfl rfl Tb.sl_22 Tb.zi_3 rfl (by repeat (first | exact Take.head _ | apply Take.tail | apply Take.appR)) (fun w' hN => ints_src Tb.sl_22 (mk_len _ _) (by have h := t1.new hN; rw [ext_mk t.s] at h; exact h)) (by omega) (by omega) rfl (by decide) (fun h8 hh8 => ?_)
      refine TL.nil ?_
      refine TV.next (.inl (by repeat (first | exact List.Sublist.slnil | exact List.nil_sublist _ | exact List.Sublist.refl _ | refine List.Sublist.cons_cons _ ?_ | refine List.Sublist.cons _ ?_ | refine List.Sublist.trans ?_ (List.sublist_append_right _ _)))) ?_
      refine TV.step [7] (by kernel_rfl) (by decide) rfl ⟨⟨_, rfl, ?_⟩, trivial⟩
      refine TL.append0 (m := t.d.length) (news := ival (mk t.d.length (fD t))) rfl rfl Tb.sl_22 Tb.zi_3 rfl (by repeat (first | exact Take.head _ | apply Take.tail | apply Take.appR)) (fun w' hN => ints_src Tb.sl_22 (mk_len _ _) (by have h := t2.new hN; rw [ext_mk t.d] at h; exact h)) (by omega) (by omega) rfl (by decide) (fun h9 hh9 => ?_)
      refine TL.nil ?_
      refine TV.next (.inl (by repeat (first | exact List.Sublist.slnil | exact List.nil_sublist _ | exact List.Sublist.refl _ | refine List.Sublist.cons_cons _ ?_ | refine List.Sublist.cons _ ?_ | refine List.Sublist.trans ?_ (List.sublist_append_right _ _)))) ?_
      refine TV.virt 8 rfl rfl (by decide) rfl (by kernel_rfl) (SOK.pure (PV.assign rfl) rfl) ?_
      refine TV.virt 9 rfl rfl (by decide) rfl (by kernel_rfl) (SOK.pure (PV.assign rfl) rfl) ?_
      refine TV.done (by kernel_rfl) ?_
      refine TQ.thenN ?_
      refine TQ.perm (G' := gbR rwR 22 y8.1 y8.2 ++ (rwB y8.2 ++ (gbI (h8, mk t.s.length (fS t)) ++ (gbI (h9, mk t.d.length (fD t)) ++ [(b0, Obj.cells #[.slice p1 t.s.length c1, .slice p2 t.d.length c2, .slice p3 t.c.length c3] 25 (0, 0))])))) (perm_of fun c9 => by simp only [gbI, gbR, List.map_append, List.sum_append, List.map_cons, List.sum_cons, List.map_nil, List.sum_nil, Value.cells]; try omega) ?_
      refine TQ.midK (h8, h9) (by repeat (first | exact True.intro | refine And.intro rfl ?_)) (by repeat (first | exact True.intro | refine And.intro rfl ?_)) (List.Sublist.refl _) ⟨by unfold goI; simpa [mk_len] using hh8, by unfold goI; simpa [mk_len] using hh9⟩
  · skip
    intro z2 hz2
    obtain ⟨h8, h9⟩ := z2
    obtain ⟨hh8, hh9⟩ := hz2
    refine TC.lit [(1, _), (2, _), (3, _), (4, _), (5, _)] (by repeat (first | exact True.intro | refine And.intro rfl ?_)) ?_
    refine TC.seq ?_
    refine TC.block ?_
    refine TC.lit [(1, _), (2, _), (3, _), (4, _), (5, _)] (by repeat (first | exact True.intro | refine And.intro rfl ?_)) ?_
    have hg8 : ∀ g : Nat → Int, goI (h8, mk t.s.length g) := fun g => go_mk hh8 g
    have hg9 : ∀ g : Nat → Int, goI (h9, mk t.d.length g) := fun g => go_mk hh9 g
    refine TC.loopK [1, 2, 3, 4, 5] (X := List RW × Mat × (Nat → Int) × (Nat → Int)) (fun x => TbS t.s.length t.d.length x.2.1 y8.1 x.1 ∧ PP t.s.length t.d.length (fS t) (fD t) x.2.1 x.2.2.1 x.2.2.2 ∧ ∃ u v, PI t.s.length t.d.length (getM t.c) x.2.1 x.2.2.1 u v) (fun x => []) (fun x => gbR rwR 22 y8.1 x.1 ++ (rwB x.1 ++ (gbI (h8, mk t.s.length x.2.2.1) ++ (gbI (h9, mk t.d.length x.2.2.2) ++ [(b0, Obj.cells #[.slice p1 t.s.length c1, .slice p2 t.d.length c2, .slice p3 t.c.length c3] 25 (0, 0))])))) (fun x => (sm t.d.length x.2.2.2).toNat) (y8.2, (fun _ _ => 0), fS t, fD t) ⟨hy8, pp_zero hV, _, _, pi_zero hV⟩ (by repeat (first | exact True.intro | refine And.intro rfl ?_)) (List.Sublist.refl _) ?_
    intro x hx9
    refine TC.lit [(1, _), (2, _), (3, _), (4, _), (5, _)] (by repeat (first | exact True.intro | refine And.intro rfl ?_)) ?_
    refine TC.seq ?_
    refine TC.seq ?_
    obtain ⟨hTB, hPP, u9, v9, hPI⟩ := hx9
    have hl30 := (pp_left hV hPP).1
    have hn30 := (pp_left hV hPP).2
    refine TC.region ?_
    refine TL.pure (PV.move rfl) rfl (by decide) ?_
    refine TL.call rfl Tb.gofn_61 (fun a w hs => (by rw [show gval h8 t.s.length = .slice (gp h8) (mk t.s.length x.2.2.1).length (gc h8) by rw [mk_len]; exact gval_eq (gk_mk (hg8 x.2.2.1))]; exact rsum_ok w _ _ _ (IntsAt.g (x := (h8, mk t.s.length x.2.2.1)) hs.new (fun yy hyy => by repeat (first | exact List.mem_append_left _ hyy | exact List.mem_append_left _ (List.mem_append_right _ hyy) | exact List.mem_append_left _ (List.mem_append_left _ hyy) | refine List.mem_append_right _ ?_ | refine List.Mem.tail _ ?_)) (hg8 x.2.2.1)) (by rw [mk_len]; omega) (sml_mk (pp_left hV hPP).1))) rfl (by decide) (fun _ _ => ?_)
    rw [sum_mk]
    refine TL.pure (PV.gtr rfl rfl) rfl (by decide) ?_
    refine TL.nil ?_
    refine TQ.thenC ?_
    first | refine TC.condD rfl (fun hpos => ?_) (fun hpos => ?_) | refine TC.cond rfl (fun hpos => ?_) (fun hpos => ?_)
    · skip
      refine TC.skip ?_
      refine TQ.thenC ?_
      refine TC.block ?_
      refine TC.seqK [1, 2, 3, 4, 5] (X := Nat × Nat) (fun z4 => True) (fun z4 => [(6, .slice (some ⟨z4.1, 0, none⟩) t.s.length t.s.length), (7, .slice (some ⟨z4.2, 0, none⟩) t.d.length t.d.length)]) (fun z4 => gbI ((some (z4.1, t.s.length, [])), mk t.s.length (fun _ => (0 : Int))) ++ (gbI ((some (z4.2, t.d.length, [])), mk t.d.length (fun _ => (0 : Int))) ++ (gbR rwR 22 y8.1 x.1 ++ (rwB x.1 ++ (gbI (h8, mk t.s.length x.2.2.1) ++ (gbI (h9, mk t.d.length x.2.2.2) ++ [(b0, Obj.cells #[.slice p1 t.s.length c1, .slice p2 t.d.length c2, .slice p3 t.c.length c3] 25 (0, 0))])))))) ?_ ?_
      · skip
        refine TC.mixV [true, true, false, true, true, false, true, true] [(b0, Obj.cells #[.slice p1 t.s.length c1, .slice p2 t.d.length c2, .slice p3 t.c.length c3] 25 (0, 0))] 8 Tb.mixed rfl (by kernel_rfl) (by kernel_rfl) (by kernel_rfl) (by kernel_rfl) (by repeat (first | exact List.Sublist.slnil | exact List.nil_sublist _ | exact List.Sublist.refl _ | refine List.Sublist.cons_cons _ ?_ | refine List.Sublist.cons _ ?_ | refine List.Sublist.trans ?_ (List.sublist_append_right _ _))) ?_
        refine TV.virt 0 rfl rfl (by decide) rfl (by kernel_rfl) (SOK.pure (PV.move rfl) rfl) ?_
        refine TV.virt 1 rfl rfl (by decide) rfl (by kernel_rfl) (SOK.pure (PV.lenG (h := h8) (len := t.s.length) (ys := ival (mk t.s.length x.2.2.1)) rfl (gk_mk (hg8 x.2.2.1)) Tb.sl_22) rfl) ?_
        refine TV.virt 3 rfl rfl (by decide) rfl (by kernel_rfl) (SOK.pure (PV.move rfl) rfl) ?_
        refine TV.virt 4 rfl rfl (by decide) rfl (by kernel_rfl) (SOK.pure (PV.lenG (h := h9) (len := t.d.length) (ys := ival (mk t.d.length x.2.2.2)) rfl (gk_mk (hg9 x.2.2.2)) Tb.sl_22) rfl) ?_
        refine TV.step [2, 5] (by kernel_rfl) (by decide) rfl ⟨⟨_, rfl, ?_⟩, ⟨_, rfl, ?_⟩, trivial⟩
        · skip
          refine TL.makeI (k := t.s.length) rfl rfl Tb.sl_22 Tb.zi_3 rfl (by omega) (by omega) rfl (by decide) (fun bL hbL => ?_)
          rw [mk_rep]
          refine TL.nil ?_
          refine TV.next (.inl (by repeat (first | exact List.Sublist.slnil | exact List.nil_sublist _ | exact List.Sublist.refl _ | refine List.Sublist.cons_cons _ ?_ | refine List.Sublist.cons _ ?_ | refine List.Sublist.trans ?_ (List.sublist_append_right _ _)))) ?_
          refine TV.virt 6 rfl rfl (by decide) rfl (by kernel_rfl) (SOK.pure (PV.assign rfl) rfl) ?_
          refine TV.step [5] (by kernel_rfl) (by decide) rfl ⟨⟨_, rfl, ?_⟩, trivial⟩
          refine TL.makeI (k := t.d.length) rfl rfl Tb.sl_22 Tb.zi_3 rfl (by omega) (by omega) rfl (by decide) (fun bM hbM => ?_)
          rw [mk_rep]
          refine TL.nil ?_
          refine TV.next (.inl (by repeat (first | exact List.Sublist.slnil | exact List.nil_sublist _ | exact List.Sublist.refl _ | refine List.Sublist.cons_cons _ ?_ | refine List.Sublist.cons _ ?_ | refine List.Sublist.trans ?_ (List.sublist_append_right _ _)))) ?_
          refine TV.virt 7 rfl rfl (by decide) rfl (by kernel_rfl) (SOK.pure (PV.assign rfl) rfl) ?_
          refine TV.done (by kernel_rfl) ?_
          refine TQ.thenN ?_
          refine TQ.perm (G' := gbI ((some (bL, t.s.length, [])), mk t.s.length (fun _ => (0 : Int))) ++ (gbI ((some (bM, t.d.length, [])), mk t.d.length (fun _ => (0 : Int))) ++ (gbR rwR 22 y8.1 x.1 ++ (rwB x.1 ++ (gbI (h8, mk t.s.length x.2.2.1) ++ (gbI (h9, mk t.d.length x.2.2.2) ++ [(b0, Obj.cells #[.slice p1 t.s.length c1, .slice p2 t.d.length c2, .slice p3 t.c.length c3] 25 (0, 0))])))))) (perm_of fun c9 => by simp only [gb_new, List.map_append, List.sum_append, List.map_cons, List.sum_cons, List.map_nil, List.sum_nil, Value.cells]; try omega) ?_
          refine TQ.midK (bL, bM) (by repeat (first | exact True.intro | refine And.intro rfl ?_)) (by repeat (first | exact True.intro | refine And.intro rfl ?_)) (List.Sublist.refl _) trivial
        · skip
          refine TL.makeI (k := t.d.length) rfl rfl Tb.sl_22 Tb.zi_3 rfl (by omega) (by omega) rfl (by decide) (fun bM hbM => ?_)
          rw [mk_rep]
          refine TL.nil ?_
          refine TV.next (.inl (by repeat (first | exact List.Sublist.slnil | exact List.nil_sublist _ | exact List.Sublist.refl _ | refine List.Sublist.cons_cons _ ?_ | refine List.Sublist.cons _ ?_ | refine List.Sublist.trans ?_ (List.sublist_append_right _ _)))) ?_
          refine TV.step [2] (by kernel_rfl) (by decide) rfl ⟨⟨_, rfl, ?_⟩, trivial⟩
          refine TL.makeI (k := t.s.length) rfl rfl Tb.sl_22 Tb.zi_3 rfl (by omega) (by omega) rfl (by decide) (fun bL hbL => ?_)
          rw [mk_rep]
          refine TL.nil ?_
          refine TV.next (.inl (by repeat (first | exact List.Sublist.slnil | exact List.nil_sublist _ | exact List.Sublist.refl _ | refine List.Sublist.cons_cons _ ?_ | refine List.Sublist.cons _ ?_ | refine List.Sublist.trans ?_ (List.sublist_append_right _ _)))) ?_
          refine TV.virt 6 rfl rfl (by decide) rfl (by kernel_rfl) (SOK.pure (PV.assign rfl) rfl) ?_
          refine TV.virt 7 rfl rfl (by decide) rfl (by kernel_rfl) (SOK.pure (PV.assign rfl) rfl) ?_
          refine TV.done (by kernel_rfl) ?_
          refine TQ.thenN ?_
          refine TQ.perm (G' := gbI ((some (bL, t.s.length, [])), mk t.s.length (fun _ => (0 : Int))) ++ (gbI ((some (bM, t.d.length, [])), mk t.d.length (fun _ => (0 : Int))) ++ (gbR rwR 22 y8.1 x.1 ++ (rwB x.1 ++ (gbI (h8, mk t.s.length x.2.2.1) ++ (gbI (h9, mk t.d.length x.2.2.2) ++ [(b0, Obj.cells #[.slice p1 t.s.length c1, .slice p2 t.d.length c2, .slice p3 t.c.length c3] 25 (0, 0))])))))) (perm_of fun c9 => by simp only [gb_new, List.map_append, List.sum_append, List.map_cons, List.sum_cons, List.map_nil, List.sum_nil, Value.cells]; try omega) ?_
          refine TQ.midK (bL, bM) (by repeat (first | exact True.intro | refine And.intro rfl ?_)) (by repeat (first | exact True.intro | refine And.intro rfl ?_)) (List.Sublist.refl _) trivial
      · skip
        intro z4 hz4
        refine TC.lit [(1, _), (2, _), (3, _), (4, _), (5, _), (6, _), (7, _)] (by repeat (first | exact True.intro | refine And.intro rfl ?_)) ?_
        refine TC.seqK [1, 2, 3, 4, 5, 6, 7] (X := Nat × Nat) (fun z5 => True) (fun z5 => [(8, .slice (some ⟨z5.1, 0, none⟩) t.d.length t.d.length), (9, .slice (some ⟨z5.2, 0, none⟩) t.s.length t.s.length)]) (fun z5 => gbI ((some (z5.1, t.d.length, [])), mk t.d.length (fun _ => (0 : Int))) ++ (gbI ((some (z5.2, t.s.length, [])), mk t.s.length (fun _ => (0 : Int))) ++ (gbI ((some (z4.1, t.s.length, [])), mk t.s.length (fun _ => (0 : Int))) ++ (gbI ((some (z4.2, t.d.length, [])), mk t.d.length (fun _ => (0 : Int))) ++ (gbR rwR 22 y8.1 x.1 ++ (rwB x.1 ++ (gbI (h8, mk t.s.length x.2.2.1) ++ (gbI (h9, mk t.d.length x.2.2.2) ++ [(b0, Obj.cells #[.slice p1 t.s.length c1, .slice p2 t.d.length c2, .slice p3 t.c.length c3] 25 (0, 0))])))))))) ?_ ?_
        · skip
          refine TC.mixV [true, true, false, true, true, false, true, true] [(b0, Obj.cells #[.slice p1 t.s.length c1, .slice p2 t.d.length c2, .slice p3 t.c.length c3] 25 (0, 0))] 8 Tb.mixed rfl (by kernel_rfl) (by kernel_rfl) (by kernel_rfl) (by kernel_rfl) (by repeat (first | exact List.Sublist.slnil | exact List.nil_sublist _ | exact List.Sublist.refl _ | refine List.Sublist.cons_cons _ ?_ | refine List.Sublist.cons _ ?_ | refine List.Sublist.trans ?_ (List.sublist_append_right _ _))) ?_
          refine TV.virt 0 rfl rfl (by decide) rfl (by kernel_rfl) (SOK.pure (PV.move rfl) rfl) ?_
          refine TV.virt 1 rfl rfl (by decide) rfl (by kernel_rfl) (SOK.pure (PV.lenG (h := h9) (len := t.d.length) (ys := ival (mk t.d.length x.2.2.2)) rfl (gk_mk (hg9 x.2.2.2)) Tb.sl_22) rfl) ?_
          refine TV.virt 3 rfl rfl (by decide) rfl (by kernel_rfl) (SOK.pure (PV.move rfl) rfl) ?_
          refine TV.virt 4 rfl rfl (by decide) rfl (by kernel_rfl) (SOK.pure (PV.lenG (h := h8) (len := t.s.length) (ys := ival (mk t.s.length x.2.2.1)) rfl (gk_mk (hg8 x.2.2.1)) Tb.sl_22) rfl) ?_
          refine TV.step [2, 5] (by kernel_rfl) (by decide) rfl ⟨⟨_, rfl, ?_⟩, ⟨_, rfl, ?_⟩, trivial⟩
          · skip
            refine TL.makeI (k := t.d.length) rfl rfl Tb.sl_22 Tb.zi_3 rfl (by omega) (by omega) rfl (by decide) (fun bP hbP => ?_)
            rw [mk_rep]
            refine TL.nil ?_
            refine TV.next (.inl (by repeat (first | exact List.Sublist.slnil | exact List.nil_sublist _ | exact List.Sublist.refl _ | refine List.Sublist.cons_cons _ ?_ | refine List.Sublist.cons _ ?_ | refine List.Sublist.trans ?_ (List.sublist_append_right _ _)))) ?_
            refine TV.virt 6 rfl rfl (by decide) rfl (by kernel_rfl) (SOK.pure (PV.assign rfl) rfl) ?_
            refine TV.step [5] (by kernel_rfl) (by decide) rfl ⟨⟨_, rfl, ?_⟩, trivial⟩
            refine TL.makeI (k := t.s.length) rfl rfl Tb.sl_22 Tb.zi_3 rfl (by omega) (by omega) rfl (by decide) (fun bQ hbQ => ?_)
            rw [mk_rep]
            refine TL.nil ?_
            refine TV.next (.inl (by repeat (first | exact List.Sublist.slnil | exact List.nil_sublist _ | exact List.Sublist.refl _ | refine List.Sublist.cons_cons _ ?_ | refine List.Sublist.cons _ ?_ | refine List.Sublist.trans ?_ (List.sublist_append_right _ _)))) ?_
            refine TV.virt 7 rfl rfl (by decide) rfl (by kernel_rfl) (SOK.pure (PV.assign rfl) rfl) ?_
            refine TV.done (by kernel_rfl) ?_
            refine TQ.thenN ?_
            refine TQ.perm (G' := gbI ((some (bP, t.d.length, [])), mk t.d.length (fun _ => (0 : Int))) ++ (gbI ((some (bQ, t.s.length, [])), mk t.s.length (fun _ => (0 : Int))) ++ (gbI ((some (z4.1, t.s.length, [])), mk t.s.length (fun _ => (0 : Int))) ++ (gbI ((some (z4.2, t.d.length, [])), mk t.d.length (fun _ => (0 : Int))) ++ (gbR rwR 22 y8.1 x.1 ++ (rwB x.1 ++ (gbI (h8, mk t.s.length x.2.2.1) ++ (gbI (h9, mk t.d.length x.2.2.2) ++ [(b0, Obj.cells #[.slice p1 t.s.length c1, .slice p2 t.d.length c2, .slice p3 t.c.length c3] 25 (0, 0))])))))))) (perm_of fun c9 => by simp only [gb_new, List.map_append, List.sum_append, List.map_cons, List.sum_cons, List.map_nil, List.sum_nil, Value.cells]; try omega) ?_
            refine TQ.midK (bP, bQ) (by repeat (first | exact True.intro | refine And.intro rfl ?_)) (by repeat (first | exact True.intro | refine And.intro rfl ?_)) (List.Sublist.refl _) trivial
          · skip
            refine TL.makeI (k := t.s.length) rfl rfl Tb.sl_22 Tb.zi_3 rfl (by omega) (by omega) rfl (by decide) (fun bQ hbQ => ?_)
            rw [mk_rep]
            refine TL.nil ?_
            refine TV.next (.inl (by repeat (first | exact List.Sublist.slnil | exact List.nil_sublist _ | exact List.Sublist.refl _ | refine List.Sublist.cons_cons _ ?_ | refine List.Sublist.cons _ ?_ | refine List.Sublist.trans ?_ (List.sublist_append_right _ _)))) ?_
            refine TV.step [2] (by kernel_rfl) (by decide) rfl ⟨⟨_, rfl, ?_⟩, trivial⟩
            refine TL.makeI (k := t.d.length) rfl rfl Tb.sl_22 Tb.zi_3 rfl (by omega) (by omega) rfl (by decide) (fun bP hbP => ?_)
            rw [mk_rep]
            refine TL.nil ?_
            refine TV.next (.inl (by repeat (first | exact List.Sublist.slnil | exact List.nil_sublist _ | exact List.Sublist.refl _ | refine List.Sublist.cons_cons _ ?_ | refine List.Sublist.cons _ ?_ | refine List.Sublist.trans ?_ (List.sublist_append_right _ _)))) ?_
            refine TV.virt 6 rfl rfl (by decide) rfl (by kernel_rfl) (SOK.pure (PV.assign rfl) rfl) ?_
            refine TV.virt 7 rfl rfl (by decide) rfl (by kernel_rfl) (SOK.pure (PV.assign rfl) rfl) ?_
            refine TV.done (by kernel_rfl) ?_
            refine TQ.thenN ?_
            refine TQ.perm (G' := gbI ((some (bP, t.d.length, [])), mk t.d.length (fun _ => (0 : Int))) ++ (gbI ((some (bQ, t.s.length, [])), mk t.s.length (fun _ => (0 : Int))) ++ (gbI ((some (z4.1, t.s.length, [])), mk t.s.length (fun _ => (0 : Int))) ++ (gbI ((some (z4.2, t.d.length, [])), mk t.d.length (fun _ => (0 : Int))) ++ (gbR rwR 22 y8.1 x.1 ++ (rwB x.1 ++ (gbI (h8, mk t.s.length x.2.2.1) ++ (gbI (h9, mk t.d.length x.2.2.2) ++ [(b0, Obj.cells #[.slice p1 t.s.length c1, .slice p2 t.d.length c2, .slice p3 t.c.length c3] 25 (0, 0))])))))))) (perm_of fun c9 => by simp only [gb_new, List.map_append, List.sum_append, List.map_cons, List.sum_cons, List.map_nil, List.sum_nil, Value.cells]; try omega) ?_
            refine TQ.midK (bP, bQ) (by repeat (first | exact True.intro | refine And.intro rfl ?_)) (by repeat (first | exact True.intro | refine And.intro rfl ?_)) (List.Sublist.refl _) trivial
        · skip
          intro z5 hz5
          refine TC.lit [(1, _), (2, _), (3, _), (4, _), (5, _), (6, _), (7, _), (8, _), (9, _)] (by repeat (first | exact True.intro | refine And.intro rfl ?_)) ?_
          refine TC.seq ?_
          refine TC.seq ?_
          refine TC.region ?_
          refine TL.pure (PV.assign rfl) rfl (by decide) ?_
          refine TL.nil ?_
          refine TQ.thenC ?_
          refine TC.block ?_
          refine TC.lit [(1, _), (2, _), (3, _), (4, _), (5, _), (6, _), (7, _), (8, _), (9, _), (10, _)] (by repeat (first | exact True.intro | refine And.intro rfl ?_)) ?_
          refine TC.perm (G' := gbI ((some (z4.1, t.s.length, [])), mk t.s.length (fun _ => (0 : Int))) ++ (gbI ((some (z4.2, t.d.length, [])), mk t.d.length (m0 0)) ++ (gbI ((some (z5.1, t.d.length, [])), mk t.d.length (fun _ => (0 : Int))) ++ (gbI ((some (z5.2, t.s.length, [])), mk t.s.length (fun _ => (0 : Int))) ++ (gbR rwR 22 y8.1 x.1 ++ (rwB x.1 ++ (gbI (h8, mk t.s.length x.2.2.1) ++ (gbI (h9, mk t.d.length x.2.2.2) ++ [(b0, Obj.cells #[.slice p1 t.s.length c1, .slice p2 t.d.length c2, .slice p3 t.c.length c3] 25 (0, 0))])))))))) (perm_of fun c9 => by rw [← m0_0]; all_goals (simp only [gbI, gbR, List.map_append, List.sum_append, List.map_cons, List.sum_cons, List.map_nil, List.sum_nil, Value.cells]; try omega)) ?_
          refine TC.loopK [1, 2, 3, 4, 5, 6, 7, 8, 9] (X := Nat) (fun k => k ≤ t.d.length) (fun k => [(10, .int .i64 (k : Nat))]) (fun k => gbI ((some (z4.1, t.s.length, [])), mk t.s.length (fun _ => (0 : Int))) ++ (gbI ((some (z4.2, t.d.length, [])), mk t.d.length (m0 k)) ++ (gbI ((some (z5.1, t.d.length, [])), mk t.d.length (fun _ => (0 : Int))) ++ (gbI ((some (z5.2, t.s.length, [])), mk t.s.length (fun _ => (0 : Int))) ++ (gbR rwR 22 y8.1 x.1 ++ (rwB x.1 ++ (gbI (h8, mk t.s.length x.2.2.1) ++ (gbI (h9, mk t.d.length x.2.2.2) ++ [(b0, Obj.cells #[.slice p1 t.s.length c1, .slice p2 t.d.length c2, .slice p3 t.c.length c3] 25 (0, 0))])))))))) (fun k => t.d.length - k) 0 (Nat.zero_le _) (by repeat (first | exact True.intro | refine And.intro rfl ?_)) (List.Sublist.refl _) ?_
          intro k hk
          refine TC.lit [(1, _), (2, _), (3, _), (4, _), (5, _), (6, _), (7, _), (8, _), (9, _), (10, _)] (by repeat (first | exact True.intro | refine And.intro rfl ?_)) ?_
          refine TC.seq ?_
          refine TC.seq ?_
          refine TC.region ?_
          refine TL.pure (PV.move rfl) rfl (by decide) ?_
          refine TL.pure (PV.move rfl) rfl (by decide) ?_
          refine TL.pure (PV.lenG (h := (some (z4.2, t.d.length, []))) (len := t.d.length) (ys := ival (mk t.d.length (m0 k))) rfl (gk_mk (go_new _ _ _)) Tb.sl_22) rfl (by decide) ?_
          refine TL.pure (PV.lss rfl rfl) rfl (by decide) ?_
          refine TL.nil ?_
          refine TQ.thenC ?_
          first | refine TC.condD rfl (fun hl1 => ?_) (fun hl1 => ?_) | refine TC.cond rfl (fun hl1 => ?_) (fun hl1 => ?_)
          · skip
            refine TC.skip ?_
            refine TQ.thenC ?_
            refine TC.seq ?_
            refine TC.block ?_
            refine TC.region ?_
            refine TL.pure (PV.move rfl) rfl (by decide) ?_
            refine TL.pure (PV.move rfl) rfl (by decide) ?_
            refine TL.pure (PV.indexG (h := (some (z4.2, t.d.length, []))) (len := t.d.length) (ys := ival (mk t.d.length (m0 k))) (j := k) rfl rfl (gk_mk (go_new _ _ _)) Tb.elm_22 rfl (by omega)) rfl (by decide) ?_
            refine TL.putI (h := (some (z4.2, t.d.length, []))) (xs := mk t.d.length (m0 k)) (xs' := mk t.d.length (m0 (k + 1))) (j := k) rfl rfl Tb.cells_3 (go_new _ _ _) (m0_set (by omega)) (by repeat (first | exact PutH.here _ _ _ _ | apply PutH.tail | apply PutH.app)) (by rw [mk_len]; omega) rfl rfl ?_
            refine TL.nil ?_
            refine TQ.blkN ?_
            refine TQ.thenC ?_
            refine TC.region ?_
            refine TL.pure (PV.move rfl) rfl (by decide) ?_
            refine TL.pure (PV.add rfl rfl (by omega)) rfl (by decide) ?_
            refine TL.pure (PV.assign rfl) rfl (by decide) ?_
            refine TL.nil ?_
            refine TQ.thenN ?_
            refine TQ.backK (k + 1) (by repeat (first | exact True.intro | refine And.intro rfl ?_)) (by repeat (first | exact True.intro | refine And.intro rfl ?_)) (List.Sublist.refl _) (by omega) (by omega)
          · skip
            refine TC.exit ?_
            refine TQ.thenE ?_
            refine TQ.thenE ?_
            refine TQ.blkS ?_
            refine TQ.thenC ?_
            refine TC.seq ?_
            refine TC.seq ?_
            refine TC.region ?_
            refine TL.pure (PV.assign rfl) rfl (by decide) ?_
            refine TL.nil ?_
            refine TQ.thenC ?_
            refine TC.block ?_
            refine TC.lit [(1, _), (2, _), (3, _), (4, _), (5, _), (6, _), (7, _), (8, _), (9, _), (11, _)] (by repeat (first | exact True.intro | refine And.intro rfl ?_)) ?_
            have hkB : k = t.d.length := by omega
            refine TC.perm (G' := gbI ((some (z4.1, t.s.length, [])), mk t.s.length (l0 x.2.2.1 0)) ++ (gbI ((some (z4.2, t.d.length, [])), mk t.d.length (m0 t.d.length)) ++ (gbI ((some (z5.1, t.d.length, [])), mk t.d.length (fun _ => (0 : Int))) ++ (gbI ((some (z5.2, t.s.length, [])), mk t.s.length (p0 0)) ++ (gbR rwR 22 y8.1 x.1 ++ (rwB x.1 ++ (gbI (h8, mk t.s.length x.2.2.1) ++ (gbI (h9, mk t.d.length x.2.2.2) ++ [(b0, Obj.cells #[.slice p1 t.s.length c1, .slice p2 t.d.length c2, .slice p3 t.c.length c3] 25 (0, 0))])))))))) (perm_of fun c9 => by rw [hkB, ← l0_0, ← p0_0]; all_goals (simp only [gbI, gbR, List.map_append, List.sum_append, List.map_cons, List.sum_cons, List.map_nil, List.sum_nil, Value.cells]; try omega)) ?_
            refine TC.loopK [1, 2, 3, 4, 5, 6, 7, 8, 9] (X := Nat) (fun k => k ≤ t.s.length) (fun k => [(11, .int .i64 (k : Nat))]) (fun k => gbI ((some (z4.1, t.s.length, [])), mk t.s.length (l0 x.2.2.1 k)) ++ (gbI ((some (z4.2, t.d.length, [])), mk t.d.length (m0 t.d.length)) ++ (gbI ((some (z5.1, t.d.length, [])), mk t.d.length (fun _ => (0 : Int))) ++ (gbI ((some (z5.2, t.s.length, [])), mk t.s.length (p0 k)) ++ (gbR rwR 22 y8.1 x.1 ++ (rwB x.1 ++ (gbI (h8, mk t.s.length x.2.2.1) ++ (gbI (h9, mk t.d.length x.2.2.2) ++ [(b0, Obj.cells #[.slice p1 t.s.length c1, .slice p2 t.d.length c2, .slice p3 t.c.length c3] 25 (0, 0))])))))))) (fun k => t.s.length - k) 0 (Nat.zero_le _) (by repeat (first | exact True.intro | refine And.intro rfl ?_)) (List.Sublist.refl _) ?_
            intro k hk
            refine TC.lit [(1, _), (2, _), (3, _), (4, _), (5, _), (6, _), (7, _), (8, _), (9, _), (11, _)] (by repeat (first | exact True.intro | refine And.intro rfl ?_)) ?_
            refine TC.seq ?_
            refine TC.seq ?_
            refine TC.region ?_
            refine TL.pure (PV.move rfl) rfl (by decide) ?_
            refine TL.pure (PV.move rfl) rfl (by decide) ?_
            refine TL.pure (PV.lenG (h := (some (z4.1, t.s.length, []))) (len := t.s.length) (ys := ival (mk t.s.length (l0 x.2.2.1 k))) rfl (gk_mk (go_new _ _ _)) Tb.sl_22) rfl (by decide) ?_
            refine TL.pure (PV.lss rfl rfl) rfl (by decide) ?_
            refine TL.nil ?_
            refine TQ.thenC ?_
            first | refine TC.condD rfl (fun hl2 => ?_) (fun hl2 => ?_) | refine TC.cond rfl (fun hl2 => ?_) (fun hl2 => ?_)
            · skip
              refine TC.skip ?_
              refine TQ.thenC ?_
              refine TC.seq ?_
              refine TC.block ?_
              refine TC.seq ?_
              refine TC.region ?_
              refine TL.pure (PV.move rfl) rfl (by decide) ?_
              refine TL.pure (PV.move rfl) rfl (by decide) ?_
              refine TL.pure (PV.indexG (h := (some (z5.2, t.s.length, []))) (len := t.s.length) (ys := ival (mk t.s.length (p0 k))) (j := k) rfl rfl (gk_mk (go_new _ _ _)) Tb.elm_22 rfl (by omega)) rfl (by decide) ?_
              refine TL.putI (h := (some (z5.2, t.s.length, []))) (xs := mk t.s.length (p0 k)) (xs' := mk t.s.length (p0 (k + 1))) (j := k) rfl rfl Tb.cells_3 (go_new _ _ _) (p0_set (by omega)) (by repeat (first | exact PutH.here _ _ _ _ | apply PutH.tail | apply PutH.app)) (by rw [mk_len]; omega) rfl rfl ?_
              refine TL.nil ?_
              refine TQ.thenC ?_
              refine TC.seq ?_
              have hlk := hl30 k (by omega)
              refine TC.region ?_
              refine TL.pure (PV.move rfl) rfl (by decide) ?_
              refine TL.pure (PV.move rfl) rfl (by decide) ?_
              refine TL.pure (PV.indexG (h := h8) (len := t.s.length) (ys := ival (mk t.s.length x.2.2.1)) (j := k) rfl rfl (gk_mk (hg8 x.2.2.1)) Tb.elm_22 rfl (by omega)) rfl (by decide) ?_
              refine TL.pure (PV.loadGI (y := (h8, mk t.s.length x.2.2.1)) (j := k) (v := (x.2.2.1 k)) rfl Tb.one_3 (fun yy hyy => by repeat (first | exact List.mem_append_left _ hyy | exact List.mem_append_left _ (List.mem_append_right _ hyy) | exact List.mem_append_left _ (List.mem_append_left _ hyy) | refine List.mem_append_right _ ?_ | refine List.Mem.tail _ ?_)) (hg8 x.2.2.1) (by show _ < (mk _ _).length; rw [mk_len]; omega) (by show (mk _ _).getD _ _ = _; rw [mk_at _ (by omega)])) rfl (by decide) ?_
              refine TL.pure (PV.eql rfl rfl) rfl (by decide) ?_
              refine TL.nil ?_
              refine TQ.thenC ?_
              first | refine TC.condD rfl (fun hz => ?_) (fun hz => ?_) | refine TC.cond rfl (fun hz => ?_) (fun hz => ?_)
              · skip
                refine TC.region ?_
                refine TL.pure (PV.move rfl) rfl (by decide) ?_
                refine TL.pure (PV.move rfl) rfl (by decide) ?_
                refine TL.pure (PV.indexG (h := (some (z4.1, t.s.length, []))) (len := t.s.length) (ys := ival (mk t.s.length (l0 x.2.2.1 k))) (j := k) rfl rfl (gk_mk (go_new _ _ _)) Tb.elm_22 rfl (by omega)) rfl (by decide) ?_
                refine TL.putI (h := (some (z4.1, t.s.length, []))) (xs := mk t.s.length (l0 x.2.2.1 k)) (xs' := mk t.s.length (l0 x.2.2.1 (k + 1))) (j := k) rfl rfl Tb.cells_3 (go_new _ _ _) (l0_set (by omega) hz) (by repeat (first | exact PutH.here _ _ _ _ | apply PutH.tail | apply PutH.app)) (by rw [mk_len]; omega) rfl rfl ?_
                refine TL.nil ?_
                refine TQ.blkN ?_
                refine TQ.thenC ?_
                refine TC.region ?_
                refine TL.pure (PV.move rfl) rfl (by decide) ?_
                refine TL.pure (PV.add rfl rfl (by omega)) rfl (by decide) ?_
                refine TL.pure (PV.assign rfl) rfl (by decide) ?_
                refine TL.nil ?_
                refine TQ.thenN ?_
                refine TQ.backK (k + 1) (by repeat (first | exact True.intro | refine And.intro rfl ?_)) (by repeat (first | exact True.intro | refine And.intro rfl ?_)) (List.Sublist.refl _) (by omega) (by omega)
              · skip
                rw [l0_same (left := x.2.2.1) (k := k) hz]
                refine TC.skip ?_
                refine TQ.blkN ?_
                refine TQ.thenC ?_
                refine TC.region ?_
                refine TL.pure (PV.move rfl) rfl (by decide) ?_
                refine TL.pure (PV.add rfl rfl (by omega)) rfl (by decide) ?_
                refine TL.pure (PV.assign rfl) rfl (by decide) ?_
                refine TL.nil ?_
                refine TQ.thenN ?_
                refine TQ.backK (k + 1) (by repeat (first | exact True.intro | refine And.intro rfl ?_)) (by repeat (first | exact True.intro | refine And.intro rfl ?_)) (List.Sublist.refl _) (by omega) (by omega)
            · skip
              refine TC.exit ?_
              refine TQ.thenE ?_
              refine TQ.thenE ?_
              refine TQ.blkS ?_
              refine TQ.thenC ?_
              refine TC.seq ?_
              refine TC.seq ?_
              refine TC.region ?_
              refine TL.pure (PV.assign rfl) rfl (by decide) ?_
              refine TL.nil ?_
              refine TQ.thenC ?_
              refine TC.block ?_
              refine TC.lit [(1, _), (2, _), (3, _), (4, _), (5, _), (6, _), (7, _), (8, _), (9, _), (12, _)] (by repeat (first | exact True.intro | refine And.intro rfl ?_)) ?_
              have hkS : k = t.s.length := by omega
              refine TC.perm (G' := gbI ((some (z4.1, t.s.length, [])), mk t.s.length (rs0 x.2.2.1).L) ++ (gbI ((some (z4.2, t.d.length, [])), mk t.d.length (rs0 x.2.2.1).M) ++ (gbI ((some (z5.1, t.d.length, [])), mk t.d.length (rs0 x.2.2.1).pb) ++ (gbI ((some (z5.2, t.s.length, [])), mk t.s.length (rs0 x.2.2.1).pi) ++ (gbR rwR 22 y8.1 x.1 ++ (rwB x.1 ++ (gbI (h8, mk t.s.length x.2.2.1) ++ (gbI (h9, mk t.d.length x.2.2.2) ++ [(b0, Obj.cells #[.slice p1 t.s.length c1, .slice p2 t.d.length c2, .slice p3 t.c.length c3] 25 (0, 0))])))))))) (perm_of fun c9 => by rw [hkS, ← l0_fin, ← m0_fin, ← p0_fin, show (rs0 x.2.2.1).pb = fun _ => (0 : Int) from rfl]; all_goals (simp only [gbI, gbR, List.map_append, List.sum_append, List.map_cons, List.sum_cons, List.map_nil, List.sum_nil, Value.cells]; try omega)) ?_
              refine TC.loopK [1, 2, 3, 4, 5, 6, 7, 8, 9] (X := Nat × RS) (fun r => r.1 ≤ t.s.length + t.d.length + 1 ∧ RD t.s.length t.d.length (getM t.c) x.2.1 x.2.2.1 u9 v9 r.2 r.1 0 0) (fun r => [(12, .int .i64 (r.1 : Nat))]) (fun r => gbI ((some (z4.1, t.s.length, [])), mk t.s.length r.2.L) ++ (gbI ((some (z4.2, t.d.length, [])), mk t.d.length r.2.M) ++ (gbI ((some (z5.1, t.d.length, [])), mk t.d.length r.2.pb) ++ (gbI ((some (z5.2, t.s.length, [])), mk t.s.length r.2.pi) ++ (gbR rwR 22 y8.1 x.1 ++ (rwB x.1 ++ (gbI (h8, mk t.s.length x.2.2.1) ++ (gbI (h9, mk t.d.length x.2.2.2) ++ [(b0, Obj.cells #[.slice p1 t.s.length c1, .slice p2 t.d.length c2, .slice p3 t.c.length c3] 25 (0, 0))])))))))) (fun r => t.s.length + t.d.length + 1 - r.1) (0, rs0 x.2.2.1) ⟨Nat.zero_le _, RD.init hPI hPP.l0⟩ (by repeat (first | exact True.intro | refine And.intro rfl ?_)) (List.Sublist.refl _) ?_
              intro r hr9
              refine TC.lit [(1, _), (2, _), (3, _), (4, _), (5, _), (6, _), (7, _), (8, _), (9, _), (12, _)] (by repeat (first | exact True.intro | refine And.intro rfl ?_)) ?_
              refine TC.seq ?_
              refine TC.seq ?_
              refine TC.region ?_
              refine TL.pure (PV.move rfl) rfl (by decide) ?_
              refine TL.pure (PV.move rfl) rfl (by decide) ?_
              refine TL.pure (PV.lenG (h := h8) (len := t.s.length) (ys := ival (mk t.s.length x.2.2.1)) rfl (gk_mk (hg8 x.2.2.1)) Tb.sl_22) rfl (by decide) ?_
              refine TL.pure (PV.move rfl) rfl (by decide) ?_
              refine TL.pure (PV.lenG (h := h9) (len := t.d.length) (ys := ival (mk t.d.length x.2.2.2)) rfl (gk_mk (hg9 x.2.2.2)) Tb.sl_22) rfl (by decide) ?_
              refine TL.pure (PV.add rfl rfl (by omega)) rfl (by decide) ?_
              refine TL.pure (PV.add rfl rfl (by omega)) rfl (by decide) ?_
              refine TL.pure (PV.lss rfl rfl) rfl (by decide) ?_
              refine TL.nil ?_
              refine TQ.thenC ?_
              first | refine TC.condD rfl (fun hl3 => ?_) (fun hl3 => ?_) | refine TC.cond rfl (fun hl3 => ?_) (fun hl3 => ?_)
              · skip
                refine TC.skip ?_
                refine TQ.thenC ?_
                refine TC.seq ?_
                refine TC.block ?_
                refine TC.seq ?_
                refine TC.region ?_
                refine TL.pure (PV.assign rfl) rfl (by decide) ?_
                refine TL.nil ?_
                refine TQ.thenC ?_
                refine TC.block ?_
                refine TC.lit [(1, _), (2, _), (3, _), (4, _), (5, _), (6, _), (7, _), (8, _), (9, _), (12, _), (13, _)] (by repeat (first | exact True.intro | refine And.intro rfl ?_)) ?_
                refine TC.loopK [1, 2, 3, 4, 5, 6, 7, 8, 9, 12] (X := Nat × RS) (fun a => a.1 ≤ t.s.length ∧ RD t.s.length t.d.length (getM t.c) x.2.1 x.2.2.1 u9 v9 a.2 r.1 a.1 0) (fun a => [(13, .int .i64 (a.1 : Nat))]) (fun a => gbI ((some (z4.1, t.s.length, [])), mk t.s.length a.2.L) ++ (gbI ((some (z4.2, t.d.length, [])), mk t.d.length a.2.M) ++ (gbI ((some (z5.1, t.d.length, [])), mk t.d.length a.2.pb) ++ (gbI ((some (z5.2, t.s.length, [])), mk t.s.length a.2.pi) ++ (gbR rwR 22 y8.1 x.1 ++ (rwB x.1 ++ (gbI (h8, mk t.s.length x.2.2.1) ++ (gbI (h9, mk t.d.length x.2.2.2) ++ [(b0, Obj.cells #[.slice p1 t.s.length c1, .slice p2 t.d.length c2, .slice p3 t.c.length c3] 25 (0, 0))])))))))) (fun a => t.s.length - a.1) (0, r.2) ⟨Nat.zero_le _, hr9.2⟩ (by repeat (first | exact True.intro | refine And.intro rfl ?_)) (List.Sublist.refl _) ?_
                intro a ha9
                refine TC.lit [(1, _), (2, _), (3, _), (4, _), (5, _), (6, _), (7, _), (8, _), (9, _), (12, _), (13, _)] (by repeat (first | exact True.intro | refine And.intro rfl ?_)) ?_
                refine TC.seq ?_
                refine TC.seq ?_
                refine TC.region ?_
                refine TL.pure (PV.move rfl) rfl (by decide) ?_
                refine TL.pure (PV.move rfl) rfl (by decide) ?_
                refine TL.pure (PV.lenG (h := (some (z4.1, t.s.length, []))) (len := t.s.length) (ys := ival (mk t.s.length a.2.L)) rfl (gk_mk (go_new _ _ _)) Tb.sl_22) rfl (by decide) ?_
                refine TL.pure (PV.lss rfl rfl) rfl (by decide) ?_
                refine TL.nil ?_
                refine TQ.thenC ?_
                first | refine TC.condD rfl (fun hl4 => ?_) (fun hl4 => ?_) | refine TC.cond rfl (fun hl4 => ?_) (fun hl4 => ?_)
                · skip
                  refine TC.skip ?_
                  refine TQ.thenC ?_
                  refine TC.seq ?_
                  refine TC.block ?_
                  refine TC.seq ?_
                  refine TC.region ?_
                  refine TL.pure (PV.assign rfl) rfl (by decide) ?_
                  refine TL.nil ?_
                  refine TQ.thenC ?_
                  refine TC.block ?_
                  refine TC.lit [(1, _), (2, _), (3, _), (4, _), (5, _), (6, _), (7, _), (8, _), (9, _), (12, _), (13, _), (14, _)] (by repeat (first | exact True.intro | refine And.intro rfl ?_)) ?_
                  refine TC.loopK [1, 2, 3, 4, 5, 6, 7, 8, 9, 12, 13] (X := Nat × RS) (fun b => b.1 ≤ t.d.length ∧ RD t.s.length t.d.length (getM t.c) x.2.1 x.2.2.1 u9 v9 b.2 r.1 a.1 b.1) (fun b => [(14, .int .i64 (b.1 : Nat))]) (fun b => gbI ((some (z4.1, t.s.length, [])), mk t.s.length b.2.L) ++ (gbI ((some (z4.2, t.d.length, [])), mk t.d.length b.2.M) ++ (gbI ((some (z5.1, t.d.length, [])), mk t.d.length b.2.pb) ++ (gbI ((some (z5.2, t.s.length, [])), mk t.s.length b.2.pi) ++ (gbR rwR 22 y8.1 x.1 ++ (rwB x.1 ++ (gbI (h8, mk t.s.length x.2.2.1) ++ (gbI (h9, mk t.d.length x.2.2.2) ++ [(b0, Obj.cells #[.slice p1 t.s.length c1, .slice p2 t.d.length c2, .slice p3 t.c.length c3] 25 (0, 0))])))))))) (fun b => t.d.length - b.1) (0, a.2) ⟨Nat.zero_le _, ha9.2⟩ (by repeat (first | exact True.intro | refine And.intro rfl ?_)) (List.Sublist.refl _) ?_
                  intro b hb9
                  refine TC.lit [(1, _), (2, _), (3, _), (4, _), (5, _), (6, _), (7, _), (8, _), (9, _), (12, _), (13, _), (14, _)] (by repeat (first | exact True.intro | refine And.intro rfl ?_)) ?_
                  refine TC.seq ?_
                  refine TC.seq ?_
                  refine TC.region ?_
                  refine TL.pure (PV.move rfl) rfl (by decide) ?_
                  refine TL.pure (PV.move rfl) rfl (by decide) ?_
                  refine TL.pure (PV.lenG (h := (some (z4.2, t.d.length, []))) (len := t.d.length) (ys := ival (mk t.d.length b.2.M)) rfl (gk_mk (go_new _ _ _)) Tb.sl_22) rfl (by decide) ?_
                  refine TL.pure (PV.lss rfl rfl) rfl (by decide) ?_
                  refine TL.nil ?_
                  refine TQ.thenC ?_
                  first | refine TC.condD rfl (fun hl5 => ?_) (fun hl5 => ?_) | refine TC.cond rfl (fun hl5 => ?_) (fun hl5 => ?_)
                  · skip
                    refine TC.skip ?_
                    refine TQ.thenC ?_
                    refine TC.seq ?_
                    refine TC.block ?_
                    refine TC.seqK [1, 2, 3, 4, 5, 6, 7, 8, 9, 12, 13, 14] (X := RS) (fun st1 => RH t.s.length t.d.length (getM t.c) x.2.1 x.2.2.1 u9 v9 st1 r.1 a.1 b.1) (fun st1 => []) (fun st1 => gbI ((some (z4.1, t.s.length, [])), mk t.s.length st1.L) ++ (gbI ((some (z4.2, t.d.length, [])), mk t.d.length st1.M) ++ (gbI ((some (z5.1, t.d.length, [])), mk t.d.length st1.pb) ++ (gbI ((some (z5.2, t.s.length, [])), mk t.s.length st1.pi) ++ (gbR rwR 22 y8.1 x.1 ++ (rwB x.1 ++ (gbI (h8, mk t.s.length x.2.2.1) ++ (gbI (h9, mk t.d.length x.2.2.2) ++ [(b0, Obj.cells #[.slice p1 t.s.length c1, .slice p2 t.d.length c2, .slice p3 t.c.length c3] 25 (0, 0))])))))))) ?_ ?_
                    · skip
                      refine TC.seq ?_
                      have hRD := hb9.2
                      have hcl := hV.c.len
                      have hrw := hV.c.row a.1 (by omega)
                      obtain ⟨qr1, hqr1p, qr1p, qr1c, hqr1, hqr1r⟩ := t3 a.1 (by omega)
                      obtain ⟨qe1, hqe1p, hqe1⟩ := hqr1r b.1 (by omega)
                      have ec1 : (t.c.getD a.1 []).getD b.1 0 = getM t.c a.1 b.1 := rfl
                      rw [ec1] at hqe1
                      have hcb := hPI.c0 a.1 b.1 (by omega) (by omega)
                      have hbL := hRD.ri.bL a.1 (by omega)
                      have hbM := hRD.ri.bM b.1 (by omega)
                      have hnL := hRD.ri.nnL hPI (show a.1 < t.s.length by omega)
                      have hnM := hRD.ri.nnM hPI (show b.1 < t.d.length by omega)
                      have einf : (inf : Int) = 1073741824 := rfl
                      refine TC.any Tb.mixed rfl rfl ?_
                      refine TA.op (OpOK.pure (PV.move rfl) rfl (by decide)) (by decide) ?_
                      refine TA.op (OpOK.pure (PV.move rfl) rfl (by decide)) (by decide) ?_
                      refine TA.op (OpOK.pure (PV.indexG (h := (some (z4.1, t.s.length, []))) (len := t.s.length) (ys := ival (mk t.s.length b.2.L)) (j := a.1) rfl rfl (gk_mk (go_new _ _ _)) Tb.elm_22 rfl (by omega)) rfl (by decide)) (by decide) ?_
                      refine TA.op (OpOK.pure (PV.loadGI (y := ((some (z4.1, t.s.length, [])), mk t.s.length b.2.L)) (j := a.1) (v := (b.2.L a.1)) rfl Tb.one_3 (fun yy hyy => by repeat (first | exact List.mem_append_left _ hyy | exact List.mem_append_left _ (List.mem_append_right _ hyy) | exact List.mem_append_left _ (List.mem_append_left _ hyy) | refine List.mem_append_right _ ?_ | refine List.Mem.tail _ ?_)) (go_new _ _ _) (by show _ < (mk _ _).length; rw [mk_len]; omega) (by show (mk _ _).getD _ _ = _; rw [mk_at _ (by omega)])) rfl (by decide)) (by decide) ?_
                      refine TA.op (OpOK.pure (PV.lss rfl rfl) rfl (by decide)) (by decide) ?_
                      refine TA.op (OpOK.pure (PV.move rfl) rfl (by decide)) (by decide) ?_
                      first | refine TA.splitD 97 rfl (fun e1 => ?_) (fun e1 => ?_) | refine TA.split 97 rfl (fun e1 => ?_) (fun e1 => ?_)
                      · skip
                        refine TA.op (OpOK.pure (PV.move rfl) rfl (by decide)) (by decide) ?_
                        refine TA.op (OpOK.pure (PV.move rfl) rfl (by decide)) (by decide) ?_
                        refine TA.op (OpOK.pure (PV.indexG (h := (some (z4.1, t.s.length, []))) (len := t.s.length) (ys := ival (mk t.s.length b.2.L)) (j := a.1) rfl rfl (gk_mk (go_new _ _ _)) Tb.elm_22 rfl (by omega)) rfl (by decide)) (by decide) ?_
                        refine TA.op (OpOK.pure (PV.loadGI (y := ((some (z4.1, t.s.length, [])), mk t.s.length b.2.L)) (j := a.1) (v := (b.2.L a.1)) rfl Tb.one_3 (fun yy hyy => by repeat (first | exact List.mem_append_left _ hyy | exact List.mem_append_left _ (List.mem_append_right _ hyy) | exact List.mem_append_left _ (List.mem_append_left _ hyy) | refine List.mem_append_right _ ?_ | refine List.Mem.tail _ ?_)) (go_new _ _ _) (by show _ < (mk _ _).length; rw [mk_len]; omega) (by show (mk _ _).getD _ _ = _; rw [mk_at _ (by omega)])) rfl (by decide)) (by decide) ?_
                        refine TA.op (OpOK.pure (PV.fieldAddr rfl Tb.fo_25_2) rfl (by decide)) (by decide) ?_
                        refine TA.op (OpOK.pure (PV.load rfl Tb.one_23 (by repeat (first | exact List.Mem.head _ | refine List.Mem.tail _ ?_ | refine List.mem_append_right _ ?_)) rfl) rfl (by decide)) (by decide) ?_
                        refine TA.op (OpOK.pure (PV.move rfl) rfl (by decide)) (by decide) ?_
                        refine TA.op (OpOK.pure (PV.indexA (j := a.1) rfl hqr1p rfl Tb.elm_23 rfl (by omega)) rfl (by decide)) (by decide) ?_
                        refine TA.op (OpOK.pure (PV.loadOld rfl Tb.one_22 hqr1) rfl (by decide)) (by decide) ?_
                        refine TA.op (OpOK.pure (PV.move rfl) rfl (by decide)) (by decide) ?_
                        refine TA.op (OpOK.pure (PV.indexA (j := b.1) rfl hqe1p rfl Tb.elm_22 rfl (by omega)) rfl (by decide)) (by decide) ?_
                        refine TA.op (OpOK.pure (PV.loadOld rfl Tb.one_3 hqe1) rfl (by decide)) (by decide) ?_
                        refine TA.op (OpOK.pure (PV.add rfl rfl (by omega)) rfl (by decide)) (by decide) ?_
                        refine TA.op (OpOK.pure (PV.move rfl) rfl (by decide)) (by decide) ?_
                        refine TA.op (OpOK.pure (PV.move rfl) rfl (by decide)) (by decide) ?_
                        refine TA.op (OpOK.pure (PV.indexG (h := (some (z4.2, t.d.length, []))) (len := t.d.length) (ys := ival (mk t.d.length b.2.M)) (j := b.1) rfl rfl (gk_mk (go_new _ _ _)) Tb.elm_22 rfl (by omega)) rfl (by decide)) (by decide) ?_
                        refine TA.op (OpOK.pure (PV.loadGI (y := ((some (z4.2, t.d.length, [])), mk t.d.length b.2.M)) (j := b.1) (v := (b.2.M b.1)) rfl Tb.one_3 (fun yy hyy => by repeat (first | exact List.mem_append_left _ hyy | exact List.mem_append_left _ (List.mem_append_right _ hyy) | exact List.mem_append_left _ (List.mem_append_left _ hyy) | refine List.mem_append_right _ ?_ | refine List.Mem.tail _ ?_)) (go_new _ _ _) (by show _ < (mk _ _).length; rw [mk_len]; omega) (by show (mk _ _).getD _ _ = _; rw [mk_at _ (by omega)])) rfl (by decide)) (by decide) ?_
                        refine TA.op (OpOK.pure (PV.lss rfl rfl) rfl (by decide)) (by decide) ?_
                        refine TA.op (OpOK.pure (PV.pickT rfl rfl) rfl (by decide)) (by decide) ?_
                        show TQ _ _ _ _ _
                        refine TQ.thenC ?_
                        first | refine TC.condD rfl (fun e2 => ?_) (fun e2 => ?_) | refine TC.cond rfl (fun e2 => ?_) (fun e2 => ?_)
                        · skip
                          refine TC.seq ?_
                          refine TC.draw 16 Tb.mixed (by kernel_rfl) ?_
                          simp only [List.take_succ_cons, List.take_zero, List.drop_succ_cons, List.drop_zero]
                          refine TS.pure (PV.move rfl) rfl (by decide) ?_
                          refine TS.pure (PV.move rfl) rfl (by decide) ?_
                          refine TS.pure (PV.move rfl) rfl (by decide) ?_
                          refine TS.pure (PV.move rfl) rfl (by decide) ?_
                          refine TS.pure (PV.indexG (h := (some (z4.1, t.s.length, []))) (len := t.s.length) (ys := ival (mk t.s.length b.2.L)) (j := a.1) rfl rfl (gk_mk (go_new _ _ _)) Tb.elm_22 rfl (by omega)) rfl (by decide) ?_
                          refine TS.pure (PV.loadGI (y := ((some (z4.1, t.s.length, [])), mk t.s.length b.2.L)) (j := a.1) (v := (b.2.L a.1)) rfl Tb.one_3 (fun yy hyy => by repeat (first | exact List.mem_append_left _ hyy | exact List.mem_append_left _ (List.mem_append_right _ hyy) | exact List.mem_append_left _ (List.mem_append_left _ hyy) | refine List.mem_append_right _ ?_ | refine List.Mem.tail _ ?_)) (go_new _ _ _) (by show _ < (mk _ _).length; rw [mk_len]; omega) (by show (mk _ _).getD _ _ = _; rw [mk_at _ (by omega)])) rfl (by decide) ?_
                          refine TS.pure (PV.fieldAddr rfl Tb.fo_25_2) rfl (by decide) ?_
                          refine TS.pure (PV.load rfl Tb.one_23 (by repeat (first | exact List.Mem.head _ | refine List.Mem.tail _ ?_ | refine List.mem_append_right _ ?_)) rfl) rfl (by decide) ?_
                          refine TS.pure (PV.move rfl) rfl (by decide) ?_
                          refine TS.pure (PV.indexA (j := a.1) rfl hqr1p rfl Tb.elm_23 rfl (by omega)) rfl (by decide) ?_
                          refine TS.pure (PV.loadOld rfl Tb.one_22 hqr1) rfl (by decide) ?_
                          refine TS.pure (PV.move rfl) rfl (by decide) ?_
                          refine TS.pure (PV.indexA (j := b.1) rfl hqe1p rfl Tb.elm_22 rfl (by omega)) rfl (by decide) ?_
                          refine TS.pure (PV.loadOld rfl Tb.one_3 hqe1) rfl (by decide) ?_
                          refine TS.pure (PV.add rfl rfl (by omega)) rfl (by decide) ?_
                          refine TS.pure (PV.indexG (h := (some (z4.2, t.d.length, []))) (len := t.d.length) (ys := ival (mk t.d.length b.2.M)) (j := b.1) rfl rfl (gk_mk (go_new _ _ _)) Tb.elm_22 rfl (by omega)) rfl (by decide) ?_
                          refine TS.nil ?_
                          refine TL.putI (h := (some (z4.2, t.d.length, []))) (xs := mk t.d.length b.2.M) (xs' := mk t.d.length (putB b.2 (getM t.c) a.1 b.1 ((r.1 + 1) * Kk t.s.length t.d.length + 2 * (a.1 * t.d.length + b.1))).M) (j := b.1) rfl rfl Tb.cells_3 (go_new _ _ _) (putB_M (by omega)) (by repeat (first | exact PutH.here _ _ _ _ | apply PutH.tail | apply PutH.app)) (by rw [mk_len]; omega) rfl rfl ?_
                          refine TL.nil ?_
                          refine TQ.thenC ?_
                          refine TC.region ?_
                          refine TL.pure (PV.move rfl) rfl (by decide) ?_
                          refine TL.pure (PV.move rfl) rfl (by decide) ?_
                          refine TL.pure (PV.move rfl) rfl (by decide) ?_
                          refine TL.pure (PV.indexG (h := (some (z5.1, t.d.length, []))) (len := t.d.length) (ys := ival (mk t.d.length b.2.pb)) (j := b.1) rfl rfl (gk_mk (go_new _ _ _)) Tb.elm_22 rfl (by omega)) rfl (by decide) ?_
                          refine TL.putI (h := (some (z5.1, t.d.length, []))) (xs := mk t.d.length b.2.pb) (xs' := mk t.d.length (putB b.2 (getM t.c) a.1 b.1 ((r.1 + 1) * Kk t.s.length t.d.length + 2 * (a.1 * t.d.length + b.1))).pb) (j := b.1) rfl rfl Tb.cells_3 (go_new _ _ _) (putB_pb (by omega)) (by repeat (first | exact PutH.here _ _ _ _ | apply PutH.tail | apply PutH.app)) (by rw [mk_len]; omega) rfl rfl ?_
                          have hRH := hRD.halfP hPI (by omega) (by omega) e1 e2
                          refine TL.congrG (G' := gbI ((some (z4.1, t.s.length, [])), mk t.s.length (putB b.2 (getM t.c) a.1 b.1 ((r.1 + 1) * Kk t.s.length t.d.length + 2 * (a.1 * t.d.length + b.1))).L) ++ (gbI ((some (z4.2, t.d.length, [])), mk t.d.length (putB b.2 (getM t.c) a.1 b.1 ((r.1 + 1) * Kk t.s.length t.d.length + 2 * (a.1 * t.d.length + b.1))).M) ++ (gbI ((some (z5.1, t.d.length, [])), mk t.d.length (putB b.2 (getM t.c) a.1 b.1 ((r.1 + 1) * Kk t.s.length t.d.length + 2 * (a.1 * t.d.length + b.1))).pb) ++ (gbI ((some (z5.2, t.s.length, [])), mk t.s.length (putB b.2 (getM t.c) a.1 b.1 ((r.1 + 1) * Kk t.s.length t.d.length + 2 * (a.1 * t.d.length + b.1))).pi) ++ (gbR rwR 22 y8.1 x.1 ++ (rwB x.1 ++ (gbI (h8, mk t.s.length x.2.2.1) ++ (gbI (h9, mk t.d.length x.2.2.2) ++ [(b0, Obj.cells #[.slice p1 t.s.length c1, .slice p2 t.d.length c2, .slice p3 t.c.length c3] 25 (0, 0))])))))))) rfl ?_
                          obtain ⟨st1, hst1⟩ : ∃ z, z = (putB b.2 (getM t.c) a.1 b.1 ((r.1 + 1) * Kk t.s.length t.d.length + 2 * (a.1 * t.d.length + b.1))) := ⟨_, rfl⟩
                          rw [← hst1] at hRH
                          rw [← hst1]
                          refine TL.nil ?_
                          refine TQ.thenN ?_
                          refine TQ.midK st1 (by repeat (first | exact True.intro | refine And.intro rfl ?_)) (by repeat (first | exact True.intro | refine And.intro rfl ?_)) (List.Sublist.refl _) hRH
                        · skip
                          have hRH := hRD.halfI (fun _ => e2)
                          obtain ⟨st1, hst1⟩ : ∃ z, z = b.2 := ⟨_, rfl⟩
                          rw [← hst1] at hRH
                          rw [← hst1]
                          have hbL1 := hRH.ri.bL a.1 (by omega)
                          have hbM1 := hRH.ri.bM b.1 (by omega)
                          have hnL1 := hRH.ri.nnL hPI (show a.1 < t.s.length by omega)
                          have hnM1 := hRH.ri.nnM hPI (show b.1 < t.d.length by omega)
                          refine TC.skip ?_
                          refine TQ.thenN ?_
                          refine TQ.midK st1 (by repeat (first | exact True.intro | refine And.intro rfl ?_)) (by repeat (first | exact True.intro | refine And.intro rfl ?_)) (List.Sublist.refl _) hRH
                      · skip
                        refine TA.op (OpOK.skip rfl) (by decide) ?_
                        refine TA.op (OpOK.skip rfl) (by decide) ?_
                        refine TA.op (OpOK.skip rfl) (by decide) ?_
                        refine TA.op (OpOK.skip rfl) (by decide) ?_
                        refine TA.op (OpOK.skip rfl) (by decide) ?_
                        refine TA.op (OpOK.skip rfl) (by decide) ?_
                        refine TA.op (OpOK.skip rfl) (by decide) ?_
                        refine TA.op (OpOK.skip rfl) (by decide) ?_
                        refine TA.op (OpOK.skip rfl) (by decide) ?_
                        refine TA.op (OpOK.skip rfl) (by decide) ?_
                        refine TA.op (OpOK.skip rfl) (by decide) ?_
                        refine TA.op (OpOK.skip rfl) (by decide) ?_
                        refine TA.op (OpOK.skip rfl) (by decide) ?_
                        refine TA.op (OpOK.skip rfl) (by decide) ?_
                        refine TA.op (OpOK.skip rfl) (by decide) ?_
                        refine TA.op (OpOK.skip rfl) (by decide) ?_
                        refine TA.op (OpOK.skip rfl) (by decide) ?_
                        refine TA.op (OpOK.skip rfl) (by decide) ?_
                        refine TA.op (OpOK.pure (PV.pickF rfl rfl) rfl (by decide)) (by decide) ?_
                        show TQ _ _ _ _ _
                        refine TQ.thenC ?_
                        refine TC.condF rfl ?_
                        have hRH := hRD.halfI (fun h => absurd h e1)
                        obtain ⟨st1, hst1⟩ : ∃ z, z = b.2 := ⟨_, rfl⟩
                        rw [← hst1] at hRH
                        rw [← hst1]
                        have hbL1 := hRH.ri.bL a.1 (by omega)
                        have hbM1 := hRH.ri.bM b.1 (by omega)
                        have hnL1 := hRH.ri.nnL hPI (show a.1 < t.s.length by omega)
                        have hnM1 := hRH.ri.nnM hPI (show b.1 < t.d.length by omega)
                        refine TC.skip ?_
                        refine TQ.thenN ?_
                        refine TQ.midK st1 (by repeat (first | exact True.intro | refine And.intro rfl ?_)) (by repeat (first | exact True.intro | refine And.intro rfl ?_)) (List.Sublist.refl _) hRH
                    · skip
                      intro st1 hRH
                      have hcl := hV.c.len
                      have hrw := hV.c.row a.1 (by omega)
                      obtain ⟨qr1, hqr1p, qr1p, qr1c, hqr1, hqr1r⟩ := t3 a.1 (by omega)
                      obtain ⟨qe1, hqe1p, hqe1⟩ := hqr1r b.1 (by omega)
                      have ec1 : (t.c.getD a.1 []).getD b.1 0 = getM t.c a.1 b.1 := rfl
                      rw [ec1] at hqe1
                      have hcb := hPI.c0 a.1 b.1 (by omega) (by omega)
                      have einf : (inf : Int) = 1073741824 := rfl
                      have hbL1 := hRH.ri.bL a.1 (by omega)
                      have hbM1 := hRH.ri.bM b.1 (by omega)
                      have hnL1 := hRH.ri.nnL hPI (show a.1 < t.s.length by omega)
                      have hnM1 := hRH.ri.nnM hPI (show b.1 < t.d.length by omega)
                      refine TC.lit [(1, _), (2, _), (3, _), (4, _), (5, _), (6, _), (7, _), (8, _), (9, _), (12, _), (13, _), (14, _)] (by repeat (first | exact True.intro | refine And.intro rfl ?_)) ?_
                      refine TC.seq ?_
                      have hro := hTB.rk (i := a.1) (by omega)
                      have hrl := hTB.rl (i := a.1) (by omega)
                      have hxl := hTB.len
                      refine TC.any Tb.mixed rfl rfl ?_
                      refine TA.op (OpOK.pure (PV.move rfl) rfl (by decide)) (by decide) ?_
                      refine TA.op (OpOK.pure (PV.move rfl) rfl (by decide)) (by decide) ?_
                      refine TA.op (OpOK.pure (PV.indexG (h := (some (z4.2, t.d.length, []))) (len := t.d.length) (ys := ival (mk t.d.length st1.M)) (j := b.1) rfl rfl (gk_mk (go_new _ _ _)) Tb.elm_22 rfl (by omega)) rfl (by decide)) (by decide) ?_
                      refine TA.op (OpOK.pure (PV.loadGI (y := ((some (z4.2, t.d.length, [])), mk t.d.length st1.M)) (j := b.1) (v := (st1.M b.1)) rfl Tb.one_3 (fun yy hyy => by repeat (first | exact List.mem_append_left _ hyy | exact List.mem_append_left _ (List.mem_append_right _ hyy) | exact List.mem_append_left _ (List.mem_append_left _ hyy) | refine List.mem_append_right _ ?_ | refine List.Mem.tail _ ?_)) (go_new _ _ _) (by show _ < (mk _ _).length; rw [mk_len]; omega) (by show (mk _ _).getD _ _ = _; rw [mk_at _ (by omega)])) rfl (by decide)) (by decide) ?_
                      refine TA.op (OpOK.pure (PV.lss rfl rfl) rfl (by decide)) (by decide) ?_
                      refine TA.op (OpOK.pure (PV.move rfl) rfl (by decide)) (by decide) ?_
                      first | refine TA.splitD 142 rfl (fun e3 => ?_) (fun e3 => ?_) | refine TA.split 142 rfl (fun e3 => ?_) (fun e3 => ?_)
                      · skip
                        refine TA.op (OpOK.pure (PV.move rfl) rfl (by decide)) (by decide) ?_
                        refine TA.op (OpOK.pure (PV.move rfl) rfl (by decide)) (by decide) ?_
                        refine TA.op (OpOK.pure (PV.indexG (h := y8.1) (len := t.s.length) (ys := rcs rwR x.1) (j := a.1) rfl rfl hTB.gk Tb.elm_23 rfl (by omega)) rfl (by decide)) (by decide) ?_
                        refine TA.op (OpOK.pure (PV.loadRecF (R := rwR) (h := y8.1) (l := x.1) (j := a.1) (f := 0) (v := gval (x.1.getD a.1 default).h (x.1.getD a.1 default).l.length) (e := 22) rfl Tb.one_22 (fun yy hyy => by repeat (first | exact List.mem_append_left _ hyy | exact List.mem_append_left _ (List.mem_append_right _ hyy) | exact List.mem_append_left _ (List.mem_append_left _ hyy) | refine List.mem_append_right _ ?_ | refine List.Mem.tail _ ?_)) hTB.go (by omega) Nat.one_pos rfl) rfl (by decide)) (by decide) ?_
                        refine TA.op (OpOK.pure (PV.move rfl) rfl (by decide)) (by decide) ?_
                        refine TA.op (OpOK.pure (PV.indexG (h := (x.1.getD a.1 default).h) (len := (x.1.getD a.1 default).l.length) (ys := ival (x.1.getD a.1 default).l) (j := b.1) rfl rfl hro Tb.elm_22 rfl (by omega)) rfl (by decide)) (by decide) ?_
                        refine TA.op (OpOK.pure (PV.loadGI (y := ((x.1.getD a.1 default).h, (x.1.getD a.1 default).l)) (j := b.1) (v := x.2.1 a.1 b.1) rfl Tb.one_3 (fun yy hyy => by have h9 := rwB_mem (rw_at (rs := x.1) (j := a.1) (by omega)) yy hyy; repeat (first | exact List.mem_append_left _ h9 | refine List.mem_append_right _ ?_)) hro (by show _ < (x.1.getD a.1 default).l.length; omega) (hTB.va (by omega) (by omega))) rfl (by decide)) (by decide) ?_
                        refine TA.op (OpOK.pure (PV.gtr rfl rfl) rfl (by decide)) (by decide) ?_
                        refine TA.op (OpOK.pure (PV.pickT rfl rfl) rfl (by decide)) (by decide) ?_
                        refine TA.op (OpOK.pure (PV.move rfl) rfl (by decide)) (by decide) ?_
                        first | refine TA.splitD 152 rfl (fun e4 => ?_) (fun e4 => ?_) | refine TA.split 152 rfl (fun e4 => ?_) (fun e4 => ?_)
                        · skip
                          refine TA.op (OpOK.pure (PV.move rfl) rfl (by decide)) (by decide) ?_
                          refine TA.op (OpOK.pure (PV.move rfl) rfl (by decide)) (by decide) ?_
                          refine TA.op (OpOK.pure (PV.indexG (h := (some (z4.2, t.d.length, []))) (len := t.d.length) (ys := ival (mk t.d.length st1.M)) (j := b.1) rfl rfl (gk_mk (go_new _ _ _)) Tb.elm_22 rfl (by omega)) rfl (by decide)) (by decide) ?_
                          refine TA.op (OpOK.pure (PV.loadGI (y := ((some (z4.2, t.d.length, [])), mk t.d.length st1.M)) (j := b.1) (v := (st1.M b.1)) rfl Tb.one_3 (fun yy hyy => by repeat (first | exact List.mem_append_left _ hyy | exact List.mem_append_left _ (List.mem_append_right _ hyy) | exact List.mem_append_left _ (List.mem_append_left _ hyy) | refine List.mem_append_right _ ?_ | refine List.Mem.tail _ ?_)) (go_new _ _ _) (by show _ < (mk _ _).length; rw [mk_len]; omega) (by show (mk _ _).getD _ _ = _; rw [mk_at _ (by omega)])) rfl (by decide)) (by decide) ?_
                          refine TA.op (OpOK.pure (PV.fieldAddr rfl Tb.fo_25_2) rfl (by decide)) (by decide) ?_
                          refine TA.op (OpOK.pure (PV.load rfl Tb.one_23 (by repeat (first | exact List.Mem.head _ | refine List.Mem.tail _ ?_ | refine List.mem_append_right _ ?_)) rfl) rfl (by decide)) (by decide) ?_
                          refine TA.op (OpOK.pure (PV.move rfl) rfl (by decide)) (by decide) ?_
                          refine TA.op (OpOK.pure (PV.indexA (j := a.1) rfl hqr1p rfl Tb.elm_23 rfl (by omega)) rfl (by decide)) (by decide) ?_
                          refine TA.op (OpOK.pure (PV.loadOld rfl Tb.one_22 hqr1) rfl (by decide)) (by decide) ?_
                          refine TA.op (OpOK.pure (PV.move rfl) rfl (by decide)) (by decide) ?_
                          refine TA.op (OpOK.pure (PV.indexA (j := b.1) rfl hqe1p rfl Tb.elm_22 rfl (by omega)) rfl (by decide)) (by decide) ?_
                          refine TA.op (OpOK.pure (PV.loadOld rfl Tb.one_3 hqe1) rfl (by decide)) (by decide) ?_
                          refine TA.op (OpOK.pure (PV.sub rfl rfl (by omega)) rfl (by decide)) (by decide) ?_
                          refine TA.op (OpOK.pure (PV.move rfl) rfl (by decide)) (by decide) ?_
                          refine TA.op (OpOK.pure (PV.move rfl) rfl (by decide)) (by decide) ?_
                          refine TA.op (OpOK.pure (PV.indexG (h := (some (z4.1, t.s.length, []))) (len := t.s.length) (ys := ival (mk t.s.length st1.L)) (j := a.1) rfl rfl (gk_mk (go_new _ _ _)) Tb.elm_22 rfl (by omega)) rfl (by decide)) (by decide) ?_
                          refine TA.op (OpOK.pure (PV.loadGI (y := ((some (z4.1, t.s.length, [])), mk t.s.length st1.L)) (j := a.1) (v := (st1.L a.1)) rfl Tb.one_3 (fun yy hyy => by repeat (first | exact List.mem_append_left _ hyy | exact List.mem_append_left _ (List.mem_append_right _ hyy) | exact List.mem_append_left _ (List.mem_append_left _ hyy) | refine List.mem_append_right _ ?_ | refine List.Mem.tail _ ?_)) (go_new _ _ _) (by show _ < (mk _ _).length; rw [mk_len]; omega) (by show (mk _ _).getD _ _ = _; rw [mk_at _ (by omega)])) rfl (by decide)) (by decide) ?_
                          refine TA.op (OpOK.pure (PV.lss rfl rfl) rfl (by decide)) (by decide) ?_
                          refine TA.op (OpOK.pure (PV.pickT rfl rfl) rfl (by decide)) (by decide) ?_
                          show TQ _ _ _ _ _
                          refine TQ.thenC ?_
                          first | refine TC.condD rfl (fun e5 => ?_) (fun e5 => ?_) | refine TC.cond rfl (fun e5 => ?_) (fun e5 => ?_)
                          · skip
                            refine TC.seq ?_
                            refine TC.draw 16 Tb.mixed (by kernel_rfl) ?_
                            simp only [List.take_succ_cons, List.take_zero, List.drop_succ_cons, List.drop_zero]
                            refine TS.pure (PV.move rfl) rfl (by decide) ?_
                            refine TS.pure (PV.move rfl) rfl (by decide) ?_
                            refine TS.pure (PV.move rfl) rfl (by decide) ?_
                            refine TS.pure (PV.move rfl) rfl (by decide) ?_
                            refine TS.pure (PV.indexG (h := (some (z4.2, t.d.length, []))) (len := t.d.length) (ys := ival (mk t.d.length st1.M)) (j := b.1) rfl rfl (gk_mk (go_new _ _ _)) Tb.elm_22 rfl (by omega)) rfl (by decide) ?_
                            refine TS.pure (PV.loadGI (y := ((some (z4.2, t.d.length, [])), mk t.d.length st1.M)) (j := b.1) (v := (st1.M b.1)) rfl Tb.one_3 (fun yy hyy => by repeat (first | exact List.mem_append_left _ hyy | exact List.mem_append_left _ (List.mem_append_right _ hyy) | exact List.mem_append_left _ (List.mem_append_left _ hyy) | refine List.mem_append_right _ ?_ | refine List.Mem.tail _ ?_)) (go_new _ _ _) (by show _ < (mk _ _).length; rw [mk_len]; omega) (by show (mk _ _).getD _ _ = _; rw [mk_at _ (by omega)])) rfl (by decide) ?_
                            refine TS.pure (PV.fieldAddr rfl Tb.fo_25_2) rfl (by decide) ?_
                            refine TS.pure (PV.load rfl Tb.one_23 (by repeat (first | exact List.Mem.head _ | refine List.Mem.tail _ ?_ | refine List.mem_append_right _ ?_)) rfl) rfl (by decide) ?_
                            refine TS.pure (PV.move rfl) rfl (by decide) ?_
                            refine TS.pure (PV.indexA (j := a.1) rfl hqr1p rfl Tb.elm_23 rfl (by omega)) rfl (by decide) ?_
                            refine TS.pure (PV.loadOld rfl Tb.one_22 hqr1) rfl (by decide) ?_
                            refine TS.pure (PV.move rfl) rfl (by decide) ?_
                            refine TS.pure (PV.indexA (j := b.1) rfl hqe1p rfl Tb.elm_22 rfl (by omega)) rfl (by decide) ?_
                            refine TS.pure (PV.loadOld rfl Tb.one_3 hqe1) rfl (by decide) ?_
                            refine TS.pure (PV.sub rfl rfl (by omega)) rfl (by decide) ?_
                            refine TS.pure (PV.indexG (h := (some (z4.1, t.s.length, []))) (len := t.s.length) (ys := ival (mk t.s.length st1.L)) (j := a.1) rfl rfl (gk_mk (go_new _ _ _)) Tb.elm_22 rfl (by omega)) rfl (by decide) ?_
                            refine TS.nil ?_
                            refine TL.putI (h := (some (z4.1, t.s.length, []))) (xs := mk t.s.length st1.L) (xs' := mk t.s.length (putS st1 (getM t.c) a.1 b.1 (((r.1 + 1) * Kk t.s.length t.d.length + 2 * (a.1 * t.d.length + b.1)) + 1)).L) (j := a.1) rfl rfl Tb.cells_3 (go_new _ _ _) (putS_L (by omega)) (by repeat (first | exact PutH.here _ _ _ _ | apply PutH.tail | apply PutH.app)) (by rw [mk_len]; omega) rfl rfl ?_
                            refine TL.nil ?_
                            refine TQ.thenC ?_
                            refine TC.region ?_
                            refine TL.pure (PV.move rfl) rfl (by decide) ?_
                            refine TL.pure (PV.move rfl) rfl (by decide) ?_
                            refine TL.pure (PV.move rfl) rfl (by decide) ?_
                            refine TL.pure (PV.indexG (h := (some (z5.2, t.s.length, []))) (len := t.s.length) (ys := ival (mk t.s.length st1.pi)) (j := a.1) rfl rfl (gk_mk (go_new _ _ _)) Tb.elm_22 rfl (by omega)) rfl (by decide) ?_
                            refine TL.putI (h := (some (z5.2, t.s.length, []))) (xs := mk t.s.length st1.pi) (xs' := mk t.s.length (putS st1 (getM t.c) a.1 b.1 (((r.1 + 1) * Kk t.s.length t.d.length + 2 * (a.1 * t.d.length + b.1)) + 1)).pi) (j := a.1) rfl rfl Tb.cells_3 (go_new _ _ _) (putS_pi (by omega)) (by repeat (first | exact PutH.here _ _ _ _ | apply PutH.tail | apply PutH.app)) (by rw [mk_len]; omega) rfl rfl ?_
                            have hRN := hRH.nextP hPI (by omega) (by omega) e3 e4 e5
                            refine TL.congrG (G' := gbI ((some (z4.1, t.s.length, [])), mk t.s.length (putS st1 (getM t.c) a.1 b.1 (((r.1 + 1) * Kk t.s.length t.d.length + 2 * (a.1 * t.d.length + b.1)) + 1)).L) ++ (gbI ((some (z4.2, t.d.length, [])), mk t.d.length (putS st1 (getM t.c) a.1 b.1 (((r.1 + 1) * Kk t.s.length t.d.length + 2 * (a.1 * t.d.length + b.1)) + 1)).M) ++ (gbI ((some (z5.1, t.d.length, [])), mk t.d.length (putS st1 (getM t.c) a.1 b.1 (((r.1 + 1) * Kk t.s.length t.d.length + 2 * (a.1 * t.d.length + b.1)) + 1)).pb) ++ (gbI ((some (z5.2, t.s.length, [])), mk t.s.length (putS st1 (getM t.c) a.1 b.1 (((r.1 + 1) * Kk t.s.length t.d.length + 2 * (a.1 * t.d.length + b.1)) + 1)).pi) ++ (gbR rwR 22 y8.1 x.1 ++ (rwB x.1 ++ (gbI (h8, mk t.s.length x.2.2.1) ++ (gbI (h9, mk t.d.length x.2.2.2) ++ [(b0, Obj.cells #[.slice p1 t.s.length c1, .slice p2 t.d.length c2, .slice p3 t.c.length c3] 25 (0, 0))])))))))) rfl ?_
                            obtain ⟨st2, hst2⟩ : ∃ z, z = (putS st1 (getM t.c) a.1 b.1 (((r.1 + 1) * Kk t.s.length t.d.length + 2 * (a.1 * t.d.length + b.1)) + 1)) := ⟨_, rfl⟩
                            rw [← hst2] at hRN
                            rw [← hst2]
                            refine TL.nil ?_
                            refine TQ.blkN ?_
                            refine TQ.thenC ?_
                            refine TC.region ?_
                            refine TL.pure (PV.move rfl) rfl (by decide) ?_
                            refine TL.pure (PV.add rfl rfl (by omega)) rfl (by decide) ?_
                            refine TL.pure (PV.assign rfl) rfl (by decide) ?_
                            refine TL.nil ?_
                            refine TQ.thenN ?_
                            refine TQ.backK (b.1 + 1, st2) (by repeat (first | exact True.intro | refine And.intro rfl ?_)) (by repeat (first | exact True.intro | refine And.intro rfl ?_)) (List.Sublist.refl _) ⟨by simp only; omega, hRN⟩ (by simp only; omega)
                          · skip
                            have hRN := hRH.nextI (fun _ _ => e5)
                            obtain ⟨st2, hst2⟩ : ∃ z, z = st1 := ⟨_, rfl⟩
                            rw [← hst2] at hRN
                            rw [← hst2]
                            refine TC.skip ?_
                            refine TQ.blkN ?_
                            refine TQ.thenC ?_
                            refine TC.region ?_
                            refine TL.pure (PV.move rfl) rfl (by decide) ?_
                            refine TL.pure (PV.add rfl rfl (by omega)) rfl (by decide) ?_
                            refine TL.pure (PV.assign rfl) rfl (by decide) ?_
                            refine TL.nil ?_
                            refine TQ.thenN ?_
                            refine TQ.backK (b.1 + 1, st2) (by repeat (first | exact True.intro | refine And.intro rfl ?_)) (by repeat (first | exact True.intro | refine And.intro rfl ?_)) (List.Sublist.refl _) ⟨by simp only; omega, hRN⟩ (by simp only; omega)
                        · skip
                          refine TA.op (OpOK.skip rfl) (by decide) ?_
                          refine TA.op (OpOK.skip rfl) (by decide) ?_
                          refine TA.op (OpOK.skip rfl) (by decide) ?_
                          refine TA.op (OpOK.skip rfl) (by decide) ?_
                          refine TA.op (OpOK.skip rfl) (by decide) ?_
                          refine TA.op (OpOK.skip rfl) (by decide) ?_
                          refine TA.op (OpOK.skip rfl) (by decide) ?_
                          refine TA.op (OpOK.skip rfl) (by decide) ?_
                          refine TA.op (OpOK.skip rfl) (by decide) ?_
                          refine TA.op (OpOK.skip rfl) (by decide) ?_
                          refine TA.op (OpOK.skip rfl) (by decide) ?_
                          refine TA.op (OpOK.skip rfl) (by decide) ?_
                          refine TA.op (OpOK.skip rfl) (by decide) ?_
                          refine TA.op (OpOK.skip rfl) (by decide) ?_
                          refine TA.op (OpOK.skip rfl) (by decide) ?_
                          refine TA.op (OpOK.skip rfl) (by decide) ?_
                          refine TA.op (OpOK.skip rfl) (by decide) ?_
                          refine TA.op (OpOK.skip rfl) (by decide) ?_
                          refine TA.op (OpOK.pure (PV.pickF rfl rfl) rfl (by decide)) (by decide) ?_
                          show TQ _ _ _ _ _
                          refine TQ.thenC ?_
                          refine TC.condF rfl ?_
                          have hRN := hRH.nextI (by first | exact fun h _ => absurd h e3 | exact fun _ h => absurd h e4)
                          obtain ⟨st2, hst2⟩ : ∃ z, z = st1 := ⟨_, rfl⟩
                          rw [← hst2] at hRN
                          rw [← hst2]
                          refine TC.skip ?_
                          refine TQ.blkN ?_
                          refine TQ.thenC ?_
                          refine TC.region ?_
                          refine TL.pure (PV.move rfl) rfl (by decide) ?_
                          refine TL.pure (PV.add rfl rfl (by omega)) rfl (by decide) ?_
                          refine TL.pure (PV.assign rfl) rfl (by decide) ?_
                          refine TL.nil ?_
                          refine TQ.thenN ?_
                          refine TQ.backK (b.1 + 1, st2) (by repeat (first | exact True.intro | refine And.intro rfl ?_)) (by repeat (first | exact True.intro | refine And.intro rfl ?_)) (List.Sublist.refl _) ⟨by simp only; omega, hRN⟩ (by simp only; omega)
                      · skip
                        refine TA.op (OpOK.skip rfl) (by decide) ?_
                        refine TA.op (OpOK.skip rfl) (by decide) ?_
                        refine TA.op (OpOK.skip rfl) (by decide) ?_
                        refine TA.op (OpOK.skip rfl) (by decide) ?_
                        refine TA.op (OpOK.skip rfl) (by decide) ?_
                        refine TA.op (OpOK.skip rfl) (by decide) ?_
                        refine TA.op (OpOK.skip rfl) (by decide) ?_
                        refine TA.op (OpOK.skip rfl) (by decide) ?_
                        refine TA.op (OpOK.pure (PV.pickF rfl rfl) rfl (by decide)) (by decide) ?_
                        refine TA.op (OpOK.pure (PV.move rfl) rfl (by decide)) (by decide) ?_
                        refine TA.op (OpOK.skip rfl) (by decide) ?_
                        refine TA.op (OpOK.skip rfl) (by decide) ?_
                        refine TA.op (OpOK.skip rfl) (by decide) ?_
                        refine TA.op (OpOK.skip rfl) (by decide) ?_
                        refine TA.op (OpOK.skip rfl) (by decide) ?_
                        refine TA.op (OpOK.skip rfl) (by decide) ?_
                        refine TA.op (OpOK.skip rfl) (by decide) ?_
                        refine TA.op (OpOK.skip rfl) (by decide) ?_
                        refine TA.op (OpOK.skip rfl) (by decide) ?_
                        refine TA.op (OpOK.skip rfl) (by decide) ?_
                        refine TA.op (OpOK.skip rfl) (by decide) ?_
                        refine TA.op (OpOK.skip rfl) (by decide) ?_
                        refine TA.op (OpOK.skip rfl) (by decide) ?_
                        refine TA.op (OpOK.skip rfl) (by decide) ?_
                        refine TA.op (OpOK.skip rfl) (by decide) ?_
                        refine TA.op (OpOK.skip rfl) (by decide) ?_
                        refine TA.op (OpOK.skip rfl) (by decide) ?_
                        refine TA.op (OpOK.skip rfl) (by decide) ?_
                        refine TA.op (OpOK.pure (PV.pickF rfl rfl) rfl (by decide)) (by decide) ?_
                        show TQ _ _ _ _ _
                        refine TQ.thenC ?_
                        refine TC.condF rfl ?_
                        have hRN := hRH.nextI (by first | exact fun h _ => absurd h e3 | exact fun _ h => absurd h e4)
                        obtain ⟨st2, hst2⟩ : ∃ z, z = st1 := ⟨_, rfl⟩
                        rw [← hst2] at hRN
                        rw [← hst2]
                        refine TC.skip ?_
                        refine TQ.blkN ?_
                        refine TQ.thenC ?_
                        refine TC.region ?_
                        refine TL.pure (PV.move rfl) rfl (by decide) ?_
                        refine TL.pure (PV.add rfl rfl (by omega)) rfl (by decide) ?_
                        refine TL.pure (PV.assign rfl) rfl (by decide) ?_
                        refine TL.nil ?_
                        refine TQ.thenN ?_
                        refine TQ.backK (b.1 + 1, st2) (by repeat (first | exact True.intro | refine And.intro rfl ?_)) (by repeat (first | exact True.intro | refine And.intro rfl ?_)) (List.Sublist.refl _) ⟨by simp only; omega, hRN⟩ (by simp only; omega)
                  · skip
                    refine TC.exit ?_
                    refine TQ.thenE ?_
                    refine TQ.thenE ?_
                    refine TQ.blkS ?_
                    refine TQ.blkN ?_
                    refine TQ.thenC ?_
                    refine TC.region ?_
                    refine TL.pure (PV.move rfl) rfl (by decide) ?_
                    refine TL.pure (PV.add rfl rfl (by omega)) rfl (by decide) ?_
                    refine TL.pure (PV.assign rfl) rfl (by decide) ?_
                    refine TL.nil ?_
                    refine TQ.thenN ?_
                    refine TQ.backK (a.1 + 1, b.2) (by repeat (first | exact True.intro | refine And.intro rfl ?_)) (by repeat (first | exact True.intro | refine And.intro rfl ?_)) (List.Sublist.refl _) ⟨by simp only; omega, by have h := hb9.2; rw [show b.1 = t.d.length by omega] at h; exact h.nexti⟩ (by simp only; omega)
                · skip
                  refine TC.exit ?_
                  refine TQ.thenE ?_
                  refine TQ.thenE ?_
                  refine TQ.blkS ?_
                  refine TQ.blkN ?_
                  refine TQ.thenC ?_
                  refine TC.region ?_
                  refine TL.pure (PV.move rfl) rfl (by decide) ?_
                  refine TL.pure (PV.add rfl rfl (by omega)) rfl (by decide) ?_
                  refine TL.pure (PV.assign rfl) rfl (by decide) ?_
                  refine TL.nil ?_
                  refine TQ.thenN ?_
                  refine TQ.backK (r.1 + 1, a.2) (by repeat (first | exact True.intro | refine And.intro rfl ?_)) (by repeat (first | exact True.intro | refine And.intro rfl ?_)) (List.Sublist.refl _) ⟨by simp only; omega, by have h := ha9.2; rw [show a.1 = t.s.length by omega] at h; exact h.nextr⟩ (by simp only; omega)
              · skip
                refine TC.exit ?_
                refine TQ.thenE ?_
                refine TQ.thenE ?_
                refine TQ.blkS ?_
                refine TQ.thenC ?_
                refine TC.seq ?_
                have hST := hr9.2.fin hPI (by omega) (sm_pos hpos)
                refine TC.region ?_
                refine TL.pure (PV.assign rfl) rfl (by decide) ?_
                refine TL.nil ?_
                refine TQ.thenC ?_
                refine TC.seq ?_
                refine TC.seq ?_
                refine TC.region ?_
                refine TL.pure (PV.assign rfl) rfl (by decide) ?_
                refine TL.nil ?_
                refine TQ.thenC ?_
                refine TC.block ?_
                refine TC.lit [(1, _), (2, _), (3, _), (4, _), (5, _), (7, _), (8, _), (9, _), (15, _), (16, _)] (by repeat (first | exact True.intro | refine And.intro rfl ?_)) ?_
                refine TC.loopK [1, 2, 3, 4, 5, 7, 8, 9] (X := Nat × Int) (fun e => e.1 ≤ t.d.length ∧ LstOk x.2.2.2 t.d.length e.1 e.2) (fun e => [(16, .int .i64 (e.1 : Nat)), (15, .int .i64 e.2)]) (fun e => gbI ((some (z4.1, t.s.length, [])), mk t.s.length r.2.L) ++ (gbI ((some (z4.2, t.d.length, [])), mk t.d.length r.2.M) ++ (gbI ((some (z5.1, t.d.length, [])), mk t.d.length r.2.pb) ++ (gbI ((some (z5.2, t.s.length, [])), mk t.s.length r.2.pi) ++ (gbR rwR 22 y8.1 x.1 ++ (rwB x.1 ++ (gbI (h8, mk t.s.length x.2.2.1) ++ (gbI (h9, mk t.d.length x.2.2.2) ++ [(b0, Obj.cells #[.slice p1 t.s.length c1, .slice p2 t.d.length c2, .slice p3 t.c.length c3] 25 (0, 0))])))))))) (fun e => t.d.length - e.1) (0, -1) ⟨Nat.zero_le _, .inl ⟨rfl, fun q hq => absurd hq (Nat.not_lt_zero _)⟩⟩ (by repeat (first | exact True.intro | refine And.intro rfl ?_)) (List.Sublist.refl _) ?_
                intro e he9
                refine TC.lit [(1, _), (2, _), (3, _), (4, _), (5, _), (7, _), (8, _), (9, _), (15, _), (16, _)] (by repeat (first | exact True.intro | refine And.intro rfl ?_)) ?_
                refine TC.seq ?_
                refine TC.seq ?_
                refine TC.region ?_
                refine TL.pure (PV.move rfl) rfl (by decide) ?_
                refine TL.pure (PV.move rfl) rfl (by decide) ?_
                refine TL.pure (PV.lenG (h := h9) (len := t.d.length) (ys := ival (mk t.d.length x.2.2.2)) rfl (gk_mk (hg9 x.2.2.2)) Tb.sl_22) rfl (by decide) ?_
                refine TL.pure (PV.lss rfl rfl) rfl (by decide) ?_
                refine TL.nil ?_
                refine TQ.thenC ?_
                first | refine TC.condD rfl (fun hl6 => ?_) (fun hl6 => ?_) | refine TC.cond rfl (fun hl6 => ?_) (fun hl6 => ?_)
                · skip
                  refine TC.skip ?_
                  refine TQ.thenC ?_
                  refine TC.seq ?_
                  refine TC.block ?_
                  refine TC.seq ?_
                  have hle := lst_lt he9.2
                  refine TC.any Tb.mixed rfl rfl ?_
                  refine TA.op (OpOK.pure (PV.move rfl) rfl (by decide)) (by decide) ?_
                  refine TA.op (OpOK.pure (PV.move rfl) rfl (by decide)) (by decide) ?_
                  refine TA.op (OpOK.pure (PV.indexG (h := h9) (len := t.d.length) (ys := ival (mk t.d.length x.2.2.2)) (j := e.1) rfl rfl (gk_mk (hg9 x.2.2.2)) Tb.elm_22 rfl (by omega)) rfl (by decide)) (by decide) ?_
                  refine TA.op (OpOK.pure (PV.loadGI (y := (h9, mk t.d.length x.2.2.2)) (j := e.1) (v := (x.2.2.2 e.1)) rfl Tb.one_3 (fun yy hyy => by repeat (first | exact List.mem_append_left _ hyy | exact List.mem_append_left _ (List.mem_append_right _ hyy) | exact List.mem_append_left _ (List.mem_append_left _ hyy) | refine List.mem_append_right _ ?_ | refine List.Mem.tail _ ?_)) (hg9 x.2.2.2) (by show _ < (mk _ _).length; rw [mk_len]; omega) (by show (mk _ _).getD _ _ = _; rw [mk_at _ (by omega)])) rfl (by decide)) (by decide) ?_
                  refine TA.op (OpOK.pure (PV.gtr rfl rfl) rfl (by decide)) (by decide) ?_
                  refine TA.op (OpOK.pure (PV.move rfl) rfl (by decide)) (by decide) ?_
                  first | refine TA.splitD 203 rfl (fun e6 => ?_) (fun e6 => ?_) | refine TA.split 203 rfl (fun e6 => ?_) (fun e6 => ?_)
                  · skip
                    refine TA.op (OpOK.pure (PV.move rfl) rfl (by decide)) (by decide) ?_
                    refine TA.op (OpOK.pure (PV.lss rfl rfl) rfl (by decide)) (by decide) ?_
                    refine TA.op (OpOK.pure (PV.move rfl) rfl (by decide)) (by decide) ?_
                    first | refine TA.splitD 206 rfl (fun e7 => ?_) (fun e7 => ?_) | refine TA.split 206 rfl (fun e7 => ?_) (fun e7 => ?_)
                    · skip
                      refine TA.op (OpOK.skip rfl) (by decide) ?_
                      refine TA.op (OpOK.skip rfl) (by decide) ?_
                      refine TA.op (OpOK.skip rfl) (by decide) ?_
                      refine TA.op (OpOK.skip rfl) (by decide) ?_
                      refine TA.op (OpOK.skip rfl) (by decide) ?_
                      refine TA.op (OpOK.skip rfl) (by decide) ?_
                      refine TA.op (OpOK.skip rfl) (by decide) ?_
                      refine TA.op (OpOK.skip rfl) (by decide) ?_
                      refine TA.op (OpOK.skip rfl) (by decide) ?_
                      refine TA.op (OpOK.pure (PV.pickT rfl rfl) rfl (by decide)) (by decide) ?_
                      refine TA.op (OpOK.pure (PV.pickT rfl rfl) rfl (by decide)) (by decide) ?_
                      show TQ _ _ _ _ _
                      refine TQ.thenC ?_
                      refine TC.condT rfl ?_
                      obtain ⟨ln, hln⟩ : ∃ z : Int, z = (e.1 : Int) := ⟨_, rfl⟩
                      have hlk : LstOk x.2.2.2 t.d.length (e.1 + 1) ln := by rw [hln]; exact .inr ⟨e.1, by omega, rfl, e6⟩
                      refine TC.region ?_
                      refine TL.pure (PV.move rfl) rfl (by decide) ?_
                      refine TL.pure (PV.assign rfl) rfl (by decide) ?_
                      refine TL.nil ?_
                      refine TQ.blkN ?_
                      refine TQ.thenC ?_
                      refine TC.region ?_
                      refine TL.pure (PV.move rfl) rfl (by decide) ?_
                      refine TL.pure (PV.add rfl rfl (by omega)) rfl (by decide) ?_
                      refine TL.pure (PV.assign rfl) rfl (by decide) ?_
                      refine TL.nil ?_
                      refine TQ.thenN ?_
                      refine TQ.backK (e.1 + 1, ln) (And.intro rfl (And.intro (by show some _ = some (Value.int .i64 ln); rw [hln]) True.intro)) (by repeat (first | exact True.intro | refine And.intro rfl ?_)) (List.Sublist.refl _) ⟨by simp only; omega, hlk⟩ (by simp only; omega)
                    · skip
                      refine TA.op (OpOK.pure (PV.move rfl) rfl (by decide)) (by decide) ?_
                      refine TA.op (OpOK.pure (PV.move rfl) rfl (by decide)) (by decide) ?_
                      refine TA.op (OpOK.pure (PV.indexG (h := (some (z4.2, t.d.length, []))) (len := t.d.length) (ys := ival (mk t.d.length r.2.M)) (j := e.1) rfl rfl (gk_mk (go_new _ _ _)) Tb.elm_22 rfl (by omega)) rfl (by decide)) (by decide) ?_
                      refine TA.op (OpOK.pure (PV.loadGI (y := ((some (z4.2, t.d.length, [])), mk t.d.length r.2.M)) (j := e.1) (v := (r.2.M e.1)) rfl Tb.one_3 (fun yy hyy => by repeat (first | exact List.mem_append_left _ hyy | exact List.mem_append_left _ (List.mem_append_right _ hyy) | exact List.mem_append_left _ (List.mem_append_left _ hyy) | refine List.mem_append_right _ ?_ | refine List.Mem.tail _ ?_)) (go_new _ _ _) (by show _ < (mk _ _).length; rw [mk_len]; omega) (by show (mk _ _).getD _ _ = _; rw [mk_at _ (by omega)])) rfl (by decide)) (by decide) ?_
                      refine TA.op (OpOK.pure (PV.move rfl) rfl (by decide)) (by decide) ?_
                      refine TA.op (OpOK.pure (PV.move rfl) rfl (by decide)) (by decide) ?_
                      refine TA.op (OpOK.pure (PV.indexG (h := (some (z4.2, t.d.length, []))) (len := t.d.length) (ys := ival (mk t.d.length r.2.M)) (j := e.2.toNat) rfl rfl (gk_mk (go_new _ _ _)) Tb.elm_22 (by omega) (by omega)) rfl (by decide)) (by decide) ?_
                      refine TA.op (OpOK.pure (PV.loadGI (y := ((some (z4.2, t.d.length, [])), mk t.d.length r.2.M)) (j := e.2.toNat) (v := (r.2.M e.2.toNat)) rfl Tb.one_3 (fun yy hyy => by repeat (first | exact List.mem_append_left _ hyy | exact List.mem_append_left _ (List.mem_append_right _ hyy) | exact List.mem_append_left _ (List.mem_append_left _ hyy) | refine List.mem_append_right _ ?_ | refine List.Mem.tail _ ?_)) (go_new _ _ _) (by show _ < (mk _ _).length; rw [mk_len]; omega) (by show (mk _ _).getD _ _ = _; rw [mk_at _ (by omega)])) rfl (by decide)) (by decide) ?_
                      refine TA.op (OpOK.pure (PV.lss rfl rfl) rfl (by decide)) (by decide) ?_
                      refine TA.op (OpOK.pure (PV.pickF rfl rfl) rfl (by decide)) (by decide) ?_
                      refine TA.op (OpOK.pure (PV.pickT rfl rfl) rfl (by decide)) (by decide) ?_
                      show TQ _ _ _ _ _
                      refine TQ.thenC ?_
                      first | refine TC.condD rfl (fun e8 => ?_) (fun e8 => ?_) | refine TC.cond rfl (fun e8 => ?_) (fun e8 => ?_)
                      · skip
                        obtain ⟨ln, hln⟩ : ∃ z : Int, z = (e.1 : Int) := ⟨_, rfl⟩
                        have hlk : LstOk x.2.2.2 t.d.length (e.1 + 1) ln := by rw [hln]; exact .inr ⟨e.1, by omega, rfl, e6⟩
                        refine TC.region ?_
                        refine TL.pure (PV.move rfl) rfl (by decide) ?_
                        refine TL.pure (PV.assign rfl) rfl (by decide) ?_
                        refine TL.nil ?_
                        refine TQ.blkN ?_
                        refine TQ.thenC ?_
                        refine TC.region ?_
                        refine TL.pure (PV.move rfl) rfl (by decide) ?_
                        refine TL.pure (PV.add rfl rfl (by omega)) rfl (by decide) ?_
                        refine TL.pure (PV.assign rfl) rfl (by decide) ?_
                        refine TL.nil ?_
                        refine TQ.thenN ?_
                        refine TQ.backK (e.1 + 1, ln) (And.intro rfl (And.intro (by show some _ = some (Value.int .i64 ln); rw [hln]) True.intro)) (by repeat (first | exact True.intro | refine And.intro rfl ?_)) (List.Sublist.refl _) ⟨by simp only; omega, hlk⟩ (by simp only; omega)
                      · skip
                        obtain ⟨ln, hln⟩ : ∃ z : Int, z = e.2 := ⟨_, rfl⟩
                        have hlk : LstOk x.2.2.2 t.d.length (e.1 + 1) ln := by rw [hln]; exact lst_keep he9.2 (fun _ => by omega)
                        refine TC.skip ?_
                        refine TQ.blkN ?_
                        refine TQ.thenC ?_
                        refine TC.region ?_
                        refine TL.pure (PV.move rfl) rfl (by decide) ?_
                        refine TL.pure (PV.add rfl rfl (by omega)) rfl (by decide) ?_
                        refine TL.pure (PV.assign rfl) rfl (by decide) ?_
                        refine TL.nil ?_
                        refine TQ.thenN ?_
                        refine TQ.backK (e.1 + 1, ln) (And.intro rfl (And.intro (by show some _ = some (Value.int .i64 ln); rw [hln]) True.intro)) (by repeat (first | exact True.intro | refine And.intro rfl ?_)) (List.Sublist.refl _) ⟨by simp only; omega, hlk⟩ (by simp only; omega)
                  · skip
                    refine TA.op (OpOK.skip rfl) (by decide) ?_
                    refine TA.op (OpOK.skip rfl) (by decide) ?_
                    refine TA.op (OpOK.skip rfl) (by decide) ?_
                    refine TA.op (OpOK.skipU rfl) (by decide) ?_
                    refine TA.op (OpOK.skipU rfl) (by decide) ?_
                    refine TA.op (OpOK.skipU rfl) (by decide) ?_
                    refine TA.op (OpOK.skipU rfl) (by decide) ?_
                    refine TA.op (OpOK.skipU rfl) (by decide) ?_
                    refine TA.op (OpOK.skipU rfl) (by decide) ?_
                    refine TA.op (OpOK.skipU rfl) (by decide) ?_
                    refine TA.op (OpOK.skipU rfl) (by decide) ?_
                    refine TA.op (OpOK.skipU rfl) (by decide) ?_
                    refine TA.op (OpOK.skip rfl) (by decide) ?_
                    refine TA.op (OpOK.pure (PV.pickF rfl rfl) rfl (by decide)) (by decide) ?_
                    show TQ _ _ _ _ _
                    refine TQ.thenC ?_
                    refine TC.condF rfl ?_
                    obtain ⟨ln, hln⟩ : ∃ z : Int, z = e.2 := ⟨_, rfl⟩
                    have hlk : LstOk x.2.2.2 t.d.length (e.1 + 1) ln := by rw [hln]; exact lst_keep he9.2 (fun h => absurd h e6)
                    refine TC.skip ?_
                    refine TQ.blkN ?_
                    refine TQ.thenC ?_
                    refine TC.region ?_
                    refine TL.pure (PV.move rfl) rfl (by decide) ?_
                    refine TL.pure (PV.add rfl rfl (by omega)) rfl (by decide) ?_
                    refine TL.pure (PV.assign rfl) rfl (by decide) ?_
                    refine TL.nil ?_
                    refine TQ.thenN ?_
                    refine TQ.backK (e.1 + 1, ln) (And.intro rfl (And.intro (by show some _ = some (Value.int .i64 ln); rw [hln]) True.intro)) (by repeat (first | exact True.intro | refine And.intro rfl ?_)) (List.Sublist.refl _) ⟨by simp only; omega, hlk⟩ (by simp only; omega)
                · skip
                  refine TC.exit ?_
                  refine TQ.thenE ?_
                  refine TQ.thenE ?_
                  refine TQ.blkS ?_
                  refine TQ.thenC ?_
                  refine TC.seq ?_
                  obtain ⟨j0, hj0, hlast, hnj⟩ := hasn he9.2 (by omega) (by rw [← hPP.sum (sums_eq hV)]; exact hpos)
                  rw [hlast]
                  have hn0 := hn30 j0 hj0
                  refine TC.region ?_
                  refine TL.pure (PV.move rfl) rfl (by decide) ?_
                  refine TL.pure (PV.move rfl) rfl (by decide) ?_
                  refine TL.pure (PV.indexG (h := h9) (len := t.d.length) (ys := ival (mk t.d.length x.2.2.2)) (j := j0) rfl rfl (gk_mk (hg9 x.2.2.2)) Tb.elm_22 rfl (by omega)) rfl (by decide) ?_
                  refine TL.pure (PV.loadGI (y := (h9, mk t.d.length x.2.2.2)) (j := j0) (v := (x.2.2.2 j0)) rfl Tb.one_3 (fun yy hyy => by repeat (first | exact List.mem_append_left _ hyy | exact List.mem_append_left _ (List.mem_append_right _ hyy) | exact List.mem_append_left _ (List.mem_append_left _ hyy) | refine List.mem_append_right _ ?_ | refine List.Mem.tail _ ?_)) (hg9 x.2.2.2) (by show _ < (mk _ _).length; rw [mk_len]; omega) (by show (mk _ _).getD _ _ = _; rw [mk_at _ (by omega)])) rfl (by decide) ?_
                  refine TL.pure (PV.sub rfl rfl (by omega)) rfl (by decide) ?_
                  refine TL.pure (PV.indexG (h := h9) (len := t.d.length) (ys := ival (mk t.d.length x.2.2.2)) (j := j0) rfl rfl (gk_mk (hg9 x.2.2.2)) Tb.elm_22 rfl (by omega)) rfl (by decide) ?_
                  refine TL.putI (h := h9) (xs := mk t.d.length x.2.2.2) (xs' := mk t.d.length (fun q => if q = j0 then x.2.2.2 q - 1 else x.2.2.2 q)) (j := j0) rfl rfl Tb.cells_3 (hg9 x.2.2.2) (need_set (by omega)) (by repeat (first | exact PutH.here _ _ _ _ | apply PutH.tail | apply PutH.app)) (by rw [mk_len]; omega) rfl rfl ?_
                  refine TL.nil ?_
                  refine TQ.thenC ?_
                  refine TC.seq ?_
                  refine TC.region ?_
                  refine TL.pure (PV.move rfl) rfl (by decide) ?_
                  refine TL.pure (PV.assign rfl) rfl (by decide) ?_
                  refine TL.nil ?_
                  refine TQ.thenC ?_
                  refine TC.block ?_
                  refine TC.lit [(1, _), (2, _), (3, _), (4, _), (5, _), (8, _), (9, _), (17, _)] (by repeat (first | exact True.intro | refine And.intro rfl ?_)) ?_
                  refine TC.perm (G' := (gbR rwR 22 y8.1 x.1 ++ (rwB x.1 ++ (gbI (h8, mk t.s.length x.2.2.1) ++ (gbI (h9, mk t.d.length (fun q => if q = j0 then x.2.2.2 q - 1 else x.2.2.2 q)) ++ (gbI ((some (z5.1, t.d.length, [])), mk t.d.length r.2.pb) ++ (gbI ((some (z5.2, t.s.length, [])), mk t.s.length r.2.pi) ++ [(b0, Obj.cells #[.slice p1 t.s.length c1, .slice p2 t.d.length c2, .slice p3 t.c.length c3] 25 (0, 0))])))))) ++ (gbI ((some (z4.1, t.s.length, [])), mk t.s.length r.2.L) ++ gbI ((some (z4.2, t.d.length, [])), mk t.d.length r.2.M))) (perm_of fun c9 => by  all_goals (simp only [gbI, gbR, gblk_some, List.map_append, List.sum_append, List.map_cons, List.sum_cons, List.map_nil, List.sum_nil, Value.cells]; try omega)) ?_
                  refine TC.loopK [1, 2, 3, 4, 5, 8, 9] (X := Mat × List RW × (Nat → Int) × Int) (fun g => TbS t.s.length t.d.length g.1 y8.1 g.2.1 ∧ WK t.s.length t.d.length (getM t.c) (fS t) (fD t) x.2.1 x.2.2.1 (fun q => if q = j0 then x.2.2.2 q - 1 else x.2.2.2 q) u9 v9 r.2 ((r.1 + 1) * Kk t.s.length t.d.length + 2 * (0 * t.d.length + 0)) g.1 g.2.2.1 g.2.2.2) (fun g => [(17, .int .i64 g.2.2.2)]) (fun g => gbR rwR 22 y8.1 g.2.1 ++ (rwB g.2.1 ++ (gbI (h8, mk t.s.length g.2.2.1) ++ (gbI (h9, mk t.d.length (fun q => if q = j0 then x.2.2.2 q - 1 else x.2.2.2 q)) ++ (gbI ((some (z5.1, t.d.length, [])), mk t.d.length r.2.pb) ++ (gbI ((some (z5.2, t.s.length, [])), mk t.s.length r.2.pi) ++ [(b0, Obj.cells #[.slice p1 t.s.length c1, .slice p2 t.d.length c2, .slice p3 t.c.length c3] 25 (0, 0))])))))) (fun g => wm v9 r.2 ((r.1 + 1) * Kk t.s.length t.d.length + 2 * (0 * t.d.length + 0)) g.2.2.2) (x.2.1, x.1, x.2.2.1, (j0 : Int)) ⟨hTB, WK.start hST hPP hj0⟩ (by repeat (first | exact True.intro | refine And.intro rfl ?_)) (List.sublist_append_left _ _) ?_
                  intro g hg9
                  refine TC.lit [(1, _), (2, _), (3, _), (4, _), (5, _), (8, _), (9, _), (17, _)] (by repeat (first | exact True.intro | refine And.intro rfl ?_)) ?_
                  refine TC.seq ?_
                  refine TC.seq ?_
                  refine TC.region ?_
                  refine TL.pure (PV.move rfl) rfl (by decide) ?_
                  refine TL.pure (PV.geq rfl rfl) rfl (by decide) ?_
                  refine TL.nil ?_
                  refine TQ.thenC ?_
                  first | refine TC.condD rfl (fun hcur => ?_) (fun hcur => ?_) | refine TC.cond rfl (fun hcur => ?_) (fun hcur => ?_)
                  · skip
                    refine TC.skip ?_
                    refine TQ.thenC ?_
                    refine TC.block ?_
                    refine TC.seq ?_
                    have hWK := hg9.2
                    obtain ⟨jc, hjc, hcj⟩ := wk_cur hWK hcur
                    rw [hcj] at hWK
                    rw [hcj]
                    obtain ⟨ic, hic, hpb, hLf, htg, hmu, hyx, hll, hnx⟩ := WK.at hST hWK hjc
                    have hTG := hg9.1
                    have hy30 := wk_30 hV hWK hic hjc
                    refine TC.region ?_
                    refine TL.pure (PV.move rfl) rfl (by decide) ?_
                    refine TL.pure (PV.move rfl) rfl (by decide) ?_
                    refine TL.pure (PV.indexG (h := (some (z5.1, t.d.length, []))) (len := t.d.length) (ys := ival (mk t.d.length r.2.pb)) (j := jc) rfl rfl (gk_mk (go_new _ _ _)) Tb.elm_22 rfl (by omega)) rfl (by decide) ?_
                    refine TL.pure (PV.loadGI (y := ((some (z5.1, t.d.length, [])), mk t.d.length r.2.pb)) (j := jc) (v := (r.2.pb jc)) rfl Tb.one_3 (fun yy hyy => by repeat (first | exact List.mem_append_left _ hyy | exact List.mem_append_left _ (List.mem_append_right _ hyy) | exact List.mem_append_left _ (List.mem_append_left _ hyy) | refine List.mem_append_right _ ?_ | refine List.Mem.tail _ ?_)) (go_new _ _ _) (by show _ < (mk _ _).length; rw [mk_len]; omega) (by show (mk _ _).getD _ _ = _; rw [mk_at _ (by omega)])) rfl (by decide) ?_
                    refine TL.pure (PV.assign rfl) rfl (by decide) ?_
                    refine TL.nil ?_
                    refine TQ.thenC ?_
                    refine TC.seq ?_
                    rw [hpb]
                    have hgl := hTG.len
                    rw [rwB_at (show ic < g.2.1.length by omega)]
                    refine TC.region ?_
                    refine TL.pure (PV.move rfl) rfl (by decide) ?_
                    refine TL.pure (PV.move rfl) rfl (by decide) ?_
                    refine TL.pure (PV.indexG (h := y8.1) (len := t.s.length) (ys := rcs rwR g.2.1) (j := ic) rfl rfl hTG.gk Tb.elm_23 rfl (by omega)) rfl (by decide) ?_
                    refine TL.pure (PV.loadRecF (R := rwR) (h := y8.1) (l := g.2.1) (j := ic) (f := 0) (v := gval (g.2.1.getD ic default).h (g.2.1.getD ic default).l.length) (e := 22) rfl Tb.one_22 (fun yy hyy => by repeat (first | exact List.mem_append_left _ hyy | exact List.mem_append_left _ (List.mem_append_right _ hyy) | exact List.mem_append_left _ (List.mem_append_left _ hyy) | refine List.mem_append_right _ ?_ | refine List.Mem.tail _ ?_)) hTG.go (by omega) Nat.one_pos rfl) rfl (by decide) ?_
                    refine TL.pure (PV.move rfl) rfl (by decide) ?_
                    refine TL.pure (PV.indexG (h := (g.2.1.getD ic default).h) (len := (g.2.1.getD ic default).l.length) (ys := ival (g.2.1.getD ic default).l) (j := jc) rfl rfl (hTG.rk hic) Tb.elm_22 rfl (by have := hTG.rl hic; omega)) rfl (by decide) ?_
                    refine TL.pure (PV.loadGI (y := ((g.2.1.getD ic default).h, (g.2.1.getD ic default).l)) (j := jc) (v := (g.1 ic jc)) rfl Tb.one_3 (fun yy hyy => by repeat (first | exact List.mem_append_left _ hyy | exact List.mem_append_left _ (List.mem_append_right _ hyy) | exact List.mem_append_left _ (List.mem_append_left _ hyy) | refine List.mem_append_right _ ?_ | refine List.Mem.tail _ ?_)) (hTG.rk hic) (by show _ < (g.2.1.getD ic default).l.length; have := hTG.rl hic; omega) (hTG.va hic hjc)) rfl (by decide) ?_
                    refine TL.pure (PV.add rfl rfl (by omega)) rfl (by decide) ?_
                    refine TL.pure (PV.indexG (h := (g.2.1.getD ic default).h) (len := (g.2.1.getD ic default).l.length) (ys := ival (g.2.1.getD ic default).l) (j := jc) rfl rfl (hTG.rk hic) Tb.elm_22 rfl (by have := hTG.rl hic; omega)) rfl (by decide) ?_
                    refine TL.putI (h := (g.2.1.getD ic default).h) (xs := (g.2.1.getD ic default).l) (xs' := (g.2.1.getD ic default).l.set jc (g.1 ic jc + 1)) (j := jc) rfl rfl Tb.cells_3 (hTG.rk hic) rfl (by repeat (first | exact PutH.here _ _ _ _ | apply PutH.tail | apply PutH.app)) (by have := hTG.rl hic; omega) rfl rfl ?_
                    obtain ⟨r1, hr1⟩ : ∃ z, z = rwS g.2.1 ic jc (g.1 ic jc + 1) := ⟨_, rfl⟩
                    refine TL.congrG (G' := gbR rwR 22 y8.1 r1 ++ (rwB r1 ++ (gbI (h8, mk t.s.length g.2.2.1) ++ (gbI (h9, mk t.d.length (fun q => if q = j0 then x.2.2.2 q - 1 else x.2.2.2 q)) ++ (gbI ((some (z5.1, t.d.length, [])), mk t.d.length r.2.pb) ++ (gbI ((some (z5.2, t.s.length, [])), mk t.s.length r.2.pi) ++ [(b0, Obj.cells #[.slice p1 t.s.length c1, .slice p2 t.d.length c2, .slice p3 t.c.length c3] 25 (0, 0))])))))) (by rw [hr1]; exact (rwS_blk (h := y8.1) (by have := hTG.len; omega) _ _ _).symm) ?_
                    have thr1 : TbS t.s.length t.d.length (put2 g.1 ic jc (g.1 ic jc + 1)) y8.1 r1 := by rw [hr1]; exact put_set hTG hic hjc
                    refine TL.nil ?_
                    refine TQ.thenC ?_
                    refine TC.seq ?_
                    refine TC.region ?_
                    refine TL.pure (PV.move rfl) rfl (by decide) ?_
                    refine TL.pure (PV.move rfl) rfl (by decide) ?_
                    refine TL.pure (PV.indexG (h := (some (z5.2, t.s.length, []))) (len := t.s.length) (ys := ival (mk t.s.length r.2.pi)) (j := ic) rfl rfl (gk_mk (go_new _ _ _)) Tb.elm_22 rfl (by omega)) rfl (by decide) ?_
                    refine TL.pure (PV.loadGI (y := ((some (z5.2, t.s.length, [])), mk t.s.length r.2.pi)) (j := ic) (v := (r.2.pi ic)) rfl Tb.one_3 (fun yy hyy => by repeat (first | exact List.mem_append_left _ hyy | exact List.mem_append_left _ (List.mem_append_right _ hyy) | exact List.mem_append_left _ (List.mem_append_left _ hyy) | refine List.mem_append_right _ ?_ | refine List.Mem.tail _ ?_)) (go_new _ _ _) (by show _ < (mk _ _).length; rw [mk_len]; omega) (by show (mk _ _).getD _ _ = _; rw [mk_at _ (by omega)])) rfl (by decide) ?_
                    refine TL.pure (PV.assign rfl) rfl (by decide) ?_
                    refine TL.nil ?_
                    refine TQ.thenC ?_
                    refine TC.seq ?_
                    refine TC.region ?_
                    refine TL.pure (PV.move rfl) rfl (by decide) ?_
                    refine TL.pure (PV.geq rfl rfl) rfl (by decide) ?_
                    refine TL.nil ?_
                    refine TQ.thenC ?_
                    first | refine TC.condD rfl (fun hc2 => ?_) (fun hc2 => ?_) | refine TC.cond rfl (fun hc2 => ?_) (fun hc2 => ?_)
                    · skip
                      obtain ⟨kc, hkc, hpk, hkj, hyk, hm2⟩ : ∃ k : Nat, k < t.d.length ∧ r.2.pi ic = (k : Int) ∧ k ≠ jc ∧ 0 < g.1 ic k ∧ muM v9 r.2 ((r.1 + 1) * Kk t.s.length t.d.length + 2 * (0 * t.d.length + 0)) k < muL u9 r.2 ((r.1 + 1) * Kk t.s.length t.d.length + 2 * (0 * t.d.length + 0)) ic := by rcases hnx with ⟨_, h⟩ | h; (exfalso; omega); exact h
                      rw [hpk]
                      have hr1l := thr1.len
                      have hk30 := wk_30 hV hWK hic hkc
                      rw [rwB_at (show ic < r1.length by omega)]
                      refine TC.region ?_
                      refine TL.pure (PV.move rfl) rfl (by decide) ?_
                      refine TL.pure (PV.move rfl) rfl (by decide) ?_
                      refine TL.pure (PV.indexG (h := y8.1) (len := t.s.length) (ys := rcs rwR r1) (j := ic) rfl rfl thr1.gk Tb.elm_23 rfl (by omega)) rfl (by decide) ?_
                      refine TL.pure (PV.loadRecF (R := rwR) (h := y8.1) (l := r1) (j := ic) (f := 0) (v := gval (r1.getD ic default).h (r1.getD ic default).l.length) (e := 22) rfl Tb.one_22 (fun yy hyy => by repeat (first | exact List.mem_append_left _ hyy | exact List.mem_append_left _ (List.mem_append_right _ hyy) | exact List.mem_append_left _ (List.mem_append_left _ hyy) | refine List.mem_append_right _ ?_ | refine List.Mem.tail _ ?_)) thr1.go (by omega) Nat.one_pos rfl) rfl (by decide) ?_
                      refine TL.pure (PV.move rfl) rfl (by decide) ?_
                      refine TL.pure (PV.indexG (h := (r1.getD ic default).h) (len := (r1.getD ic default).l.length) (ys := ival (r1.getD ic default).l) (j := kc) rfl rfl (thr1.rk hic) Tb.elm_22 rfl (by have := thr1.rl hic; omega)) rfl (by decide) ?_
                      refine TL.pure (PV.loadGI (y := ((r1.getD ic default).h, (r1.getD ic default).l)) (j := kc) (v := (g.1 ic kc)) rfl Tb.one_3 (fun yy hyy => by repeat (first | exact List.mem_append_left _ hyy | exact List.mem_append_left _ (List.mem_append_right _ hyy) | exact List.mem_append_left _ (List.mem_append_left _ hyy) | refine List.mem_append_right _ ?_ | refine List.Mem.tail _ ?_)) (thr1.rk hic) (by show _ < (r1.getD ic default).l.length; have := thr1.rl hic; omega) (by rw [thr1.va hic hkc]; exact put2_ne _ _ (fun h => hkj h.2))) rfl (by decide) ?_
                      refine TL.pure (PV.sub rfl rfl (by omega)) rfl (by decide) ?_
                      refine TL.pure (PV.indexG (h := (r1.getD ic default).h) (len := (r1.getD ic default).l.length) (ys := ival (r1.getD ic default).l) (j := kc) rfl rfl (thr1.rk hic) Tb.elm_22 rfl (by have := thr1.rl hic; omega)) rfl (by decide) ?_
                      refine TL.putI (h := (r1.getD ic default).h) (xs := (r1.getD ic default).l) (xs' := (r1.getD ic default).l.set kc (g.1 ic kc - 1)) (j := kc) rfl rfl Tb.cells_3 (thr1.rk hic) rfl (by repeat (first | exact PutH.here _ _ _ _ | apply PutH.tail | apply PutH.app)) (by have := thr1.rl hic; omega) rfl rfl ?_
                      obtain ⟨r2, hr2⟩ : ∃ z, z = rwS r1 ic kc (g.1 ic kc - 1) := ⟨_, rfl⟩
                      refine TL.congrG (G' := gbR rwR 22 y8.1 r2 ++ (rwB r2 ++ (gbI (h8, mk t.s.length g.2.2.1) ++ (gbI (h9, mk t.d.length (fun q => if q = j0 then x.2.2.2 q - 1 else x.2.2.2 q)) ++ (gbI ((some (z5.1, t.d.length, [])), mk t.d.length r.2.pb) ++ (gbI ((some (z5.2, t.s.length, [])), mk t.s.length r.2.pi) ++ [(b0, Obj.cells #[.slice p1 t.s.length c1, .slice p2 t.d.length c2, .slice p3 t.c.length c3] 25 (0, 0))])))))) (by rw [hr2]; exact (rwS_blk (h := y8.1) (by have := thr1.len; omega) _ _ _).symm) ?_
                      have thr2 : TbS t.s.length t.d.length (put2 (put2 g.1 ic jc (g.1 ic jc + 1)) ic kc (g.1 ic kc - 1)) y8.1 r2 := by rw [hr2]; exact put_set thr1 hic hkc
                      refine TL.nil ?_
                      refine TQ.blkN ?_
                      refine TQ.thenN ?_
                      refine TQ.backK ((put2 (put2 g.1 ic jc (g.1 ic jc + 1)) ic kc (g.1 ic kc - 1)), r2, g.2.2.1, (kc : Int)) (by repeat (first | exact True.intro | refine And.intro rfl ?_)) (by repeat (first | exact True.intro | refine And.intro rfl ?_)) (List.Sublist.refl _) ⟨thr2, WK.next hST hWK hjc hic hLf htg hkc hkj hyk hmu hm2⟩ (by show wm v9 r.2 ((r.1 + 1) * Kk t.s.length t.d.length + 2 * (0 * t.d.length + 0)) (kc : Int) < wm v9 r.2 ((r.1 + 1) * Kk t.s.length t.d.length + 2 * (0 * t.d.length + 0)) (jc : Int); rw [wm_at, wm_at]; omega)
                    · skip
                      have hsrc : 0 < x.2.2.1 ic ∧ r.2.pi ic = -1 := by rcases hnx with h | ⟨k, _, h, _⟩; exact h; (exfalso; omega)
                      rw [hsrc.2]
                      have hl3 := hl30 ic hic
                      have hgl2 := hWK.l0 ic hic
                      refine TC.region ?_
                      refine TL.pure (PV.move rfl) rfl (by decide) ?_
                      refine TL.pure (PV.move rfl) rfl (by decide) ?_
                      refine TL.pure (PV.indexG (h := h8) (len := t.s.length) (ys := ival (mk t.s.length g.2.2.1)) (j := ic) rfl rfl (gk_mk (hg8 g.2.2.1)) Tb.elm_22 rfl (by omega)) rfl (by decide) ?_
                      refine TL.pure (PV.loadGI (y := (h8, mk t.s.length g.2.2.1)) (j := ic) (v := (g.2.2.1 ic)) rfl Tb.one_3 (fun yy hyy => by repeat (first | exact List.mem_append_left _ hyy | exact List.mem_append_left _ (List.mem_append_right _ hyy) | exact List.mem_append_left _ (List.mem_append_left _ hyy) | refine List.mem_append_right _ ?_ | refine List.Mem.tail _ ?_)) (hg8 g.2.2.1) (by show _ < (mk _ _).length; rw [mk_len]; omega) (by show (mk _ _).getD _ _ = _; rw [mk_at _ (by omega)])) rfl (by decide) ?_
                      refine TL.pure (PV.sub rfl rfl (by omega)) rfl (by decide) ?_
                      refine TL.pure (PV.indexG (h := h8) (len := t.s.length) (ys := ival (mk t.s.length g.2.2.1)) (j := ic) rfl rfl (gk_mk (hg8 g.2.2.1)) Tb.elm_22 rfl (by omega)) rfl (by decide) ?_
                      refine TL.putI (h := h8) (xs := mk t.s.length g.2.2.1) (xs' := mk t.s.length (fun p => if p = ic then g.2.2.1 p - 1 else g.2.2.1 p)) (j := ic) rfl rfl Tb.cells_3 (hg8 g.2.2.1) (need_set (by omega)) (by repeat (first | exact PutH.here _ _ _ _ | apply PutH.tail | apply PutH.app)) (by rw [mk_len]; omega) rfl rfl ?_
                      refine TL.nil ?_
                      refine TQ.blkN ?_
                      refine TQ.thenN ?_
                      refine TQ.backK ((put2 g.1 ic jc (g.1 ic jc + 1)), r1, (fun p => if p = ic then g.2.2.1 p - 1 else g.2.2.1 p), -1) (by repeat (first | exact True.intro | refine And.intro rfl ?_)) (by repeat (first | exact True.intro | refine And.intro rfl ?_)) (List.Sublist.refl _) ⟨thr1, WK.endS hST hWK hjc hic hLf htg hll hsrc.1⟩ (by show wm v9 r.2 ((r.1 + 1) * Kk t.s.length t.d.length + 2 * (0 * t.d.length + 0)) (-1) < wm v9 r.2 ((r.1 + 1) * Kk t.s.length t.d.length + 2 * (0 * t.d.length + 0)) (jc : Int); rw [wm_at, wm_no]; omega)
                  · skip
                    refine TC.exit ?_
                    refine TQ.thenE ?_
                    refine TQ.thenE ?_
                    refine TQ.blkS ?_
                    refine TQ.blkN ?_
                    refine TQ.thenN ?_
                    have hWE := hg9.2
                    rw [wk_out hWE hcur] at hWE
                    have hnn : ∀ j, j < t.d.length → 0 ≤ (if j = j0 then x.2.2.2 j - 1 else x.2.2.2 j) := fun j hj => by have := hn30 j hj; split <;> (try subst_vars) <;> omega
                    obtain ⟨hPN, hPIN⟩ := WK.done hST hWE hnn
                    have hns9 := need_sum (need := x.2.2.2) hj0
                    refine TQ.perm (G' := (gbR rwR 22 y8.1 g.2.1 ++ (rwB g.2.1 ++ (gbI (h8, mk t.s.length g.2.2.1) ++ (gbI (h9, mk t.d.length (fun q => if q = j0 then x.2.2.2 q - 1 else x.2.2.2 q)) ++ [(b0, Obj.cells #[.slice p1 t.s.length c1, .slice p2 t.d.length c2, .slice p3 t.c.length c3] 25 (0, 0))])))) ++ (gbI ((some (z5.1, t.d.length, [])), mk t.d.length r.2.pb) ++ gbI ((some (z5.2, t.s.length, [])), mk t.s.length r.2.pi))) (perm_of fun c9 => by  all_goals (simp only [gbI, gbR, List.map_append, List.sum_append, List.map_cons, List.sum_cons, List.map_nil, List.sum_nil, Value.cells]; try omega)) ?_
                    refine TQ.backK (g.2.1, g.1, g.2.2.1, (fun q => if q = j0 then x.2.2.2 q - 1 else x.2.2.2 q)) (by repeat (first | exact True.intro | refine And.intro rfl ?_)) (by repeat (first | exact True.intro | refine And.intro rfl ?_)) (List.sublist_append_left _ _) ⟨hg9.1, hPN, _, _, hPIN⟩ (by show (sm t.d.length (fun q => if q = j0 then x.2.2.2 q - 1 else x.2.2.2 q)).toNat < (sm t.d.length x.2.2.2).toNat; rw [hns9]; have := hPP.sum (sums_eq hV); omega)
    · skip
      refine TC.exit ?_
      refine TQ.thenE ?_
      refine TQ.thenE ?_
      refine TQ.blkS ?_
      refine TQ.thenC ?_
      refine TC.seq ?_
      refine TC.region ?_
      refine TL.pure (PV.move rfl) rfl (by decide) ?_
      refine TL.pure (PV.assign rfl) rfl (by decide) ?_
      refine TL.nil ?_
      refine TQ.thenC ?_
      refine TC.ret ?_
      refine TQ.retE1 rfl rfl ?_
      have hPl := hPP.fin (sums_eq hV) hpos
      have hVP := pl_vp hV hPl
      exact ⟨(tabL t.s.length t.d.length x.2.1, (gval y8.1 t.s.length, gbR rwR 22 y8.1 x.1 ++ rwB x.1)), rfl, ⟨hVP, RdG.tb hTB, by rw [cost_eq hVP, cst_congr (fun i j hi hj => tab_at _ hi hj) (fun _ _ _ _ => rfl)]; exact (mn_eq (Mn.of hPl hPI.hon hPI.ti)).symm⟩, by show List.Sublist (gbR rwR 22 y8.1 x.1 ++ rwB x.1) _; exact List.Sublist.append_left (List.sublist_append_left _ _) _⟩

end Go.Proofs.Ytghlkndanpegbaa

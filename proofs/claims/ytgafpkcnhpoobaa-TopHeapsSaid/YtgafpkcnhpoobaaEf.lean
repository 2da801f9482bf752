/- Heapings settle: contracts. -/
import Derived.Test.YtgafpkcnhpoobaaEe
set_option linter.unusedVariables false
set_option linter.unusedSimpArgs false
namespace Go.Proofs.Ytgafpkcnhpoobaa
open Go.Sx Go.RowKit Go.Sand

theorem quo_bd {a b : Int} (ha : 0 ≤ a) (hb : 1 ≤ b) : 0 ≤ a.tdiv b ∧ a.tdiv b ≤ a ∧ a.tdiv b * b ≤ a ∧ (a.tdiv b = 0 → a < b) := by
  have h1 : a.tdiv b = a / b := Int.tdiv_eq_ediv_of_nonneg ha
  have h2 := Int.emod_add_mul_ediv a b
  have h3 := Int.emod_nonneg a (show b ≠ 0 by omega)
  have h4 := Int.emod_lt_of_pos a (show 0 < b by omega)
  have h5 : 0 ≤ a / b := Int.ediv_nonneg ha (by omega)
  have h6 : b * (a / b) = a / b * b := Int.mul_comm _ _
  have h7 : a / b * 1 ≤ a / b * b := Int.mul_le_mul_of_nonneg_left hb h5
  rw [h1]
  refine ⟨h5, by omega, by omega, fun e => ?_⟩
  rw [e] at h2
  omega
structure RunL (ls : List (List Int)) (gs xs c m : List Int) : Prop where
  cl : c.length = gs.length
  ml : m.length = gs.length
  r : Run gs.length (lk ls) (gd gs) (gd xs) (gd c) (gd m)
abbrev StbL (ls : List (List Int)) (gs xs c m : List Int) : Prop := c.length = gs.length ∧ m.length = gs.length ∧ Stb gs.length (lk ls) (gd gs) (gd xs) (gd c) (gd m)
theorem RunL.start {ls : List (List Int)} {gs xs : List Int} (hl : xs.length = gs.length) (h0 : ∀ k, 0 ≤ xs.getD k 0) : RunL ls gs xs xs (List.replicate gs.length 0) :=
  ⟨hl, by simp, (Run.zero fun i _ => h0 i).congr (fun _ _ => rfl) (fun _ _ => rfl) fun i hi => by simp [gd, List.getD, hi]⟩
theorem HB.diag {ls : List (List Int)} {gs : List Int} (h : HB ls gs) {i : Nat} (hi : i < gs.length) : getM ls i i = 0 := (h.mu i i hi hi).2 rfl
theorem RunL.step {ls : List (List Int)} {gs xs c m : List Int} (hB : HB ls gs) (h : RunL ls gs xs c m) {i : Nat} (hi : i < gs.length) {k : Int} (hk : 0 ≤ k) (hle : k * limI ls gs i ≤ c.getD i 0) : RunL ls gs xs (tpN ls gs c i k) (m.set i (m.getD i 0 + k)) := by
  refine ⟨by rw [tp_len]; exact h.cl, by simp [h.ml], (h.r.step hB.G hi (hB.diag hi) hk hle).congr (fun _ _ => rfl) (fun j hj => ?_) fun j hj => ?_⟩
  · show (tpN ls gs c i k).getD j 0 = _
    unfold tpN
    rw [mk_at _ (by rw [h.cl]; exact hj)]
    by_cases e : j = i
    · subst e
      rw [if_pos rfl, if_pos rfl, hB.diag hj]
      show c.getD j 0 + k * 0 - k * limI ls gs j = c.getD j 0 - k * limI ls gs j
      omega
    · rw [if_neg e, if_neg e]
      show _ = c.getD j 0 + k * getM ls i j
      omega
  · show (m.set i (m.getD i 0 + k)).getD j 0 = _
    rw [set_at (by rw [h.ml]; exact hi)]
    by_cases e : i = j
    · subst e; simp
    · rw [if_neg e, if_neg (fun h => e h.symm)]
theorem sm_bd {f : Nat → Int} {B : Int} : ∀ {n : Nat}, (∀ i, i < n → f i ≤ B) → sm n f ≤ B * n
  | 0, _ => by simp [sm]
  | n + 1, h => by
    have h1 := sm_bd (f := f) (B := B) (n := n) fun i hi => h i (by omega)
    have h2 := h n (by omega)
    have e : B * ((n + 1 : Nat) : Int) = B * n + B := by grind
    show sm n f + f n ≤ _
    omega
theorem mul5 {a b : Int} {n : Nat} (hn : n ≤ 5) (ha : 0 ≤ a) (h : b ≤ a * n) : b ≤ 5 * a := by
  have : a * n ≤ a * 5 := Int.mul_le_mul_of_nonneg_left (by omega) ha
  omega
theorem RunL.bd {ls : List (List Int)} {gs xs c m : List Int} (hB : HB ls gs) (h : RunL ls gs xs c m) (h0 : ∀ k, 0 ≤ xs.getD k 0 ∧ xs.getD k 0 ≤ 1000) :
    (∀ j, j < gs.length → 0 ≤ m.getD j 0 ∧ m.getD j 0 ≤ 25000) ∧ (∀ j, j < gs.length → 0 ≤ c.getD j 0 ∧ c.getD j 0 ≤ 1000000) ∧ sm gs.length (gd m) ≤ 125000 := by
  have hn := hB.n
  have hT := mul5 hn.2 (by decide) (sm_bd (f := gd xs) (n := gs.length) (B := 1000) fun i _ => (h0 i).2)
  have hb := bound hB.G (t := gd xs) (m := gd m) (fun i _ => (h0 i).1) h.r.m0 (fun i hi => by rw [← h.r.eq i hi]; exact h.r.c0 i hi)
  have hT0 := sm_nonneg (f := gd xs) (n := gs.length) fun i _ => (h0 i).1
  have hm : ∀ j, j < gs.length → 0 ≤ m.getD j 0 ∧ m.getD j 0 ≤ 25000 := fun j hj => by
    have h1 : (m.getD j 0) ≤ sm gs.length (gd xs) * gs.length := by have := hb j hj; rw [Int.mul_comm] at this; exact this
    have h2 := mul5 hn.2 hT0 h1
    exact ⟨h.r.m0 j hj, by omega⟩
  refine ⟨hm, fun j hj => ⟨h.r.c0 j hj, ?_⟩, mul5 hn.2 (by decide) (sm_bd (f := gd m) (n := gs.length) (B := 25000) fun i hi => (hm i hi).2)⟩
  have he : c.getD j 0 = xs.getD j 0 - dl gs.length (lk ls) (gd gs) (gd m) j := h.r.eq j hj
  have h1 := hm j hj
  have h2 := (hB.lim hj).1
  have h3 : 0 ≤ lim gs.length (lk ls) (gd gs) j * gd m j := Int.mul_nonneg (by unfold limI at h2; omega) h1.1
  have h4 := mul5 hn.2 (by decide) (sm_bd (f := fun q => lk ls j q * gd m q) (n := gs.length) (B := 50000) fun i hi => by
    have := mul_bd (t := getM ls j i) (T := 2) (a := m.getD i 0) (c := 25000) (by have := hB.ent j i; omega) (hm i hi)
    show getM ls j i * m.getD i 0 ≤ 50000
    omega)
  have h5 := (h0 j).2
  unfold dl at he
  omega
theorem sum_put {m : List Int} {n i : Nat} (hl : m.length = n) (hi : i < n) (k : Int) : sm n (gd (m.set i (m.getD i 0 + k))) = sm n (gd m) + k := by
  have h1 := sm_add (f := gd m) (h := fun j => 1 * (if j = i then k else 0)) n
  rw [sm_pt (f := fun _ => 1) k i n, if_pos hi] at h1
  rw [show sm n (gd (m.set i (m.getD i 0 + k))) = sm n (fun j => gd m j + 1 * (if j = i then k else 0)) from sm_congr fun j hj => by
    show (m.set i (m.getD i 0 + k)).getD j 0 = _
    rw [set_at (by omega)]
    by_cases e : i = j
    · subst e; rw [if_pos rfl, if_pos rfl]; show _ = m.getD i 0 + _; omega
    · rw [if_neg e, if_neg (fun h => e h.symm)]; show _ = m.getD j 0 + _; omega]
  omega
theorem RunL.stb {ls : List (List Int)} {gs xs c m : List Int} (h : RunL ls gs xs c m) (hc : ∀ j, j < gs.length → c.getD j 0 < limI ls gs j) : StbL ls gs xs c m := ⟨h.cl, h.ml, h.r, hc⟩
/-- What falls to the ground. -/
def grI (gs m : List Int) : Int := sm gs.length fun i => m.getD i 0 * gs.getD i 0
theorem gr_put {gs m : List Int} {i : Nat} (hl : m.length = gs.length) (hi : i < gs.length) (k : Int) : grI gs (m.set i (m.getD i 0 + k)) = grI gs m + k * gs.getD i 0 := by
  unfold grI
  have h1 := sm_add (f := fun j => m.getD j 0 * gs.getD j 0) (h := fun j => gs.getD j 0 * (if j = i then k else 0)) gs.length
  rw [sm_pt (f := fun j => gs.getD j 0) k i gs.length, if_pos hi] at h1
  rw [show sm gs.length (fun j => (m.set i (m.getD i 0 + k)).getD j 0 * gs.getD j 0) = sm gs.length (fun j => m.getD j 0 * gs.getD j 0 + gs.getD j 0 * (if j = i then k else 0)) from sm_congr fun j hj => by
    rw [set_at (by omega)]
    by_cases e : i = j
    · subst e; rw [if_pos rfl, if_pos rfl]; grind
    · rw [if_neg e, if_neg (fun h => e h.symm)]; omega, h1, Int.mul_comm (gs.getD i 0) k]
theorem gr_bd {ls : List (List Int)} {gs xs c m : List Int} (hB : HB ls gs) (h : RunL ls gs xs c m) (h0 : ∀ k, 0 ≤ xs.getD k 0 ∧ xs.getD k 0 ≤ 1000) : 0 ≤ grI gs m ∧ grI gs m ≤ 250000 := by
  have hm := (h.bd hB h0).1
  refine ⟨sm_nonneg fun i hi => Int.mul_nonneg (hm i hi).1 (hB.gat i).1, mul5 hB.n.2 (by decide) (sm_bd (f := fun i => m.getD i 0 * gs.getD i 0) (n := gs.length) (B := 50000) fun i hi => ?_)⟩
  have := mul_bd (t := m.getD i 0) (T := 25000) (a := gs.getD i 0) (c := 2) (by have := hm i hi; omega) (hB.gat i)
  omega
theorem gr_zero (gs : List Int) : grI gs (List.replicate gs.length 0) = 0 := by
  unfold grI
  refine (sm_congr fun i hi => ?_).trans (sm_zero gs.length)
  rw [show (List.replicate gs.length (0 : Int)).getD i 0 = 0 by simp [List.getD, hi], Int.zero_mul]
theorem big_of {c : List Int} {n : Nat} (hl : c.length = n) (h : ∀ j, j < n → 0 ≤ c.getD j 0 ∧ c.getD j 0 ≤ 1000000) (k : Nat) : -1000000000000 ≤ c.getD k 0 ∧ c.getD k 0 ≤ 1000000000000 :=
  at_bd (by decide) (fun j hj => by have := h j (by omega); omega) k
theorem max0 {a : Int} (h : 0 ≤ a) : max a 0 = a := by omega


set_option maxRecDepth 100000 in
set_option maxHeartbeats 2000000 in
theorem settle_ok (w0 : World) (p : Option Addr) (cp : Nat) (ls : List (List Int)) (hr : LsAt w0 p ls) (q : Option Addr) (cq : Nat) (gs : List Int) (hg : IntsAt w0 q gs) (hB : HB ls gs) (pl : Option Addr) (cl : Nat) (xs : List Int) (hx : IntsAt w0 pl xs) (N : Nat) (hN : xs.length = N) (hxl : xs.length = gs.length) (hx0 : ∀ k, 0 ≤ xs.getD k 0 ∧ xs.getD k 0 ≤ 1000) :
    Calls Try.prog 76 #[hv p ls.length cp q gs.length cq, .slice pl N cl] w0 (Post (X := Nat × Nat × List Int × List Int) (fun y => .tuple #[.slice (some ⟨y.1, 0, none⟩) gs.length gs.length, .slice (some ⟨y.2.1, 0, none⟩) gs.length gs.length]) (fun y => StbL ls gs xs y.2.2.1 y.2.2.2) (fun y => [(y.2.1, Obj.cells (intsA y.2.2.2) 3 (0, 0)), (y.1, Obj.cells (intsA y.2.2.1) 3 (0, 0))]) w0) := by
  have hn9 := hB.n
  obtain rfl : N = gs.length := by omega
  refine calls Try.func76 rfl (n := 43) rfl (by simp) ?_
  refine TC.seq ?_
  refine TC.region ?_
  refine TL.box rfl rfl (by decide) (fun b0 hb0 => ?_)
  refine TL.pure (PV.assign rfl) rfl (by decide) ?_
  refine TL.pure (PV.assign rfl) rfl (by decide) ?_
  refine TL.nil ?_
  refine TQ.thenC ?_
  refine TC.scopeJ [2] (X := Nat × Nat × List Int × List Int) (fun x => RunL ls gs xs x.2.2.1 x.2.2.2) (fun x => [(4, .slice (some ⟨x.1, 0, none⟩) gs.length gs.length), (5, .slice (some ⟨x.2.1, 0, none⟩) gs.length gs.length)]) (fun x => [(x.2.1, Obj.cells (intsA x.2.2.2) 3 (0, 0)), (x.1, Obj.cells (intsA x.2.2.1) 3 (0, 0)), (b0, Obj.cells #[.slice p ls.length cp, .slice q gs.length cq] 25 (0, 0))]) (fun x => (130000 - sm gs.length (gd x.2.2.2)).toNat) rfl ?_ ?_
  · skip
    refine TC.mix [true, false, true, true, false, false, false] [(b0, Obj.cells #[.slice p ls.length cp, .slice q gs.length cq] 25 (0, 0))] 4 Tb.mixed rfl (by kernel_rfl) (by kernel_rfl) (by kernel_rfl) (by kernel_rfl) (by repeat (first | exact List.Sublist.slnil | exact List.nil_sublist _ | exact List.Sublist.refl _ | refine List.Sublist.cons_cons _ ?_ | refine List.Sublist.cons _ ?_ | refine List.Sublist.trans ?_ (List.sublist_append_right _ _))) ?_
    refine TB.op (SOK.pure (PV.move rfl) rfl) (by decide) ?_
    refine TB.no ?_
    refine TB.op (SOK.pure (PV.move rfl) rfl) (by decide) ?_
    refine TB.op (SOK.pure (PV.len rfl Tb.sl_23) rfl) (by decide) ?_
    refine TB.no ?_
    refine TB.no ?_
    refine TB.no ?_
    refine TB.fin ?_
    refine TX.step [1, 4] (by kernel_rfl) (by decide) ⟨⟨_, rfl, ?_⟩, ⟨_, rfl, ?_⟩, trivial⟩
    · skip
      refine TL.call rfl Tb.gofn_73 (fun a w hs => copied_ok w _ _ _ (hx.new hs.new) _ hxl (by omega)) rfl (by decide) (fun bC _ => ?_)
      refine TL.nil ?_
      refine TX.next (.inl (by repeat (first | exact List.Sublist.slnil | exact List.nil_sublist _ | exact List.Sublist.refl _ | refine List.Sublist.cons_cons _ ?_ | refine List.Sublist.cons _ ?_ | refine List.Sublist.trans ?_ (List.sublist_append_right _ _)))) ?_
      refine TX.step [4, 5] (by kernel_rfl) (by decide) ⟨⟨_, rfl, ?_⟩, ⟨_, rfl, ?_⟩, trivial⟩
      · skip
        refine TL.makeI (k := gs.length) rfl rfl Tb.sl_23 Tb.zi_3 rfl (by omega) (by omega) rfl (by decide) (fun bT hbT => ?_)
        refine TL.nil ?_
        refine TX.next (.inl (by repeat (first | exact List.Sublist.slnil | exact List.nil_sublist _ | exact List.Sublist.refl _ | refine List.Sublist.cons_cons _ ?_ | refine List.Sublist.cons _ ?_ | refine List.Sublist.trans ?_ (List.sublist_append_right _ _)))) ?_
        refine TX.step [5] (by kernel_rfl) (by decide) ⟨⟨_, rfl, ?_⟩, trivial⟩
        refine TL.pure (PV.assign rfl) rfl (by decide) ?_
        refine TL.nil ?_
        refine TX.next (.inl (by repeat (first | exact List.Sublist.slnil | exact List.nil_sublist _ | exact List.Sublist.refl _ | refine List.Sublist.cons_cons _ ?_ | refine List.Sublist.cons _ ?_ | refine List.Sublist.trans ?_ (List.sublist_append_right _ _)))) ?_
        refine TX.step [6] (by kernel_rfl) (by decide) ⟨⟨_, rfl, ?_⟩, trivial⟩
        refine TL.pure (PV.assign rfl) rfl (by decide) ?_
        refine TL.nil ?_
        refine TX.next (.inr (by kernel_rfl)) ?_
        refine TX.done (by kernel_rfl) ?_
        refine TQ.thenN ?_
        refine TQ.perm (G' := [(bT, Obj.cells (intsA (List.replicate gs.length 0)) 3 (0, 0)), (bC, Obj.cells (intsA xs) 3 (0, 0)), (b0, Obj.cells #[.slice p ls.length cp, .slice q gs.length cq] 25 (0, 0))]) (by repeat (first | exact List.Perm.refl _ | refine permTake (by repeat (first | exact Take.head _ | apply Take.tail | apply Take.appR)) ?_ | refine permMid ?_)) ?_
        refine TQ.midK (bC, bT, xs, List.replicate gs.length 0) (by repeat (first | exact True.intro | refine And.intro rfl ?_)) (by repeat (first | exact True.intro | refine And.intro rfl ?_)) (by repeat (first | exact List.Sublist.slnil | exact List.nil_sublist _ | exact List.Sublist.refl _ | refine List.Sublist.cons_cons _ ?_ | refine List.Sublist.cons _ ?_ | refine List.Sublist.trans ?_ (List.sublist_append_right _ _))) (RunL.start hxl fun k => (hx0 k).1)
      · skip
        refine TL.pure (PV.assign rfl) rfl (by decide) ?_
        refine TL.nil ?_
        refine TX.next (.inl (by repeat (first | exact List.Sublist.slnil | exact List.nil_sublist _ | exact List.Sublist.refl _ | refine List.Sublist.cons_cons _ ?_ | refine List.Sublist.cons _ ?_ | refine List.Sublist.trans ?_ (List.sublist_append_right _ _)))) ?_
        refine TX.step [4] (by kernel_rfl) (by decide) ⟨⟨_, rfl, ?_⟩, trivial⟩
        refine TL.makeI (k := gs.length) rfl rfl Tb.sl_23 Tb.zi_3 rfl (by omega) (by omega) rfl (by decide) (fun bT hbT => ?_)
        refine TL.nil ?_
        refine TX.next (.inl (by repeat (first | exact List.Sublist.slnil | exact List.nil_sublist _ | exact List.Sublist.refl _ | refine List.Sublist.cons_cons _ ?_ | refine List.Sublist.cons _ ?_ | refine List.Sublist.trans ?_ (List.sublist_append_right _ _)))) ?_
        refine TX.step [6] (by kernel_rfl) (by decide) ⟨⟨_, rfl, ?_⟩, trivial⟩
        refine TL.pure (PV.assign rfl) rfl (by decide) ?_
        refine TL.nil ?_
        refine TX.next (.inr (by kernel_rfl)) ?_
        refine TX.done (by kernel_rfl) ?_
        refine TQ.thenN ?_
        refine TQ.perm (G' := [(bT, Obj.cells (intsA (List.replicate gs.length 0)) 3 (0, 0)), (bC, Obj.cells (intsA xs) 3 (0, 0)), (b0, Obj.cells #[.slice p ls.length cp, .slice q gs.length cq] 25 (0, 0))]) (by repeat (first | exact List.Perm.refl _ | refine permTake (by repeat (first | exact Take.head _ | apply Take.tail | apply Take.appR)) ?_ | refine permMid ?_)) ?_
        refine TQ.midK (bC, bT, xs, List.replicate gs.length 0) (by repeat (first | exact True.intro | refine And.intro rfl ?_)) (by repeat (first | exact True.intro | refine And.intro rfl ?_)) (by repeat (first | exact List.Sublist.slnil | exact List.nil_sublist _ | exact List.Sublist.refl _ | refine List.Sublist.cons_cons _ ?_ | refine List.Sublist.cons _ ?_ | refine List.Sublist.trans ?_ (List.sublist_append_right _ _))) (RunL.start hxl fun k => (hx0 k).1)
    · skip
      refine TL.makeI (k := gs.length) rfl rfl Tb.sl_23 Tb.zi_3 rfl (by omega) (by omega) rfl (by decide) (fun bT hbT => ?_)
      refine TL.nil ?_
      refine TX.next (.inl (by repeat (first | exact List.Sublist.slnil | exact List.nil_sublist _ | exact List.Sublist.refl _ | refine List.Sublist.cons_cons _ ?_ | refine List.Sublist.cons _ ?_ | refine List.Sublist.trans ?_ (List.sublist_append_right _ _)))) ?_
      refine TX.step [1] (by kernel_rfl) (by decide) ⟨⟨_, rfl, ?_⟩, trivial⟩
      refine TL.call rfl Tb.gofn_73 (fun a w hs => copied_ok w _ _ _ (hx.new hs.new) _ hxl (by omega)) rfl (by decide) (fun bC _ => ?_)
      refine TL.nil ?_
      refine TX.next (.inl (by repeat (first | exact List.Sublist.slnil | exact List.nil_sublist _ | exact List.Sublist.refl _ | refine List.Sublist.cons_cons _ ?_ | refine List.Sublist.cons _ ?_ | refine List.Sublist.trans ?_ (List.sublist_append_right _ _)))) ?_
      refine TX.step [5] (by kernel_rfl) (by decide) ⟨⟨_, rfl, ?_⟩, trivial⟩
      refine TL.pure (PV.assign rfl) rfl (by decide) ?_
      refine TL.nil ?_
      refine TX.next (.inl (by repeat (first | exact List.Sublist.slnil | exact List.nil_sublist _ | exact List.Sublist.refl _ | refine List.Sublist.cons_cons _ ?_ | refine List.Sublist.cons _ ?_ | refine List.Sublist.trans ?_ (List.sublist_append_right _ _)))) ?_
      refine TX.step [6] (by kernel_rfl) (by decide) ⟨⟨_, rfl, ?_⟩, trivial⟩
      refine TL.pure (PV.assign rfl) rfl (by decide) ?_
      refine TL.nil ?_
      refine TX.next (.inr (by kernel_rfl)) ?_
      refine TX.done (by kernel_rfl) ?_
      refine TQ.thenN ?_
      refine TQ.perm (G' := [(bT, Obj.cells (intsA (List.replicate gs.length 0)) 3 (0, 0)), (bC, Obj.cells (intsA xs) 3 (0, 0)), (b0, Obj.cells #[.slice p ls.length cp, .slice q gs.length cq] 25 (0, 0))]) (by repeat (first | exact List.Perm.refl _ | refine permTake (by repeat (first | exact Take.head _ | apply Take.tail | apply Take.appR)) ?_ | refine permMid ?_)) ?_
      refine TQ.midK (bC, bT, xs, List.replicate gs.length 0) (by repeat (first | exact True.intro | refine And.intro rfl ?_)) (by repeat (first | exact True.intro | refine And.intro rfl ?_)) (by repeat (first | exact List.Sublist.slnil | exact List.nil_sublist _ | exact List.Sublist.refl _ | refine List.Sublist.cons_cons _ ?_ | refine List.Sublist.cons _ ?_ | refine List.Sublist.trans ?_ (List.sublist_append_right _ _))) (RunL.start hxl fun k => (hx0 k).1)
  · skip
    intro x hx9
    have hbd := hx9.bd hB hx0
    have hcl := hx9.cl
    have hml := hx9.ml
    refine TC.lit [(2, _), (4, _), (5, _)] (by repeat (first | exact True.intro | refine And.intro rfl ?_)) ?_
    refine TC.seq ?_
    refine TC.seq ?_
    refine TC.region ?_
    refine TL.pure (PV.move rfl) rfl (by decide) ?_
    refine TL.pure (PV.len rfl Tb.sl_23) rfl (by decide) ?_
    refine TL.pure (PV.move rfl) rfl (by decide) ?_
    refine TL.nil ?_
    refine TQ.thenC ?_
    refine TC.block ?_
    refine TC.lit [(2, _), (4, _), (5, _), (14, _), (15, _)] (by repeat (first | exact True.intro | refine And.intro rfl ?_)) ?_
    refine TC.loopK [2, 4, 5, 14] (X := Nat) (fun k => k ≤ gs.length ∧ ∀ j, j < k → x.2.2.1.getD j 0 < limI ls gs j) (fun k => [(15, .int .i64 k)]) (fun k => [(x.2.1, Obj.cells (intsA x.2.2.2) 3 (0, 0)), (x.1, Obj.cells (intsA x.2.2.1) 3 (0, 0)), (b0, Obj.cells #[.slice p ls.length cp, .slice q gs.length cq] 25 (0, 0))]) (fun k => gs.length - k) 0 ⟨Nat.zero_le _, fun j hj => absurd hj (Nat.not_lt_zero _)⟩ (by repeat (first | exact True.intro | refine And.intro rfl ?_)) (by repeat (first | exact List.Sublist.slnil | exact List.nil_sublist _ | exact List.Sublist.refl _ | refine List.Sublist.cons_cons _ ?_ | refine List.Sublist.cons _ ?_ | refine List.Sublist.trans ?_ (List.sublist_append_right _ _))) ?_
    intro k hk
    refine TC.lit [(2, _), (4, _), (5, _), (14, _), (15, _)] (by repeat (first | exact True.intro | refine And.intro rfl ?_)) ?_
    refine TC.seq ?_
    refine TC.region ?_
    refine TL.pure (PV.lss rfl rfl) rfl (by decide) ?_
    refine TL.nil ?_
    refine TQ.thenC ?_
    refine TC.seq ?_
    first | refine TC.condD rfl (fun h0 => ?_) (fun h0 => ?_) | refine TC.cond rfl (fun h0 => ?_) (fun h0 => ?_)
    · skip
      refine TC.skip ?_
      refine TQ.thenC ?_
      refine TC.seq ?_
      refine TC.block ?_
      refine TC.seq ?_
      refine TC.region ?_
      refine TL.pure (PV.move rfl) rfl (by decide) ?_
      refine TL.pure (PV.assign rfl) rfl (by decide) ?_
      refine TL.nil ?_
      refine TQ.thenC ?_
      refine TC.seq ?_
      have hck := hbd.2.1 k (by omega)
      have hlk := hB.lim (i := k) (by omega)
      have hqb := quo_bd hck.1 hlk.1
      refine TC.any Tb.mixed rfl rfl ?_
      refine TA.op (OpOK.pure (PV.move rfl) rfl (by decide)) (by decide) ?_
      refine TA.op (OpOK.pure (PV.move rfl) rfl (by decide)) (by decide) ?_
      refine TA.op (OpOK.pure (PV.index1 (j := k) rfl rfl Tb.elm_23 rfl (by omega)) rfl (by decide)) (by decide) ?_
      refine TA.op (OpOK.pure (PV.loadI rfl Tb.one_3 (by repeat (first | exact List.Mem.head _ | refine List.Mem.tail _ ?_ | refine List.mem_append_right _ ?_)) (by omega)) rfl (by decide)) (by decide) ?_
      refine TA.op (OpOK.pure (PV.loadBox rfl Tb.agg_25 (by repeat (first | exact List.Mem.head _ | refine List.Mem.tail _ ?_ | refine List.mem_append_right _ ?_)) rfl) rfl (by decide)) (by decide) ?_
      refine TA.op (OpOK.pure (PV.move rfl) rfl (by decide)) (by decide) ?_
      refine TA.op (OpOK.call rfl Tb.gofn_61 (fun a w hs => limit_ok w _ _ _ (hr.new hs.new) _ _ _ (hg.new hs.new) hB k (by omega)) rfl (by decide)) (by decide) ?_
      refine TA.op (OpOK.pure (PV.quo rfl rfl (by omega) (by omega)) rfl (by decide)) (by decide) ?_
      refine TA.op (OpOK.pure (PV.assign rfl) rfl (by decide)) (by decide) ?_
      show TQ _ _ _ _ _
      refine TQ.thenC ?_
      refine TC.seq ?_
      refine TC.region ?_
      refine TL.pure (PV.move rfl) rfl (by decide) ?_
      refine TL.pure (PV.gtr rfl rfl) rfl (by decide) ?_
      refine TL.nil ?_
      refine TQ.thenC ?_
      first | refine TC.condD rfl (fun h1 => ?_) (fun h1 => ?_) | refine TC.cond rfl (fun h1 => ?_) (fun h1 => ?_)
      · skip
        refine TC.seq ?_
        have hmk := hbd.1 k (by omega)
        have hnx := hx9.step hB (i := k) (by omega) hqb.1 hqb.2.2.1
        have hsp := sum_put (m := x.2.2.2) hml (show k < gs.length by omega) ((x.2.2.1.getD k 0).tdiv (limI ls gs k))
        refine TC.region ?_
        refine TL.pure (PV.loadBox rfl Tb.agg_25 (by repeat (first | exact List.Mem.head _ | refine List.Mem.tail _ ?_ | refine List.mem_append_right _ ?_)) rfl) rfl (by decide) ?_
        refine TL.pure (PV.move rfl) rfl (by decide) ?_
        refine TL.pure (PV.move rfl) rfl (by decide) ?_
        refine TL.pure (PV.move rfl) rfl (by decide) ?_
        refine TL.callW (X := Unit) (fun _ => .tuple #[]) (fun _ => True) (fun _ => (x.1, Obj.cells (intsA (tpN ls gs x.2.2.1 k ((x.2.2.1.getD k 0).tdiv (limI ls gs k)))) 3 (0, 0)) :: [(x.2.1, Obj.cells (intsA x.2.2.2) 3 (0, 0)), (b0, Obj.cells #[.slice p ls.length cp, .slice q gs.length cq] 25 (0, 0))]) rfl Tb.gofn_74 (fun a w hs => topple_ok (R := [(x.2.1, Obj.cells (intsA x.2.2.2) 3 (0, 0)), (b0, Obj.cells #[.slice p ls.length cp, .slice q gs.length cq] 25 (0, 0))]) (hs.new.perm (by repeat (first | exact List.Perm.refl _ | refine permTake (by repeat (first | exact Take.head _ | apply Take.tail | apply Take.appR)) ?_ | refine permMid ?_))) p cp ls hr q cq gs hg hB _ hcl hcl k (by omega) ((x.2.2.1.getD k 0).tdiv (limI ls gs k)) (by omega) (big_of hcl hbd.2.1)) rfl (by decide) (fun _ _ => ?_)
        refine TL.nil ?_
        refine TQ.thenC ?_
        refine TC.seq ?_
        refine TC.region ?_
        refine TL.pure (PV.move rfl) rfl (by decide) ?_
        refine TL.pure (PV.move rfl) rfl (by decide) ?_
        refine TL.pure (PV.index1 (j := k) rfl rfl Tb.elm_23 rfl (by omega)) rfl (by decide) ?_
        refine TL.pure (PV.loadI rfl Tb.one_3 (by repeat (first | exact List.Mem.head _ | refine List.Mem.tail _ ?_ | refine List.mem_append_right _ ?_)) (by omega)) rfl (by decide) ?_
        refine TL.pure (PV.move rfl) rfl (by decide) ?_
        refine TL.pure (PV.add rfl rfl (by omega)) rfl (by decide) ?_
        refine TL.pure (PV.index1 (j := k) rfl rfl Tb.elm_23 rfl (by omega)) rfl (by decide) ?_
        refine TL.storeIv (j := k) (xs' := x.2.2.2.set k (x.2.2.2.getD k 0 + ((x.2.2.1.getD k 0).tdiv (limI ls gs k)))) rfl rfl Tb.cells_3 rfl (by repeat (first | exact Upd.head _ | apply Upd.tail | apply Upd.appR)) (by omega) rfl rfl ?_
        refine TL.nil ?_
        refine TQ.thenC ?_
        refine TC.goto ?_
        refine TQ.blkG ?_
        refine TQ.thenG ?_
        refine TQ.thenG ?_
        refine TQ.blkG ?_
        refine TQ.thenG ?_
        refine TQ.jmG ?_
        refine TQ.perm (G' := [(x.2.1, Obj.cells (intsA (x.2.2.2.set k (x.2.2.2.getD k 0 + ((x.2.2.1.getD k 0).tdiv (limI ls gs k))))) 3 (0, 0)), (x.1, Obj.cells (intsA (tpN ls gs x.2.2.1 k ((x.2.2.1.getD k 0).tdiv (limI ls gs k)))) 3 (0, 0)), (b0, Obj.cells #[.slice p ls.length cp, .slice q gs.length cq] 25 (0, 0))]) (by repeat (first | exact List.Perm.refl _ | refine permTake (by repeat (first | exact Take.head _ | apply Take.tail | apply Take.appR)) ?_ | refine permMid ?_)) ?_
        refine TQ.backK (x.1, x.2.1, tpN ls gs x.2.2.1 k ((x.2.2.1.getD k 0).tdiv (limI ls gs k)), x.2.2.2.set k (x.2.2.2.getD k 0 + ((x.2.2.1.getD k 0).tdiv (limI ls gs k)))) (by repeat (first | exact True.intro | refine And.intro rfl ?_)) (by repeat (first | exact True.intro | refine And.intro rfl ?_)) (by repeat (first | exact List.Sublist.slnil | exact List.nil_sublist _ | exact List.Sublist.refl _ | refine List.Sublist.cons_cons _ ?_ | refine List.Sublist.cons _ ?_ | refine List.Sublist.trans ?_ (List.sublist_append_right _ _))) hnx (by have h8 := (hnx.bd hB hx0).2.2; simp only [hsp] at h8 ⊢; omega)
      · skip
        refine TC.skip ?_
        refine TQ.blkN ?_
        refine TQ.thenC ?_
        refine TC.region ?_
        refine TL.pure (PV.add rfl rfl (by omega)) rfl (by decide) ?_
        refine TL.pure (PV.move rfl) rfl (by decide) ?_
        refine TL.nil ?_
        refine TQ.thenN ?_
        refine TQ.backK (k + 1) (by repeat (first | exact True.intro | refine And.intro rfl ?_)) (by repeat (first | exact True.intro | refine And.intro rfl ?_)) (by repeat (first | exact List.Sublist.slnil | exact List.nil_sublist _ | exact List.Sublist.refl _ | refine List.Sublist.cons_cons _ ?_ | refine List.Sublist.cons _ ?_ | refine List.Sublist.trans ?_ (List.sublist_append_right _ _))) ⟨by omega, fun j hj => if e : j < k then hk.2 j e else (show k = j by omega) ▸ (hqb.2.2.2 (by omega))⟩ (by omega)
    · skip
      refine TC.exit ?_
      refine TQ.thenE ?_
      refine TQ.thenE ?_
      refine TQ.blkS ?_
      refine TQ.thenC ?_
      refine TC.seq ?_
      refine TC.region ?_
      refine TL.pure (PV.move rfl) rfl (by decide) ?_
      refine TL.pure (PV.move rfl) rfl (by decide) ?_
      refine TL.pure (PV.assign rfl) rfl (by decide) ?_
      refine TL.pure (PV.assign rfl) rfl (by decide) ?_
      refine TL.nil ?_
      refine TQ.thenC ?_
      refine TC.ret ?_
      refine TQ.jmR ?_
      refine TQ.retE2 rfl rfl rfl ?_
      exact ⟨x, rfl, hx9.stb (fun j hj => hk.2 j (by omega)), by first | exact List.Sublist.refl _ | exact List.Sublist.cons_cons _ (List.Sublist.cons_cons _ (List.nil_sublist _))⟩

end Go.Proofs.Ytgafpkcnhpoobaa

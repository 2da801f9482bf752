/- A way of passes is looked for: contract. -/
import Derived.Test.YtfgjojoipbbacaaQPB
import Derived.Test.YtfgjojoipbbacaaQMb
import Derived.Test.YtfgjojoipbbacaaQDZ
set_option linter.unusedVariables false
set_option linter.unusedSimpArgs false
namespace Go.Proofs.Ytfgjojoipbbacaa
open Go.Sx Go.RowKit

theorem perm_of {A B : Heap} (h : ∀ c : (Nat × Obj) → Nat, (A.map c).sum = (B.map c).sum) : List.Perm A B := by
  classical
  rw [List.perm_iff_count]
  intro a
  have hc : ∀ l : Heap, (l.map fun x => if x = a then 1 else 0).sum = l.count a := fun l => by
    induction l with
    | nil => rfl
    | cons x l ih =>
      rw [List.map_cons, List.sum_cons, ih, List.count_cons]
      by_cases e : x = a
      · subst e; simp; omega
      · simp [e]
  rw [← hc A, ← hc B]
  exact h _

section
variable {P : Program} {n : Nat} {w0 : World} {E : Env} {G : Heap} {d : Option Nat} {ty : TypeId} {pos : String} {aft : Array Edge} {g : Option (Nat × Bool)}
theorem PV.nilCheck {x : Operand} {a : Addr} (hx : evo E x = some (.pointer (some a))) : PV P n w0 E G ⟨d, .nilCheck x, ty, pos, aft, g⟩ (.pointer (some a)) :=
  fun A w hs => by simp only [execOp, hs.ev hx]; simp
end
theorem mt_114 : Try.prog.underlying 114 = some (.map 95 4) := by kernel_rfl
theorem zo_4 : zeroOf Try.prog 4 = some (.bool false) := by kernel_rfl
theorem eq95_guard (x y : Operand) (xs ys : List Int) (w : World) : (eqGuard .eql 95 x y (.agg (intsA xs)) (.agg (intsA ys))).run Try.prog w = .ok () w :=
  run_eqGuard_agg (w := w) .eql 95 x y _ _ (by kernel_rfl)
theorem eq95 (xs ys : List Int) (hx : xs.length = 2) (hy : ys.length = 2) (w : World) : (binOp .eql 95 (.agg (intsA xs)) (.agg (intsA ys))).run Try.prog w = .ok (.bool (decide (xs = ys))) w := by
  rw [run_eql_struct]
  have h : (Op.equalIn 10000 95 (.agg (intsA xs)) (.agg (intsA ys))).run Try.prog w = .ok (decide (xs = ys)) w := run_eqS key_95 hx hy w
  rw [h]; rfl
def seenX (es : List (List Int)) : BX := fun c j => decide ([(c : Int), (j : Int)] ∈ es)
theorem seen_in {es : List (List Int)} {a b : Int} (ha : 0 ≤ a) (hb : 0 ≤ b) : ([a, b] ∈ es) ↔ seenX es a.toNat b.toNat = true := by
  unfold seenX
  rw [decide_eq_true_iff, Int.toNat_of_nonneg ha, Int.toNat_of_nonneg hb]
theorem seen_put (es : List (List Int)) (c0 j0 : Nat) : seenX (es ++ [[(c0 : Int), (j0 : Int)]]) = putX (seenX es) c0 j0 := by
  funext c j
  unfold seenX putX
  rw [Bool.eq_iff_iff]
  simp only [List.mem_append, List.mem_singleton, decide_eq_true_iff, Bool.or_eq_true]
  constructor
  · rintro (h | h)
    · exact .inl h
    · simp only [List.cons.injEq, and_true] at h; exact .inr ⟨by omega, by omega⟩
  · rintro (h | h)
    · exact .inl h
    · obtain ⟨rfl, rfl⟩ := h; exact .inr rfl
theorem key2 {c0 j0 : Nat} {a b : Int} (ha : 0 ≤ a) (hb : 0 ≤ b) : ([(c0 : Int), (j0 : Int)] = [a, b]) ↔ (a.toNat = c0 ∧ b.toNat = j0) := by
  simp only [List.cons.injEq, and_true]
  omega
theorem seen_not {es xs : List (List Int)} {a b : Int} (hs : ∀ c j, seenX es c j = true → seenX xs c j = true) (ha : 0 ≤ a) (hb : 0 ≤ b) (h : ¬ [a, b] ∈ xs) : seenX es a.toNat b.toNat = false :=
  Bool.eq_false_iff.2 fun h9 => h ((seen_in ha hb).2 (hs _ _ h9))
structure SX where
  s : Int
  ps : List Ps
  m : List (List Int)
  es : List (List Int)
abbrev GS (bP bM bS : Nat) (hp : HD) (ls : List (List Int)) (N : Nat) (T : Heap) (ps : List Ps) (m es : List (List Int)) : Heap :=
  (bP, Obj.cells #[gval hp N, .map (some bM)] 99 (0, 0)) :: (bM, mobj (entK (dep ls) m (ls.length * dep ls))) :: (bS, bobj es) :: (gbR rP 90 hp ps ++ T)
structure SRes (ls : List (List Int)) (c0 j0 : Nat) (most : Int) (es : List (List Int)) (ps : List Ps) (m : List (List Int)) (x : SX) : Prop where
  s0 : 0 ≤ x.s ∧ x.s ≤ most
  e2 : ∀ e ∈ x.es, e.length = 2
  len : x.ps.length = ps.length
  zero : x.s = 0 → x.ps = ps ∧ x.m = m ∧ SZero ls.length (dep ls) c0 j0 (seenX es) (seenX x.es) ps m
  pos : 0 < x.s → PSent ls.length (dep ls) c0 j0 x.s (seenX es) ps m x.ps x.m
structure SPre (ls : List (List Int)) (N : Nat) (ps : List Ps) (m es : List (List Int)) (c0 j0 : Nat) (most : Int) : Prop where
  vb : VB ls
  len : ps.length = N
  n60 : N ≤ 60
  at_ : ∀ k, k < N → psB ls (ps.getD k default) = true ∧ 0 ≤ (ps.getD k default).a ∧ (ps.getD k default).a ≤ 600
  sh : Sh ls.length (dep ls) 1200 m
  e2 : ∀ e ∈ es, e.length = 2
  c : c0 < ls.length
  j : j0 < dep ls
  un : seenX es c0 j0 = false
  mo : 0 < most ∧ most ≤ 1200
def SOk (mm : Nat) : Prop := ∀ (w0 w : World) (bP bM bS : Nat) (hp : HD) (ls : List (List Int)) (N : Nat) (ps : List Ps) (m es : List (List Int)) (c0 j0 : Nat) (most : Int) (T : Heap),
  SPre ls N ps m es c0 j0 most → unB ls.length (dep ls) (seenX es) ≤ mm → goR rP hp ps → New w0 w (GS bP bM bS hp ls N T ps m es) →
  Calls Try.prog 106 #[.pointer (some ⟨bP, 0, none⟩), .agg (intsA [(c0 : Int), (j0 : Int)]), .int .i64 most, .map (some bS)] w
    (Post (X := SX) (fun x => .int .i64 x.s) (SRes ls c0 j0 most es ps m) (fun x => GS bP bM bS hp ls N T x.ps x.m x.es) w0)
theorem mr_perm {bP bM bS : Nat} {o1 o2 o3 : Obj} {A B T : Heap} : List.Perm (B ++ ((bP, o1) :: (bM, o2) :: (bS, o3) :: (A ++ T))) ((bP, o1) :: (bM, o2) :: (bS, o3) :: (A ++ (B ++ T))) :=
  perm_of fun c9 => by simp only [List.map_append, List.sum_append, List.map_cons, List.sum_cons]; omega
theorem rec_send {mm : Nat} (ih : SOk mm) {w0 w : World} {bP bM bS : Nat} {hp : HD} {ls : List (List Int)} {N : Nat} {ps : List Ps} {m es : List (List Int)} {c1 j1 : Int} {most : Int} {T B : Heap}
    (hpre : SPre ls N ps m es c1.toNat j1.toNat most) (hc1 : 0 ≤ c1) (hj1 : 0 ≤ j1) (hu : unB ls.length (dep ls) (seenX es) ≤ mm) (hok : goR rP hp ps) (hN : New w0 w (B ++ GS bP bM bS hp ls N T ps m es)) :
    Calls Try.prog 106 #[.pointer (some ⟨bP, 0, none⟩), .agg (intsA [c1, j1]), .int .i64 most, .map (some bS)] w
      (Post (X := SX) (fun x => .int .i64 x.s) (SRes ls c1.toNat j1.toNat most es ps m) (fun x => GS bP bM bS hp ls N (B ++ T) x.ps x.m x.es) w0) := by
  have h := ih w0 w bP bM bS hp ls N ps m es c1.toNat j1.toNat most (B ++ T) hpre hu hok (hN.perm mr_perm.symm)
  rw [Int.toNat_of_nonneg hc1, Int.toNat_of_nonneg hj1] at h
  exact h
theorem SRes.amt {ls : List (List Int)} {c0 j0 : Nat} {most : Int} {es : List (List Int)} {ps : List Ps} {m : List (List Int)} {x : SX} (h : SRes ls c0 j0 most es ps m x) {k : Nat} (hk : k < ps.length) (ha : 0 ≤ (ps.getD k default).a ∧ (ps.getD k default).a ≤ 600) (hm : most ≤ 1200) : 0 ≤ (x.ps.getD k default).a ∧ (x.ps.getD k default).a ≤ 1800 := by
  have h0 := h.s0
  by_cases e : x.s = 0
  · rw [(h.zero e).1]; omega
  · have := (h.pos (by omega)).amt k hk
    omega
theorem set_zero0 {ps : List Ps} {k : Nat} (hk : k < ps.length) : ps.set k { ps.getD k default with a := (ps.getD k default).a } = ps :=
  WideElems.set_self _ _ _ (by simp [List.getD, hk])
theorem set_zero {ps : List Ps} {k : Nat} (hk : k < ps.length) {d : Int} (hd : d = 0) : ps.set k { ps.getD k default with a := (ps.getD k default).a + d } = ps := by
  subst hd
  rw [Int.add_zero]
  exact WideElems.set_self _ _ _ (by simp [List.getD, hk])


set_option maxRecDepth 100000 in
set_option maxHeartbeats 2000000 in
theorem send_step (mm : Nat) (ih : SOk mm) : SOk (mm + 1) := by
  intro w0 w bP bM bS hp ls N ps m es c0 j0 most T hpre hun hok hN
  have hvb := hpre.vb
  have hn9 := hvb.n
  have hd9 := hvb.d
  have hc0 := hpre.c
  have hj0 := hpre.j
  have hpl := hpre.len
  have hsh := hpre.sh
  have hmo := hpre.mo
  have hes := hpre.e2
  have h60 := hpre.n60
  have hw0 : -1200 ≤ Wt m c0 j0 ∧ Wt m c0 j0 ≤ 1200 := hsh.bd c0 j0
  have hnew : [(c0 : Int), (j0 : Int)] ∉ es := fun h9 => by have h8 := hpre.un; unfold seenX at h8; rw [decide_eq_true h9] at h8; cases h8
  have hes1 : ∀ e ∈ es ++ [[(c0 : Int), (j0 : Int)]], e.length = 2 := fun e he => by
    rcases List.mem_append.1 he with h9 | h9
    · exact hes e h9
    · rw [List.mem_singleton.1 h9]; rfl
  have hl0 : lookE [(c0 : Int), (j0 : Int)] (entK (dep ls) (m) (ls.length * dep ls)) 0 = some (c0 * dep ls + j0, Wt m c0 j0) := by have h9 := cell_look (D := dep ls) (n := ls.length) (m := m) (a := (c0 : Int)) (b := (j0 : Int)) (by omega) (by omega); rw [Int.toNat_natCast, Int.toNat_natCast] at h9; exact h9
  have hgl : gok hp N 4 (rcs rP ps) := by subst hpl; exact hok
  refine callsM hN Try.func106 rfl (n := 119) rfl (by simp) ?_
  refine TC.seq ?_
  refine TC.region ?_
  refine TL.box rfl rfl (by decide) (fun b0 hb0 => ?_)
  refine TL.pure (PV.assign rfl) rfl (by decide) ?_
  refine TL.nil ?_
  refine TQ.thenC ?_
  refine TC.seq ?_
  refine TC.region ?_
  refine TL.pure (PV.move rfl) rfl (by decide) ?_
  refine TL.pure (PV.loadBox rfl Tb.agg_95 (by repeat (first | exact List.Mem.head _ | refine List.Mem.tail _ ?_ | refine List.mem_append_right _ ?_)) rfl) rfl (by decide) ?_
  refine TL.updateB key_95 mt_114 rfl rfl rfl rfl hes hnew (by repeat (first | exact Upd.head _ | apply Upd.tail | apply Upd.appR)) rfl rfl ?_
  refine TL.nil ?_
  refine TQ.thenC ?_
  refine TC.seq ?_
  refine TC.seq ?_
  refine TC.mixV [true, true, true, true, true, true, true, true] _ 8 Tb.mixed rfl (by kernel_rfl) (by kernel_rfl) (by kernel_rfl) (by kernel_rfl) (List.Sublist.refl _) ?_
  refine TV.virt 0 rfl rfl (by decide) rfl (by kernel_rfl) (SOK.pure (PV.move rfl) rfl) ?_
  refine TV.virt 1 rfl rfl (by decide) rfl (by kernel_rfl) (SOK.pure (PV.nilCheck rfl) rfl) ?_
  refine TV.virt 2 rfl rfl (by decide) rfl (by kernel_rfl) (SOK.pure (PV.fieldAddr rfl Tb.fo_99_1) rfl) ?_
  refine TV.virt 3 rfl rfl (by decide) rfl (by kernel_rfl) (SOK.pure (PV.load rfl Tb.one_92 (by repeat (first | exact List.Mem.head _ | refine List.Mem.tail _ ?_ | refine List.mem_append_right _ ?_)) rfl) rfl) ?_
  refine TV.virt 4 rfl rfl (by decide) rfl (by kernel_rfl) (SOK.pure (PV.loadBox rfl Tb.agg_95 (by repeat (first | exact List.Mem.head _ | refine List.Mem.tail _ ?_ | refine List.mem_append_right _ ?_)) rfl) rfl) ?_
  refine TV.virt 5 rfl rfl (by decide) rfl (by kernel_rfl) (SOK.pure (PV.lookupV hl0 key_95 mt_92 zo_3 rfl rfl rfl entK_two (by repeat (first | exact List.Mem.head _ | refine List.Mem.tail _ ?_ | refine List.mem_append_right _ ?_))) rfl) ?_
  refine TV.virt 6 rfl rfl (by decide) rfl (by kernel_rfl) (SOK.pure (PV.neg rfl (by omega)) rfl) ?_
  refine TV.virt 7 rfl rfl (by decide) rfl (by kernel_rfl) (SOK.pure (PV.assign rfl) rfl) ?_
  refine TV.done (by kernel_rfl) ?_
  refine TQ.thenC ?_
  refine TC.seq ?_
  refine TC.region ?_
  refine TL.pure (PV.move rfl) rfl (by decide) ?_
  refine TL.pure (PV.gtr rfl rfl) rfl (by decide) ?_
  refine TL.nil ?_
  refine TQ.thenC ?_
  first | refine TC.condD rfl (fun hlack => ?_) (fun hlack => ?_) | refine TC.cond rfl (fun hlack => ?_) (fun hlack => ?_)
  · skip
    refine TC.seq ?_
    refine TC.region ?_
    refine TL.pure (PV.move rfl) rfl (by decide) ?_
    refine TL.pure (PV.move rfl) rfl (by decide) ?_
    refine TL.pure (PV.min rfl rfl Tb.int_3) rfl (by decide) ?_
    refine TL.pure (PV.assign rfl) rfl (by decide) ?_
    refine TL.nil ?_
    refine TQ.thenC ?_
    refine TC.seq ?_
    have hcs := cell_set hsh (a := (c0 : Int)) (b := (j0 : Int)) (v := min (-Wt m c0 j0) most) (by omega) (by omega)
    rw [Int.toNat_natCast, Int.toNat_natCast] at hcs
    refine TC.mixV [true, true, true, true, true, true, true, true, false, true, false] _ 11 Tb.mixed rfl (by kernel_rfl) (by kernel_rfl) (by kernel_rfl) (by kernel_rfl) (List.Sublist.refl _) ?_
    refine TV.virt 0 rfl rfl (by decide) rfl (by kernel_rfl) (SOK.pure (PV.move rfl) rfl) ?_
    refine TV.virt 1 rfl rfl (by decide) rfl (by kernel_rfl) (SOK.pure (PV.nilCheck rfl) rfl) ?_
    refine TV.virt 2 rfl rfl (by decide) rfl (by kernel_rfl) (SOK.pure (PV.fieldAddr rfl Tb.fo_99_1) rfl) ?_
    refine TV.virt 3 rfl rfl (by decide) rfl (by kernel_rfl) (SOK.pure (PV.load rfl Tb.one_92 (by repeat (first | exact List.Mem.head _ | refine List.Mem.tail _ ?_ | refine List.mem_append_right _ ?_)) rfl) rfl) ?_
    refine TV.virt 4 rfl rfl (by decide) rfl (by kernel_rfl) (SOK.pure (PV.loadBox rfl Tb.agg_95 (by repeat (first | exact List.Mem.head _ | refine List.Mem.tail _ ?_ | refine List.mem_append_right _ ?_)) rfl) rfl) ?_
    refine TV.virt 5 rfl rfl (by decide) rfl (by kernel_rfl) (SOK.pure (PV.lookupV hl0 key_95 mt_92 zo_3 rfl rfl rfl entK_two (by repeat (first | exact List.Mem.head _ | refine List.Mem.tail _ ?_ | refine List.mem_append_right _ ?_))) rfl) ?_
    refine TV.virt 6 rfl rfl (by decide) rfl (by kernel_rfl) (SOK.pure (PV.move rfl) rfl) ?_
    refine TV.virt 7 rfl rfl (by decide) rfl (by kernel_rfl) (SOK.pure (PV.add rfl rfl (by omega)) rfl) ?_
    refine TV.step [8] (by kernel_rfl) (by decide) rfl ⟨⟨_, rfl, ?_⟩, trivial⟩
    refine TL.entryS key_95 mt_92 rfl rfl rfl entK_two hl0 (by repeat (first | exact Upd.head _ | apply Upd.tail | apply Upd.appR)) rfl (by decide) ?_
    refine TL.nil ?_
    refine TV.next (.inl (by repeat (first | exact List.Sublist.slnil | exact List.nil_sublist _ | exact List.Sublist.refl _ | refine List.Sublist.cons_cons _ ?_ | refine List.Sublist.cons _ ?_ | refine List.Sublist.trans ?_ (List.sublist_append_right _ _)))) ?_
    refine TV.virt 9 rfl rfl (by decide) rfl (by kernel_rfl) (SOK.pure (PV.extract rfl rfl) rfl) ?_
    refine TV.step [10] (by kernel_rfl) (by decide) rfl ⟨⟨_, rfl, ?_⟩, trivial⟩
    refine TL.entryStoreS rfl rfl rfl (by have := (lookE_some hl0).2.2; rwa [Nat.sub_zero] at this) (by repeat (first | exact Upd.head _ | apply Upd.tail | apply Upd.appR)) rfl rfl ?_
    rw [hcs]
    refine TL.nil ?_
    refine TV.next (.inr (by kernel_rfl)) ?_
    refine TV.done (by kernel_rfl) ?_
    refine TQ.thenC ?_
    refine TC.seq ?_
    refine TC.region ?_
    refine TL.pure (PV.move rfl) rfl (by decide) ?_
    refine TL.pure (PV.assign rfl) rfl (by decide) ?_
    refine TL.nil ?_
    refine TQ.thenC ?_
    refine TC.ret ?_
    refine TQ.thenR ?_
    refine TQ.retE1 rfl rfl ?_
    exact ⟨⟨min (-Wt m c0 j0) most, ps, addAt m c0 j0 (min (-Wt m c0 j0) most), es ++ [[(c0 : Int), (j0 : Int)]]⟩, rfl, ⟨by simp only; omega, hes1, rfl, fun h9 => absurd h9 (by simp only; omega), fun h9 => PSent.base hsh.len hsh.row hc0 hj0 h9 (by simp only; omega) (fun k hk => (hpre.at_ k (by omega)).2.1)⟩, List.Sublist.cons _ (List.Sublist.refl _)⟩
  · skip
    refine TC.skip ?_
    refine TQ.thenC ?_
    refine TC.seq ?_
    refine TC.seq ?_
    refine TC.region ?_
    refine TL.pure (PV.move rfl) rfl (by decide) ?_
    refine TL.pure (PV.nilCheck rfl) rfl (by decide) ?_
    refine TL.pure (PV.fieldAddr rfl Tb.fo_99_0) rfl (by decide) ?_
    refine TL.pure (PV.load rfl Tb.one_55 (by repeat (first | exact List.Mem.head _ | refine List.Mem.tail _ ?_ | refine List.mem_append_right _ ?_)) rfl) rfl (by decide) ?_
    refine TL.pure (PV.lenG (h := hp) (len := N) rfl hgl Tb.sl_55) rfl (by decide) ?_
    refine TL.pure (PV.move rfl) rfl (by decide) ?_
    refine TL.nil ?_
    refine TQ.thenC ?_
    refine TC.block ?_
    -- live and written in the loop, not told: [8]
    refine TC.loopK [0, 2, 3, 5, 42, 43] (X := Nat × List (List Int)) (fun x => x.1 ≤ N ∧ (∀ e ∈ x.2, e.length = 2) ∧ SLoop ls.length (dep ls) c0 j0 (seenX es) (seenX x.2) ps m x.1) (fun x => [(44, .int .i64 (x.1 : Nat))]) (fun x => (b0, Obj.cells (intsA [(c0 : Int), (j0 : Int)]) 95 (0, 0)) :: GS bP bM bS hp ls N (T) (ps) (m) (x.2)) (fun x => N - x.1) (0, es ++ [[(c0 : Int), (j0 : Int)]]) ⟨Nat.zero_le _, hes1, by rw [seen_put]; exact SLoop.zero hc0 hj0 (by omega)⟩ (by repeat (first | exact True.intro | refine And.intro rfl ?_)) (List.Sublist.refl _) ?_
    intro x hx
    have hx1 := hx.1
    refine TC.seq ?_
    refine TC.region ?_
    refine TL.pure (PV.lss rfl rfl) rfl (by decide) ?_
    refine TL.nil ?_
    refine TQ.thenC ?_
    refine TC.seq ?_
    first | refine TC.condD rfl (fun hlt => ?_) (fun hlt => ?_) | refine TC.cond rfl (fun hlt => ?_) (fun hlt => ?_)
    · skip
      refine TC.skip ?_
      refine TQ.thenC ?_
      refine TC.seq ?_
      refine TC.block ?_
      refine TC.seq ?_
      have hk9 : x.1 < N := by omega
      obtain ⟨hpb, ha0, ha6⟩ := hpre.at_ x.1 hk9
      have hpd := of_decide_eq_true hpb
      have hxe := hx.2.1
      refine TC.region ?_
      refine TL.pure (PV.move rfl) rfl (by decide) ?_
      refine TL.pure (PV.indexG (h := hp) (len := N) (j := x.1) rfl rfl hgl Tb.elm_55 rfl (by omega)) rfl (by decide) ?_
      refine TL.pure (PV.loadRec (R := rP) (h := hp) (l := ps) (j := x.1) (r := (ps.getD x.1 default)) rfl Tb.agg_90 (by intro y9 hy9; repeat (first | exact hy9 | exact List.mem_append_left _ hy9 | refine List.mem_append_right _ ?_ | refine List.Mem.tail _ ?_)) hok (by omega) rfl) rfl (by decide) ?_
      refine TL.alloc Tb.zero_90 rfl (by decide) (fun bQ hbQ => ?_)
      refine TL.pure (PV.assign rfl) rfl (by decide) ?_
      refine TL.storeAgg rfl rfl Tb.cells_90 (by repeat (first | exact Upd.head _ | apply Upd.tail | apply Upd.appR)) rfl rfl rfl rfl rfl ?_
      refine TL.nil ?_
      refine TQ.thenC ?_
      refine TC.seq ?_
      refine TC.region ?_
      refine TL.pure (PV.assign rfl) rfl (by decide) ?_
      refine TL.nil ?_
      refine TQ.thenC ?_
      refine TC.seq ?_
      refine TC.seq ?_
      refine TC.mixV [true, true, false, true, true, true, true, false, true, true, true] _ 11 Tb.mixed rfl (by kernel_rfl) (by kernel_rfl) (by kernel_rfl) (by kernel_rfl) (List.Sublist.refl _) ?_
      refine TV.virt 0 rfl rfl (by decide) rfl (by kernel_rfl) (SOK.pure (PV.loadBox rfl Tb.agg_95 (by repeat (first | exact List.Mem.head _ | refine List.Mem.tail _ ?_ | refine List.mem_append_right _ ?_)) rfl) rfl) ?_
      refine TV.virt 1 rfl rfl (by decide) rfl (by kernel_rfl) (SOK.pure (PV.loadBox rfl Tb.agg_90 (by repeat (first | exact List.Mem.head _ | refine List.Mem.tail _ ?_ | refine List.mem_append_right _ ?_)) rfl) rfl) ?_
      refine TV.step [2] (by kernel_rfl) (by decide) rfl ⟨⟨_, rfl, ?_⟩, trivial⟩
      refine TL.call rfl Tb.gofn_94 (fun a w hs => below_ok w (ps.getD x.1 default)) rfl (by decide) (fun _ _ => ?_)
      refine TL.nil ?_
      refine TV.next (.inl (by repeat (first | exact List.Sublist.slnil | exact List.nil_sublist _ | exact List.Sublist.refl _ | refine List.Sublist.cons_cons _ ?_ | refine List.Sublist.cons _ ?_ | refine List.Sublist.trans ?_ (List.sublist_append_right _ _)))) ?_
      refine TV.virt 3 rfl rfl (by decide) rfl (by kernel_rfl) (SOK.pure (PV.cmp rfl rfl (eq95_guard _ _ _ _) (eq95 _ _ rfl rfl)) rfl) ?_
      refine TV.virt 4 rfl rfl (by decide) rfl (by kernel_rfl) (SOK.pure (PV.move rfl) rfl) ?_
      first | refine TV.splitD 53 rfl (fun c1 => ?_) (fun c1 => ?_) | refine TV.split 53 rfl (fun c1 => ?_) (fun c1 => ?_)
      · skip
        refine TV.virt 5 rfl rfl (by decide) rfl (by kernel_rfl) (SOK.pure (PV.move rfl) rfl) ?_
        refine TV.virt 6 rfl rfl (by decide) rfl (by kernel_rfl) (SOK.pure (PV.loadBox rfl Tb.agg_90 (by repeat (first | exact List.Mem.head _ | refine List.Mem.tail _ ?_ | refine List.mem_append_right _ ?_)) rfl) rfl) ?_
        refine TV.step [7] (by kernel_rfl) (by decide) rfl ⟨⟨_, rfl, ?_⟩, trivial⟩
        refine TL.call rfl Tb.gofn_95 (fun a w hs => above_ok w (ps.getD x.1 default) (by omega)) rfl (by decide) (fun _ _ => ?_)
        refine TL.nil ?_
        refine TV.next (.inl (by repeat (first | exact List.Sublist.slnil | exact List.nil_sublist _ | exact List.Sublist.refl _ | refine List.Sublist.cons_cons _ ?_ | refine List.Sublist.cons _ ?_ | refine List.Sublist.trans ?_ (List.sublist_append_right _ _)))) ?_
        refine TV.virt 8 rfl rfl (by decide) rfl (by kernel_rfl) (SOK.pure (PV.lookupB key_95 mt_114 zo_4 rfl rfl rfl hxe (by repeat (first | exact List.Mem.head _ | refine List.Mem.tail _ ?_ | refine List.mem_append_right _ ?_))) rfl) ?_
        refine TV.virt 9 rfl rfl (by decide) rfl (by kernel_rfl) (SOK.pure (PV.notD rfl) rfl) ?_
        refine TV.virt 10 rfl rfl (by decide) rfl (by kernel_rfl) (SOK.pure (PV.pickT rfl rfl) rfl) ?_
        refine TV.done (by kernel_rfl) ?_
        refine TQ.thenC ?_
        first | refine TC.condD rfl (fun hgo1 => ?_) (fun hgo1 => ?_) | refine TC.cond rfl (fun hgo1 => ?_) (fun hgo1 => ?_)
        · skip
          refine TC.seq ?_
          refine TC.region ?_
          refine TL.pure (PV.move rfl) rfl (by decide) ?_
          refine TL.pure (PV.loadBox rfl Tb.agg_90 (by repeat (first | exact List.Mem.head _ | refine List.Mem.tail _ ?_ | refine List.mem_append_right _ ?_)) rfl) rfl (by decide) ?_
          refine TL.call rfl Tb.gofn_95 (fun a w hs => above_ok w (ps.getD x.1 default) (by omega)) rfl (by decide) (fun _ _ => ?_)
          refine TL.pure (PV.move rfl) rfl (by decide) ?_
          refine TL.pure (PV.move rfl) rfl (by decide) ?_
          refine TL.callW (X := SX) (fun z => .int .i64 z.s) (SRes ls ((ps.getD x.1 default).t).toNat ((ps.getD x.1 default).h - 1).toNat (most) x.2 ps m) (fun z => GS bP bM bS hp ls N ([(bQ, Obj.cells (rP.cells (ps.getD x.1 default)).toArray 90 (0, 0)), (b0, Obj.cells (intsA [(c0 : Int), (j0 : Int)]) 95 (0, 0))] ++ T) z.ps z.m z.es) rfl Tb.gofn_106 (fun a w hs => rec_send (B := [(bQ, Obj.cells (rP.cells (ps.getD x.1 default)).toArray 90 (0, 0)), (b0, Obj.cells (intsA [(c0 : Int), (j0 : Int)]) 95 (0, 0))]) ih (c1 := (ps.getD x.1 default).t) (j1 := (ps.getD x.1 default).h - 1) (⟨hvb, hpl, h60, hpre.at_, hsh, hxe, by omega, by omega, Bool.eq_false_iff.2 fun h9 => hgo1 ((seen_in (by omega) (by omega)).2 h9), hmo⟩) (by omega) (by omega) (by have h9 := unB_lt hc0 hj0 hx.2.2.sub hpre.un hx.2.2.me; omega) hok hs.new) rfl (by decide) (fun y hy => ?_)
          refine TL.pure (PV.assign rfl) rfl (by decide) ?_
          refine TL.nil ?_
          refine TQ.thenC ?_
          have hoky : goR rP hp y.ps := goR_len hok hy.len
          have hgly : gok hp N 4 (rcs rP y.ps) := by have h9 := hoky; unfold goR at h9; rw [hy.len, hpl] at h9; exact h9
          have hyl : y.ps.length = N := hy.len.trans hpl
          have hya := hy.amt (k := x.1) (by omega) ⟨ha0, ha6⟩ (by omega)
          have hys := hy.s0
          refine TC.region ?_
          refine TL.pure (PV.move rfl) rfl (by decide) ?_
          refine TL.pure (PV.nilCheck rfl) rfl (by decide) ?_
          refine TL.pure (PV.fieldAddr rfl Tb.fo_99_0) rfl (by decide) ?_
          refine TL.pure (PV.load rfl Tb.one_55 (by repeat (first | exact List.Mem.head _ | refine List.Mem.tail _ ?_ | refine List.mem_append_right _ ?_)) rfl) rfl (by decide) ?_
          refine TL.pure (PV.move rfl) rfl (by decide) ?_
          refine TL.pure (PV.indexG (h := hp) (len := N) (j := x.1) rfl rfl hgly Tb.elm_55 rfl (by omega)) rfl (by decide) ?_
          refine TL.pure (PV.fieldAddr rfl Tb.fo_90_3) rfl (by decide) ?_
          refine TL.pure (PV.loadRecF (R := rP) (h := hp) (l := y.ps) (j := x.1) (f := 3) rfl Tb.one_3 (by intro y9 hy9; repeat (first | exact hy9 | exact List.mem_append_left _ hy9 | refine List.mem_append_right _ ?_ | refine List.Mem.tail _ ?_)) hoky (by omega) (by decide) rfl) rfl (by decide) ?_
          refine TL.pure (PV.move rfl) rfl (by decide) ?_
          refine TL.pure (PV.add rfl rfl (by omega)) rfl (by decide) ?_
          refine TL.pure (PV.indexG (h := hp) (len := N) (j := x.1) rfl rfl hgly Tb.elm_55 rfl (by omega)) rfl (by decide) ?_
          refine TL.pure (PV.fieldAddr rfl Tb.fo_90_3) rfl (by decide) ?_
          refine TL.putCell (R := rP) (h := hp) (l0 := y.ps) (j := x.1) (f := 3) (r := { (y.ps.getD x.1 default) with a := (y.ps.getD x.1 default).a + y.s }) rfl rfl Tb.cells_3 rfl hoky rfl (by repeat (first | exact PutH.here _ _ _ _ | apply PutH.tail | apply PutH.app)) (by omega) (by decide) rfl rfl ?_
          refine TL.nil ?_
          refine TQ.thenC ?_
          refine TC.seq ?_
          refine TC.seq ?_
          refine TC.mixV [true, true, false, true, true, true, true, false, true, true, true, true, true, true, true, true] _ 16 Tb.mixed rfl (by kernel_rfl) (by kernel_rfl) (by kernel_rfl) (by kernel_rfl) (List.Sublist.refl _) ?_
          refine TV.virt 0 rfl rfl (by decide) rfl (by kernel_rfl) (SOK.pure (PV.loadBox rfl Tb.agg_95 (by repeat (first | exact List.Mem.head _ | refine List.Mem.tail _ ?_ | refine List.mem_append_right _ ?_)) rfl) rfl) ?_
          refine TV.virt 1 rfl rfl (by decide) rfl (by kernel_rfl) (SOK.pure (PV.loadBox rfl Tb.agg_90 (by repeat (first | exact List.Mem.head _ | refine List.Mem.tail _ ?_ | refine List.mem_append_right _ ?_)) rfl) rfl) ?_
          refine TV.step [2] (by kernel_rfl) (by decide) rfl ⟨⟨_, rfl, ?_⟩, trivial⟩
          refine TL.call rfl Tb.gofn_95 (fun a w hs => above_ok w (ps.getD x.1 default) (by omega)) rfl (by decide) (fun _ _ => ?_)
          refine TL.nil ?_
          refine TV.next (.inl (by repeat (first | exact List.Sublist.slnil | exact List.nil_sublist _ | exact List.Sublist.refl _ | refine List.Sublist.cons_cons _ ?_ | refine List.Sublist.cons _ ?_ | refine List.Sublist.trans ?_ (List.sublist_append_right _ _)))) ?_
          refine TV.virt 3 rfl rfl (by decide) rfl (by kernel_rfl) (SOK.pure (PV.cmp rfl rfl (eq95_guard _ _ _ _) (eq95 _ _ rfl rfl)) rfl) ?_
          refine TV.virt 4 rfl rfl (by decide) rfl (by kernel_rfl) (SOK.pure (PV.move rfl) rfl) ?_
          first | refine TV.splitD 82 rfl (fun c2 => ?_) (fun c2 => ?_) | refine TV.split 82 rfl (fun c2 => ?_) (fun c2 => ?_)
          · skip
            exact absurd c1 (by rw [key2 (by omega) (by omega)] at c2 ⊢; omega)
          · skip
            refine TV.virt 5 rfl rfl (by decide) rfl (by kernel_rfl) (SOK.skip rfl) ?_
            refine TV.virt 6 rfl rfl (by decide) rfl (by kernel_rfl) (SOK.skip rfl) ?_
            refine TV.step [7] (by kernel_rfl) (by decide) rfl ⟨⟨_, rfl, ?_⟩, trivial⟩
            refine TL.skip rfl (fun k hk => by cases hk; decide) ?_
            refine TL.nil ?_
            refine TV.next (.inl (by repeat (first | exact List.Sublist.slnil | exact List.nil_sublist _ | exact List.Sublist.refl _ | refine List.Sublist.cons_cons _ ?_ | refine List.Sublist.cons _ ?_ | refine List.Sublist.trans ?_ (List.sublist_append_right _ _)))) ?_
            refine TV.virt 8 rfl rfl (by decide) rfl (by kernel_rfl) (SOK.skip rfl) ?_
            refine TV.virt 9 rfl rfl (by decide) rfl (by kernel_rfl) (SOK.skip rfl) ?_
            refine TV.virt 10 rfl rfl (by decide) rfl (by kernel_rfl) (SOK.pure (PV.pickF rfl rfl) rfl) ?_
            refine TV.virt 11 rfl rfl (by decide) rfl (by kernel_rfl) (SOK.pure (PV.move rfl) rfl) ?_
            refine TV.virt 12 rfl rfl (by decide) rfl (by kernel_rfl) (SOK.skip rfl) ?_
            refine TV.virt 13 rfl rfl (by decide) rfl (by kernel_rfl) (SOK.skip rfl) ?_
            refine TV.virt 14 rfl rfl (by decide) rfl (by kernel_rfl) (SOK.skip rfl) ?_
            refine TV.virt 15 rfl rfl (by decide) rfl (by kernel_rfl) (SOK.pure (PV.pickF rfl rfl) rfl) ?_
            refine TV.done (by kernel_rfl) ?_
            refine TQ.thenC ?_
            refine TC.condF rfl ?_
            refine TC.skip ?_
            refine TQ.thenC ?_
            refine TC.seq ?_
            refine TC.region ?_
            refine TL.pure (PV.move rfl) rfl (by decide) ?_
            refine TL.pure (PV.gtr rfl rfl) rfl (by decide) ?_
            refine TL.nil ?_
            refine TQ.thenC ?_
            first | refine TC.condD rfl (fun hsent => ?_) (fun hsent => ?_) | refine TC.cond rfl (fun hsent => ?_) (fun hsent => ?_)
            · skip
              refine TC.seq ?_
              refine TC.region ?_
              refine TL.pure (PV.move rfl) rfl (by decide) ?_
              refine TL.pure (PV.assign rfl) rfl (by decide) ?_
              refine TL.nil ?_
              refine TQ.thenC ?_
              refine TC.ret ?_
              refine TQ.blkR ?_
              refine TQ.thenR ?_
              refine TQ.thenR ?_
              refine TQ.blkR ?_
              refine TQ.thenR ?_
              refine TQ.retE1 rfl rfl ?_
              exact ⟨⟨y.s, (y.ps.set x.1 { (y.ps.getD x.1 default) with a := (y.ps.getD x.1 default).a + y.s }), y.m, y.es⟩, rfl, ⟨⟨hys.1, by simp only; omega⟩, hy.e2, by rw [List.length_set]; exact hy.len, fun h9 => absurd h9 (by simp only; omega), fun h9 => by exact PSent.step (hy.pos h9) (by omega) h9 hx.2.2.sub hx.2.2.me hpre.un (seen_not hx.2.2.sub (by omega) (by omega) hgo1) (.inl ⟨(key2 (by omega) (by omega)).1 c1, ⟨rfl, rfl⟩, rfl⟩) ha0⟩, (.cons_cons _ (.cons_cons _ (.cons_cons _ (List.Sublist.append_left (List.sublist_append_right _ _) _))))⟩
            · skip
              have hz := hy.zero (by omega)
              have hps : (y.ps.set x.1 { (y.ps.getD x.1 default) with a := (y.ps.getD x.1 default).a + y.s }) = ps := by rw [show y.s = 0 from by omega, hz.1]; exact set_zero (by omega) rfl
              rw [hps, hz.2.1]
              refine TC.skip ?_
              refine TQ.blkN ?_
              refine TQ.thenC ?_
              refine TC.region ?_
              refine TL.pure (PV.add rfl rfl (by omega)) rfl (by decide) ?_
              refine TL.pure (PV.move rfl) rfl (by decide) ?_
              refine TL.nil ?_
              refine TQ.thenN ?_
              refine TQ.perm (G' := (bQ, Obj.cells (rP.cells (ps.getD x.1 default)).toArray 90 (0, 0)) :: (b0, Obj.cells (intsA [(c0 : Int), (j0 : Int)]) 95 (0, 0)) :: GS bP bM bS hp ls N (T) (ps) (m) (y.es)) (perm_of fun c9 => by simp only [gbR, List.map_append, List.sum_append, List.map_cons, List.sum_cons, List.map_nil, List.sum_nil]; omega) ?_
              refine TQ.backK (x.1 + 1, y.es) (by repeat (first | exact True.intro | refine And.intro rfl ?_)) (by repeat (first | exact True.intro | refine And.intro rfl ?_)) (List.Sublist.cons _ (List.Sublist.refl _)) ⟨by simp only; omega, hy.e2, (hx.2.2.more hz.2.2).skip ⟨fun _ => hz.2.2.me, fun h9 => absurd ((key2 (by omega) (by omega)).1 c1) (by have h8 := h9.1; have h7 := h9.2; omega)⟩⟩ (by simp only; omega)
        · skip
          refine TC.skip ?_
          refine TQ.thenC ?_
          refine TC.seq ?_
          refine TC.seq ?_
          refine TC.mixV [true, true, false, true, true, true, true, false, true, true, true, true, true, true, true, true] _ 16 Tb.mixed rfl (by kernel_rfl) (by kernel_rfl) (by kernel_rfl) (by kernel_rfl) (List.Sublist.refl _) ?_
          refine TV.virt 0 rfl rfl (by decide) rfl (by kernel_rfl) (SOK.pure (PV.loadBox rfl Tb.agg_95 (by repeat (first | exact List.Mem.head _ | refine List.Mem.tail _ ?_ | refine List.mem_append_right _ ?_)) rfl) rfl) ?_
          refine TV.virt 1 rfl rfl (by decide) rfl (by kernel_rfl) (SOK.pure (PV.loadBox rfl Tb.agg_90 (by repeat (first | exact List.Mem.head _ | refine List.Mem.tail _ ?_ | refine List.mem_append_right _ ?_)) rfl) rfl) ?_
          refine TV.step [2] (by kernel_rfl) (by decide) rfl ⟨⟨_, rfl, ?_⟩, trivial⟩
          refine TL.call rfl Tb.gofn_95 (fun a w hs => above_ok w (ps.getD x.1 default) (by omega)) rfl (by decide) (fun _ _ => ?_)
          refine TL.nil ?_
          refine TV.next (.inl (by repeat (first | exact List.Sublist.slnil | exact List.nil_sublist _ | exact List.Sublist.refl _ | refine List.Sublist.cons_cons _ ?_ | refine List.Sublist.cons _ ?_ | refine List.Sublist.trans ?_ (List.sublist_append_right _ _)))) ?_
          refine TV.virt 3 rfl rfl (by decide) rfl (by kernel_rfl) (SOK.pure (PV.cmp rfl rfl (eq95_guard _ _ _ _) (eq95 _ _ rfl rfl)) rfl) ?_
          refine TV.virt 4 rfl rfl (by decide) rfl (by kernel_rfl) (SOK.pure (PV.move rfl) rfl) ?_
          first | refine TV.splitD 82 rfl (fun c2 => ?_) (fun c2 => ?_) | refine TV.split 82 rfl (fun c2 => ?_) (fun c2 => ?_)
          · skip
            exact absurd c1 (by rw [key2 (by omega) (by omega)] at c2 ⊢; omega)
          · skip
            refine TV.virt 5 rfl rfl (by decide) rfl (by kernel_rfl) (SOK.skip rfl) ?_
            refine TV.virt 6 rfl rfl (by decide) rfl (by kernel_rfl) (SOK.skip rfl) ?_
            refine TV.step [7] (by kernel_rfl) (by decide) rfl ⟨⟨_, rfl, ?_⟩, trivial⟩
            refine TL.skip rfl (fun k hk => by cases hk; decide) ?_
            refine TL.nil ?_
            refine TV.next (.inl (by repeat (first | exact List.Sublist.slnil | exact List.nil_sublist _ | exact List.Sublist.refl _ | refine List.Sublist.cons_cons _ ?_ | refine List.Sublist.cons _ ?_ | refine List.Sublist.trans ?_ (List.sublist_append_right _ _)))) ?_
            refine TV.virt 8 rfl rfl (by decide) rfl (by kernel_rfl) (SOK.skip rfl) ?_
            refine TV.virt 9 rfl rfl (by decide) rfl (by kernel_rfl) (SOK.skip rfl) ?_
            refine TV.virt 10 rfl rfl (by decide) rfl (by kernel_rfl) (SOK.pure (PV.pickF rfl rfl) rfl) ?_
            refine TV.virt 11 rfl rfl (by decide) rfl (by kernel_rfl) (SOK.pure (PV.move rfl) rfl) ?_
            refine TV.virt 12 rfl rfl (by decide) rfl (by kernel_rfl) (SOK.skip rfl) ?_
            refine TV.virt 13 rfl rfl (by decide) rfl (by kernel_rfl) (SOK.skip rfl) ?_
            refine TV.virt 14 rfl rfl (by decide) rfl (by kernel_rfl) (SOK.skip rfl) ?_
            refine TV.virt 15 rfl rfl (by decide) rfl (by kernel_rfl) (SOK.pure (PV.pickF rfl rfl) rfl) ?_
            refine TV.done (by kernel_rfl) ?_
            refine TQ.thenC ?_
            refine TC.condF rfl ?_
            refine TC.skip ?_
            refine TQ.thenC ?_
            refine TC.seq ?_
            refine TC.region ?_
            refine TL.pure (PV.move rfl) rfl (by decide) ?_
            refine TL.pure (PV.gtr rfl rfl) rfl (by decide) ?_
            refine TL.nil ?_
            refine TQ.thenC ?_
            first | refine TC.condD rfl (fun hsent => ?_) (fun hsent => ?_) | refine TC.cond rfl (fun hsent => ?_) (fun hsent => ?_)
            · skip
              refine TC.seq ?_
              refine TC.region ?_
              refine TL.pure (PV.move rfl) rfl (by decide) ?_
              refine TL.pure (PV.assign rfl) rfl (by decide) ?_
              refine TL.nil ?_
              refine TQ.thenC ?_
              refine TC.ret ?_
              refine TQ.blkR ?_
              refine TQ.thenR ?_
              refine TQ.thenR ?_
              refine TQ.blkR ?_
              refine TQ.thenR ?_
              refine TQ.retE1 rfl rfl ?_
              exact absurd hsent (by decide)
            · skip
              refine TC.skip ?_
              refine TQ.blkN ?_
              refine TQ.thenC ?_
              refine TC.region ?_
              refine TL.pure (PV.add rfl rfl (by omega)) rfl (by decide) ?_
              refine TL.pure (PV.move rfl) rfl (by decide) ?_
              refine TL.nil ?_
              refine TQ.thenN ?_
              refine TQ.backK (x.1 + 1, x.2) (by repeat (first | exact True.intro | refine And.intro rfl ?_)) (by repeat (first | exact True.intro | refine And.intro rfl ?_)) (List.Sublist.cons _ (List.Sublist.refl _)) ⟨by simp only; omega, hx.2.1, hx.2.2.skip ⟨fun _ => (seen_in (by omega) (by omega)).1 (Decidable.not_not.1 hgo1), fun h9 => absurd ((key2 (by omega) (by omega)).1 c1) (by have h8 := h9.1; have h7 := h9.2; omega)⟩⟩ (by simp only; omega)
      · skip
        refine TV.virt 5 rfl rfl (by decide) rfl (by kernel_rfl) (SOK.skip rfl) ?_
        refine TV.virt 6 rfl rfl (by decide) rfl (by kernel_rfl) (SOK.skip rfl) ?_
        refine TV.step [7] (by kernel_rfl) (by decide) rfl ⟨⟨_, rfl, ?_⟩, trivial⟩
        refine TL.skip rfl (fun k hk => by cases hk; decide) ?_
        refine TL.nil ?_
        refine TV.next (.inl (by repeat (first | exact List.Sublist.slnil | exact List.nil_sublist _ | exact List.Sublist.refl _ | refine List.Sublist.cons_cons _ ?_ | refine List.Sublist.cons _ ?_ | refine List.Sublist.trans ?_ (List.sublist_append_right _ _)))) ?_
        refine TV.virt 8 rfl rfl (by decide) rfl (by kernel_rfl) (SOK.skip rfl) ?_
        refine TV.virt 9 rfl rfl (by decide) rfl (by kernel_rfl) (SOK.skip rfl) ?_
        refine TV.virt 10 rfl rfl (by decide) rfl (by kernel_rfl) (SOK.pure (PV.pickF rfl rfl) rfl) ?_
        refine TV.done (by kernel_rfl) ?_
        refine TQ.thenC ?_
        refine TC.condF rfl ?_
        refine TC.skip ?_
        refine TQ.thenC ?_
        refine TC.seq ?_
        refine TC.seq ?_
        refine TC.mixV [true, true, false, true, true, true, true, false, true, true, true, true, true, true, true, true] _ 16 Tb.mixed rfl (by kernel_rfl) (by kernel_rfl) (by kernel_rfl) (by kernel_rfl) (List.Sublist.refl _) ?_
        refine TV.virt 0 rfl rfl (by decide) rfl (by kernel_rfl) (SOK.pure (PV.loadBox rfl Tb.agg_95 (by repeat (first | exact List.Mem.head _ | refine List.Mem.tail _ ?_ | refine List.mem_append_right _ ?_)) rfl) rfl) ?_
        refine TV.virt 1 rfl rfl (by decide) rfl (by kernel_rfl) (SOK.pure (PV.loadBox rfl Tb.agg_90 (by repeat (first | exact List.Mem.head _ | refine List.Mem.tail _ ?_ | refine List.mem_append_right _ ?_)) rfl) rfl) ?_
        refine TV.step [2] (by kernel_rfl) (by decide) rfl ⟨⟨_, rfl, ?_⟩, trivial⟩
        refine TL.call rfl Tb.gofn_95 (fun a w hs => above_ok w (ps.getD x.1 default) (by omega)) rfl (by decide) (fun _ _ => ?_)
        refine TL.nil ?_
        refine TV.next (.inl (by repeat (first | exact List.Sublist.slnil | exact List.nil_sublist _ | exact List.Sublist.refl _ | refine List.Sublist.cons_cons _ ?_ | refine List.Sublist.cons _ ?_ | refine List.Sublist.trans ?_ (List.sublist_append_right _ _)))) ?_
        refine TV.virt 3 rfl rfl (by decide) rfl (by kernel_rfl) (SOK.pure (PV.cmp rfl rfl (eq95_guard _ _ _ _) (eq95 _ _ rfl rfl)) rfl) ?_
        refine TV.virt 4 rfl rfl (by decide) rfl (by kernel_rfl) (SOK.pure (PV.move rfl) rfl) ?_
        first | refine TV.splitD 82 rfl (fun c2 => ?_) (fun c2 => ?_) | refine TV.split 82 rfl (fun c2 => ?_) (fun c2 => ?_)
        · skip
          refine TV.virt 5 rfl rfl (by decide) rfl (by kernel_rfl) (SOK.pure (PV.move rfl) rfl) ?_
          refine TV.virt 6 rfl rfl (by decide) rfl (by kernel_rfl) (SOK.pure (PV.loadBox rfl Tb.agg_90 (by repeat (first | exact List.Mem.head _ | refine List.Mem.tail _ ?_ | refine List.mem_append_right _ ?_)) rfl) rfl) ?_
          refine TV.step [7] (by kernel_rfl) (by decide) rfl ⟨⟨_, rfl, ?_⟩, trivial⟩
          refine TL.call rfl Tb.gofn_94 (fun a w hs => below_ok w (ps.getD x.1 default)) rfl (by decide) (fun _ _ => ?_)
          refine TL.nil ?_
          refine TV.next (.inl (by repeat (first | exact List.Sublist.slnil | exact List.nil_sublist _ | exact List.Sublist.refl _ | refine List.Sublist.cons_cons _ ?_ | refine List.Sublist.cons _ ?_ | refine List.Sublist.trans ?_ (List.sublist_append_right _ _)))) ?_
          refine TV.virt 8 rfl rfl (by decide) rfl (by kernel_rfl) (SOK.pure (PV.lookupB key_95 mt_114 zo_4 rfl rfl rfl hxe (by repeat (first | exact List.Mem.head _ | refine List.Mem.tail _ ?_ | refine List.mem_append_right _ ?_))) rfl) ?_
          refine TV.virt 9 rfl rfl (by decide) rfl (by kernel_rfl) (SOK.pure (PV.notD rfl) rfl) ?_
          refine TV.virt 10 rfl rfl (by decide) rfl (by kernel_rfl) (SOK.pure (PV.pickT rfl rfl) rfl) ?_
          refine TV.virt 11 rfl rfl (by decide) rfl (by kernel_rfl) (SOK.pure (PV.move rfl) rfl) ?_
          first | refine TV.splitD 89 rfl (fun c3 => ?_) (fun c3 => ?_) | refine TV.split 89 rfl (fun c3 => ?_) (fun c3 => ?_)
          · skip
            refine TV.virt 12 rfl rfl (by decide) rfl (by kernel_rfl) (SOK.pure (PV.fieldAddr rfl Tb.fo_90_3) rfl) ?_
            refine TV.virt 13 rfl rfl (by decide) rfl (by kernel_rfl) (SOK.pure (PV.load rfl Tb.one_3 (by repeat (first | exact List.Mem.head _ | refine List.Mem.tail _ ?_ | refine List.mem_append_right _ ?_)) rfl) rfl) ?_
            refine TV.virt 14 rfl rfl (by decide) rfl (by kernel_rfl) (SOK.pure (PV.gtr rfl rfl) rfl) ?_
            refine TV.virt 15 rfl rfl (by decide) rfl (by kernel_rfl) (SOK.pure (PV.pickT rfl rfl) rfl) ?_
            refine TV.done (by kernel_rfl) ?_
            refine TQ.thenC ?_
            first | refine TC.condD rfl (fun hgo2 => ?_) (fun hgo2 => ?_) | refine TC.cond rfl (fun hgo2 => ?_) (fun hgo2 => ?_)
            · skip
              refine TC.seq ?_
              refine TC.mixV [true, true, false, true, true, true, true, true, false, true] [(bQ, Obj.cells (rP.cells (ps.getD x.1 default)).toArray 90 (0, 0)), (b0, Obj.cells (intsA [(c0 : Int), (j0 : Int)]) 95 (0, 0))] 10 Tb.mixed rfl (by kernel_rfl) (by kernel_rfl) (by kernel_rfl) (by kernel_rfl) (by repeat (first | exact List.Sublist.slnil | exact List.nil_sublist _ | exact List.Sublist.refl _ | refine List.Sublist.cons_cons _ ?_ | refine List.Sublist.cons _ ?_ | refine List.Sublist.trans ?_ (List.sublist_append_right _ _))) ?_
              refine TV.virt 0 rfl rfl (by decide) rfl (by kernel_rfl) (SOK.pure (PV.move rfl) rfl) ?_
              refine TV.virt 1 rfl rfl (by decide) rfl (by kernel_rfl) (SOK.pure (PV.loadBox rfl Tb.agg_90 (by repeat (first | exact List.Mem.head _ | refine List.Mem.tail _ ?_ | refine List.mem_append_right _ ?_)) rfl) rfl) ?_
              refine TV.virt 3 rfl rfl (by decide) rfl (by kernel_rfl) (SOK.pure (PV.move rfl) rfl) ?_
              refine TV.virt 4 rfl rfl (by decide) rfl (by kernel_rfl) (SOK.pure (PV.fieldAddr rfl Tb.fo_90_3) rfl) ?_
              refine TV.virt 5 rfl rfl (by decide) rfl (by kernel_rfl) (SOK.pure (PV.load rfl Tb.one_3 (by repeat (first | exact List.Mem.head _ | refine List.Mem.tail _ ?_ | refine List.mem_append_right _ ?_)) rfl) rfl) ?_
              refine TV.virt 6 rfl rfl (by decide) rfl (by kernel_rfl) (SOK.pure (PV.min rfl rfl Tb.int_3) rfl) ?_
              refine TV.virt 7 rfl rfl (by decide) rfl (by kernel_rfl) (SOK.pure (PV.move rfl) rfl) ?_
              refine TV.step [2] (by kernel_rfl) (by decide) rfl ⟨⟨_, rfl, ?_⟩, trivial⟩
              refine TL.call rfl Tb.gofn_94 (fun a w hs => below_ok w (ps.getD x.1 default)) rfl (by decide) (fun _ _ => ?_)
              refine TL.nil ?_
              refine TV.next (.inl (by repeat (first | exact List.Sublist.slnil | exact List.nil_sublist _ | exact List.Sublist.refl _ | refine List.Sublist.cons_cons _ ?_ | refine List.Sublist.cons _ ?_ | refine List.Sublist.trans ?_ (List.sublist_append_right _ _)))) ?_
              refine TV.step [8] (by kernel_rfl) (by decide) rfl ⟨⟨_, rfl, ?_⟩, trivial⟩
              refine TL.callW (X := SX) (fun z => .int .i64 z.s) (SRes ls ((ps.getD x.1 default).c).toNat ((ps.getD x.1 default).h).toNat (min most (ps.getD x.1 default).a) x.2 ps m) (fun z => GS bP bM bS hp ls N ([(bQ, Obj.cells (rP.cells (ps.getD x.1 default)).toArray 90 (0, 0)), (b0, Obj.cells (intsA [(c0 : Int), (j0 : Int)]) 95 (0, 0))] ++ T) z.ps z.m z.es) rfl Tb.gofn_106 (fun a w hs => rec_send (B := [(bQ, Obj.cells (rP.cells (ps.getD x.1 default)).toArray 90 (0, 0)), (b0, Obj.cells (intsA [(c0 : Int), (j0 : Int)]) 95 (0, 0))]) ih (c1 := (ps.getD x.1 default).c) (j1 := (ps.getD x.1 default).h) (⟨hvb, hpl, h60, hpre.at_, hsh, hxe, by omega, by omega, Bool.eq_false_iff.2 fun h9 => c3 ((seen_in (by omega) (by omega)).2 h9), ⟨by omega, by omega⟩⟩) (by omega) (by omega) (by have h9 := unB_lt hc0 hj0 hx.2.2.sub hpre.un hx.2.2.me; omega) hok hs.new) rfl (by decide) (fun y hy => ?_)
              refine TL.nil ?_
              refine TV.next (.inl (by repeat (first | exact List.Sublist.slnil | exact List.nil_sublist _ | exact List.Sublist.refl _ | refine List.Sublist.cons_cons _ ?_ | refine List.Sublist.cons _ ?_ | refine List.Sublist.trans ?_ (List.sublist_append_right _ _)))) ?_
              refine TV.virt 9 rfl rfl (by decide) rfl (by kernel_rfl) (SOK.pure (PV.assign rfl) rfl) ?_
              refine TV.done (by kernel_rfl) ?_
              refine TQ.thenC ?_
              have hoky : goR rP hp y.ps := goR_len hok hy.len
              have hgly : gok hp N 4 (rcs rP y.ps) := by have h9 := hoky; unfold goR at h9; rw [hy.len, hpl] at h9; exact h9
              have hyl : y.ps.length = N := hy.len.trans hpl
              have hya := hy.amt (k := x.1) (by omega) ⟨ha0, ha6⟩ (by omega)
              have hys := hy.s0
              refine TC.region ?_
              refine TL.pure (PV.move rfl) rfl (by decide) ?_
              refine TL.pure (PV.nilCheck rfl) rfl (by decide) ?_
              refine TL.pure (PV.fieldAddr rfl Tb.fo_99_0) rfl (by decide) ?_
              refine TL.pure (PV.load rfl Tb.one_55 (by repeat (first | exact List.Mem.head _ | refine List.Mem.tail _ ?_ | refine List.mem_append_right _ ?_)) rfl) rfl (by decide) ?_
              refine TL.pure (PV.move rfl) rfl (by decide) ?_
              refine TL.pure (PV.indexG (h := hp) (len := N) (j := x.1) rfl rfl hgly Tb.elm_55 rfl (by omega)) rfl (by decide) ?_
              refine TL.pure (PV.fieldAddr rfl Tb.fo_90_3) rfl (by decide) ?_
              refine TL.pure (PV.loadRecF (R := rP) (h := hp) (l := y.ps) (j := x.1) (f := 3) rfl Tb.one_3 (by intro y9 hy9; repeat (first | exact hy9 | exact List.mem_append_left _ hy9 | refine List.mem_append_right _ ?_ | refine List.Mem.tail _ ?_)) hoky (by omega) (by decide) rfl) rfl (by decide) ?_
              refine TL.pure (PV.move rfl) rfl (by decide) ?_
              refine TL.pure (PV.sub rfl rfl (by omega)) rfl (by decide) ?_
              refine TL.pure (PV.indexG (h := hp) (len := N) (j := x.1) rfl rfl hgly Tb.elm_55 rfl (by omega)) rfl (by decide) ?_
              refine TL.pure (PV.fieldAddr rfl Tb.fo_90_3) rfl (by decide) ?_
              refine TL.putCell (R := rP) (h := hp) (l0 := y.ps) (j := x.1) (f := 3) (r := { (y.ps.getD x.1 default) with a := (y.ps.getD x.1 default).a - y.s }) rfl rfl Tb.cells_3 rfl hoky rfl (by repeat (first | exact PutH.here _ _ _ _ | apply PutH.tail | apply PutH.app)) (by omega) (by decide) rfl rfl ?_
              refine TL.nil ?_
              refine TQ.thenC ?_
              refine TC.seq ?_
              refine TC.region ?_
              refine TL.pure (PV.move rfl) rfl (by decide) ?_
              refine TL.pure (PV.gtr rfl rfl) rfl (by decide) ?_
              refine TL.nil ?_
              refine TQ.thenC ?_
              first | refine TC.condD rfl (fun hsent => ?_) (fun hsent => ?_) | refine TC.cond rfl (fun hsent => ?_) (fun hsent => ?_)
              · skip
                refine TC.seq ?_
                refine TC.region ?_
                refine TL.pure (PV.move rfl) rfl (by decide) ?_
                refine TL.pure (PV.assign rfl) rfl (by decide) ?_
                refine TL.nil ?_
                refine TQ.thenC ?_
                refine TC.ret ?_
                refine TQ.blkR ?_
                refine TQ.thenR ?_
                refine TQ.thenR ?_
                refine TQ.blkR ?_
                refine TQ.thenR ?_
                refine TQ.retE1 rfl rfl ?_
                exact ⟨⟨y.s, (y.ps.set x.1 { (y.ps.getD x.1 default) with a := (y.ps.getD x.1 default).a - y.s }), y.m, y.es⟩, rfl, ⟨⟨hys.1, by simp only; omega⟩, hy.e2, by rw [List.length_set]; exact hy.len, fun h9 => absurd h9 (by simp only; omega), fun h9 => by simp only [Int.sub_eq_add_neg]; exact PSent.step (hy.pos h9) (by omega) h9 hx.2.2.sub hx.2.2.me hpre.un (seen_not hx.2.2.sub (by omega) (by omega) c3) (.inr ⟨(key2 (by omega) (by omega)).1 c2, ⟨rfl, rfl⟩, rfl, by omega⟩) ha0⟩, (.cons_cons _ (.cons_cons _ (.cons_cons _ (List.Sublist.append_left (List.sublist_append_right _ _) _))))⟩
              · skip
                have hz := hy.zero (by omega)
                have hps : (y.ps.set x.1 { (y.ps.getD x.1 default) with a := (y.ps.getD x.1 default).a - y.s }) = ps := by rw [show y.s = 0 from by omega, hz.1]; simp only [Int.sub_zero]; exact set_zero0 (by omega)
                rw [hps, hz.2.1]
                refine TC.skip ?_
                refine TQ.blkN ?_
                refine TQ.thenC ?_
                refine TC.region ?_
                refine TL.pure (PV.add rfl rfl (by omega)) rfl (by decide) ?_
                refine TL.pure (PV.move rfl) rfl (by decide) ?_
                refine TL.nil ?_
                refine TQ.thenN ?_
                refine TQ.perm (G' := (bQ, Obj.cells (rP.cells (ps.getD x.1 default)).toArray 90 (0, 0)) :: (b0, Obj.cells (intsA [(c0 : Int), (j0 : Int)]) 95 (0, 0)) :: GS bP bM bS hp ls N (T) (ps) (m) (y.es)) (perm_of fun c9 => by simp only [gbR, List.map_append, List.sum_append, List.map_cons, List.sum_cons, List.map_nil, List.sum_nil]; omega) ?_
                refine TQ.backK (x.1 + 1, y.es) (by repeat (first | exact True.intro | refine And.intro rfl ?_)) (by repeat (first | exact True.intro | refine And.intro rfl ?_)) (List.Sublist.cons _ (List.Sublist.refl _)) ⟨by simp only; omega, hy.e2, (hx.2.2.more hz.2.2).skip ⟨fun h9 => absurd ((key2 (by omega) (by omega)).1 c2) (by have h8 := h9.1; have h7 := h9.2; omega), fun _ _ => hz.2.2.me⟩⟩ (by simp only; omega)
            · skip
              refine TC.skip ?_
              refine TQ.thenC ?_
              refine TC.seq ?_
              refine TC.region ?_
              refine TL.pure (PV.move rfl) rfl (by decide) ?_
              refine TL.pure (PV.gtr rfl rfl) rfl (by decide) ?_
              refine TL.nil ?_
              refine TQ.thenC ?_
              first | refine TC.condD rfl (fun hsent => ?_) (fun hsent => ?_) | refine TC.cond rfl (fun hsent => ?_) (fun hsent => ?_)
              · skip
                refine TC.seq ?_
                refine TC.region ?_
                refine TL.pure (PV.move rfl) rfl (by decide) ?_
                refine TL.pure (PV.assign rfl) rfl (by decide) ?_
                refine TL.nil ?_
                refine TQ.thenC ?_
                refine TC.ret ?_
                refine TQ.blkR ?_
                refine TQ.thenR ?_
                refine TQ.thenR ?_
                refine TQ.blkR ?_
                refine TQ.thenR ?_
                refine TQ.retE1 rfl rfl ?_
                exact absurd hsent (by decide)
              · skip
                refine TC.skip ?_
                refine TQ.blkN ?_
                refine TQ.thenC ?_
                refine TC.region ?_
                refine TL.pure (PV.add rfl rfl (by omega)) rfl (by decide) ?_
                refine TL.pure (PV.move rfl) rfl (by decide) ?_
                refine TL.nil ?_
                refine TQ.thenN ?_
                refine TQ.backK (x.1 + 1, x.2) (by repeat (first | exact True.intro | refine And.intro rfl ?_)) (by repeat (first | exact True.intro | refine And.intro rfl ?_)) (List.Sublist.cons _ (List.Sublist.refl _)) ⟨by simp only; omega, hx.2.1, hx.2.2.skip ⟨fun h9 => absurd ((key2 (by omega) (by omega)).1 c2) (by have h8 := h9.1; have h7 := h9.2; omega), fun _ h8 => absurd h8 hgo2⟩⟩ (by simp only; omega)
          · skip
            refine TV.virt 12 rfl rfl (by decide) rfl (by kernel_rfl) (SOK.skip rfl) ?_
            refine TV.virt 13 rfl rfl (by decide) rfl (by kernel_rfl) (SOK.skip rfl) ?_
            refine TV.virt 14 rfl rfl (by decide) rfl (by kernel_rfl) (SOK.skip rfl) ?_
            refine TV.virt 15 rfl rfl (by decide) rfl (by kernel_rfl) (SOK.pure (PV.pickF rfl rfl) rfl) ?_
            refine TV.done (by kernel_rfl) ?_
            refine TQ.thenC ?_
            refine TC.condF rfl ?_
            refine TC.skip ?_
            refine TQ.thenC ?_
            refine TC.seq ?_
            refine TC.region ?_
            refine TL.pure (PV.move rfl) rfl (by decide) ?_
            refine TL.pure (PV.gtr rfl rfl) rfl (by decide) ?_
            refine TL.nil ?_
            refine TQ.thenC ?_
            first | refine TC.condD rfl (fun hsent => ?_) (fun hsent => ?_) | refine TC.cond rfl (fun hsent => ?_) (fun hsent => ?_)
            · skip
              refine TC.seq ?_
              refine TC.region ?_
              refine TL.pure (PV.move rfl) rfl (by decide) ?_
              refine TL.pure (PV.assign rfl) rfl (by decide) ?_
              refine TL.nil ?_
              refine TQ.thenC ?_
              refine TC.ret ?_
              refine TQ.blkR ?_
              refine TQ.thenR ?_
              refine TQ.thenR ?_
              refine TQ.blkR ?_
              refine TQ.thenR ?_
              refine TQ.retE1 rfl rfl ?_
              exact absurd hsent (by decide)
            · skip
              refine TC.skip ?_
              refine TQ.blkN ?_
              refine TQ.thenC ?_
              refine TC.region ?_
              refine TL.pure (PV.add rfl rfl (by omega)) rfl (by decide) ?_
              refine TL.pure (PV.move rfl) rfl (by decide) ?_
              refine TL.nil ?_
              refine TQ.thenN ?_
              refine TQ.backK (x.1 + 1, x.2) (by repeat (first | exact True.intro | refine And.intro rfl ?_)) (by repeat (first | exact True.intro | refine And.intro rfl ?_)) (List.Sublist.cons _ (List.Sublist.refl _)) ⟨by simp only; omega, hx.2.1, hx.2.2.skip ⟨fun h9 => absurd ((key2 (by omega) (by omega)).1 c2) (by have h8 := h9.1; have h7 := h9.2; omega), fun _ _ => (seen_in (by omega) (by omega)).1 (Decidable.not_not.1 c3)⟩⟩ (by simp only; omega)
        · skip
          refine TV.virt 5 rfl rfl (by decide) rfl (by kernel_rfl) (SOK.skip rfl) ?_
          refine TV.virt 6 rfl rfl (by decide) rfl (by kernel_rfl) (SOK.skip rfl) ?_
          refine TV.step [7] (by kernel_rfl) (by decide) rfl ⟨⟨_, rfl, ?_⟩, trivial⟩
          refine TL.skip rfl (fun k hk => by cases hk; decide) ?_
          refine TL.nil ?_
          refine TV.next (.inl (by repeat (first | exact List.Sublist.slnil | exact List.nil_sublist _ | exact List.Sublist.refl _ | refine List.Sublist.cons_cons _ ?_ | refine List.Sublist.cons _ ?_ | refine List.Sublist.trans ?_ (List.sublist_append_right _ _)))) ?_
          refine TV.virt 8 rfl rfl (by decide) rfl (by kernel_rfl) (SOK.skip rfl) ?_
          refine TV.virt 9 rfl rfl (by decide) rfl (by kernel_rfl) (SOK.skip rfl) ?_
          refine TV.virt 10 rfl rfl (by decide) rfl (by kernel_rfl) (SOK.pure (PV.pickF rfl rfl) rfl) ?_
          refine TV.virt 11 rfl rfl (by decide) rfl (by kernel_rfl) (SOK.pure (PV.move rfl) rfl) ?_
          refine TV.virt 12 rfl rfl (by decide) rfl (by kernel_rfl) (SOK.skip rfl) ?_
          refine TV.virt 13 rfl rfl (by decide) rfl (by kernel_rfl) (SOK.skip rfl) ?_
          refine TV.virt 14 rfl rfl (by decide) rfl (by kernel_rfl) (SOK.skip rfl) ?_
          refine TV.virt 15 rfl rfl (by decide) rfl (by kernel_rfl) (SOK.pure (PV.pickF rfl rfl) rfl) ?_
          refine TV.done (by kernel_rfl) ?_
          refine TQ.thenC ?_
          refine TC.condF rfl ?_
          refine TC.skip ?_
          refine TQ.thenC ?_
          refine TC.seq ?_
          refine TC.region ?_
          refine TL.pure (PV.move rfl) rfl (by decide) ?_
          refine TL.pure (PV.gtr rfl rfl) rfl (by decide) ?_
          refine TL.nil ?_
          refine TQ.thenC ?_
          first | refine TC.condD rfl (fun hsent => ?_) (fun hsent => ?_) | refine TC.cond rfl (fun hsent => ?_) (fun hsent => ?_)
          · skip
            refine TC.seq ?_
            refine TC.region ?_
            refine TL.pure (PV.move rfl) rfl (by decide) ?_
            refine TL.pure (PV.assign rfl) rfl (by decide) ?_
            refine TL.nil ?_
            refine TQ.thenC ?_
            refine TC.ret ?_
            refine TQ.blkR ?_
            refine TQ.thenR ?_
            refine TQ.thenR ?_
            refine TQ.blkR ?_
            refine TQ.thenR ?_
            refine TQ.retE1 rfl rfl ?_
            exact absurd hsent (by decide)
          · skip
            refine TC.skip ?_
            refine TQ.blkN ?_
            refine TQ.thenC ?_
            refine TC.region ?_
            refine TL.pure (PV.add rfl rfl (by omega)) rfl (by decide) ?_
            refine TL.pure (PV.move rfl) rfl (by decide) ?_
            refine TL.nil ?_
            refine TQ.thenN ?_
            refine TQ.backK (x.1 + 1, x.2) (by repeat (first | exact True.intro | refine And.intro rfl ?_)) (by repeat (first | exact True.intro | refine And.intro rfl ?_)) (List.Sublist.cons _ (List.Sublist.refl _)) ⟨by simp only; omega, hx.2.1, hx.2.2.skip ⟨fun h9 => absurd ((key2 (by omega) (by omega)).2 h9) c1, fun h9 _ => absurd ((key2 (by omega) (by omega)).2 h9) c2⟩⟩ (by simp only; omega)
    · skip
      refine TC.exit ?_
      refine TQ.thenE ?_
      refine TQ.thenE ?_
      refine TQ.blkS ?_
      refine TQ.thenC ?_
      refine TC.seq ?_
      refine TC.region ?_
      refine TL.pure (PV.assign rfl) rfl (by decide) ?_
      refine TL.nil ?_
      refine TQ.thenC ?_
      refine TC.ret ?_
      refine TQ.retE1 rfl rfl ?_
      exact ⟨⟨0, ps, m, x.2⟩, rfl, ⟨⟨Int.le_refl _, by simp only; omega⟩, hx.2.1, rfl, fun _ => ⟨rfl, rfl, by have h9 := hx.2.2; rw [show x.1 = ps.length from by omega] at h9; exact h9.done⟩, fun h9 => absurd h9 (by simp only; omega)⟩, List.Sublist.cons _ (List.Sublist.refl _)⟩

end Go.Proofs.Ytfgjojoipbbacaa

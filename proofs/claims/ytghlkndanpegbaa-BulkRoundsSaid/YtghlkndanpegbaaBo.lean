/- Whether a plan is a best one, rounds, proofs, and the chapter's example: contracts. -/
import Derived.Test.YtghlkndanpegbaaBn
set_option linter.unusedVariables false
set_option linter.unusedSimpArgs false
namespace Go.Proofs.Ytghlkndanpegbaa
open Go.Sx Go.RowKit Go.Sand Go.Tp

theorem impAlong {n : Nat} {w0 : World} {E : Env} {G : Heap} {ty : TypeId} {pos : String} {aft : Array Edge} {g : Option (Nat × Bool)} {ops : Array Oper} {Q : Exit → Act → World → Prop} {l : List Oper} {d k : Nat} {x : Operand} {ats : Array TypeId} {t : Td} {m : List (List Int)} {vg : Value} {z : Imp}
    (hz : Sx.look k E = some z.val) (hx : evs E [x] = some [vg]) (hg : ∀ a w, S n w0 E G a w → IsG w vg m) (hp : VP t m) (hok : Imp.ok t.s.length t.d.length (getM t.c) (getM m) z) (hm : ∀ y ∈ z.D, y ∈ G) (hgd : wants ops E g = some true) (hd : d < n)
    (h : ∀ y : (Value × Heap) × Int, (y.2 = 0 ↔ z.isSh = false) → TL Try.prog n w0 ops Q l ((d, .tuple #[y.1.1, .int .i64 y.2]) :: E) (y.1.2 ++ G)) :
    TL Try.prog n w0 ops Q (⟨some d, .call { callee := .invoke (.tmp k) "turbary/bulk.along", args := [x].toArray, argTypes := ats }, ty, pos, aft, g⟩ :: l) E G := by
  have hns := hp.ns
  have hnd := hp.nd
  cases z with
  | pr hu hv us vs =>
    obtain ⟨h1, h2, h3⟩ := hok
    refine TL.callI (t := 96) (f := 127) (X := Value × Heap) (fun y => .tuple #[y.1, .int .i64 0]) (fun y => RdG m y) (fun y => y.2) hz hx meth_96 nop_96 Tb.gofn_127 (fun a w hs => ?_) hgd hd (fun y _ => h (y, 0) (by simp [Imp.isSh]))
    have hP : IsP w (.agg #[gval hu us.length, gval hv vs.length]) us vs := by
      rw [gval_eq h1, gval_eq h2]
      exact IsP.mk (IntsAt.g (x := (hu, us)) hs.new (fun y hy => hm y (List.mem_append_right _ hy)) h1) (IntsAt.g (x := (hv, vs)) hs.new (fun y hy => hm y (List.mem_append_left _ hy)) h2)
    exact stay_ok w _ us vs hP vg m (hg a w hs) (hp.g.sm (by omega) (by omega))
  | sh h9 l9 =>
    obtain ⟨h1, g9, hg9⟩ := hok
    have hst := (step_vp hp hg9).1
    refine TL.callI (t := 82) (f := 76) (X := Value × Heap) (fun y => .tuple #[y.1, .int .i64 (amt (getM m) g9 l9.length)]) (fun y => RdG (aloT t.s.length t.d.length m l9.length g9) y) (fun y => y.2) hz hx meth_82 nop_82 Tb.gofn_76 (fun a w hs => ?_) hgd hd (fun y _ => h (y, amt (getM m) g9 l9.length) (by simp only [Imp.isSh]; constructor <;> intro h <;> first | omega | cases h))
    rw [gval_eq h1]
    exact along_ok w (gp h9) (gc h9) l9.length g9 (by rw [← hg9.e]; exact RecsAt.s hs.new hm h1) hg9.l8 vg m (hg a w hs) t.s.length t.d.length hp.g (by omega) (by omega) hg9.r.bd
theorem imp_best {t : Td} {m : List (List Int)} {z : Imp} (hp : VP t m) (hok : Imp.ok t.s.length t.d.length (getM t.c) (getM m) z) (hm : ∃ n, MnT t n) : z.isSh = false ↔ costI t m = mnI t := by
  have hmn : MnT t (mnI t) := by obtain ⟨n, h⟩ := hm; rw [mn_eq h]; exact h
  cases z with
  | pr hu hv us vs =>
    exact ⟨fun _ => (mn_eq (best_mn hp hok.2.2)).symm, fun _ => rfl⟩
  | sh h9 l9 =>
    obtain ⟨h1, g9, hg9⟩ := hok
    exact ⟨fun h => (by cases h), fun h => absurd h (not_best hp hg9 hmn)⟩
def exT : Td := ⟨[3, 4], [5, 2], [[1, 2], [3, 1]]⟩
theorem ex_v : VT exT := vt_of (by decide +kernel)
theorem ex_c : cnrR exT = ([[3, 0], [2, 2]], 0) := by decide +kernel
theorem ex_p : VP exT [[3, 0], [2, 2]] := vp_of (by decide +kernel)
theorem ex_chk : chkP exT [1, 3] [0, -2] = 0 := chk_0 (by decide +kernel) (by decide +kernel) (by decide +kernel) (by decide +kernel)
theorem ex_m : mnI exT = 11 := mn_eq (Mn.of2 (u := fun i => [(1 : Int), 3].getD i 0) (v := fun j => [(0 : Int), -2].getD j 0) ex_p.pl (vpr_of (by rw [ex_chk]; decide)).hon (by decide +kernel) (by decide +kernel))
theorem ex_l : lstR exT = (11, 0) := by unfold lstR; rw [if_neg (by rw [ex_v.v]; decide), ex_m]
theorem ex_w : wthR exT [1, 3] [0, -2] = (11, 0) := by unfold wthR; rw [if_neg (by rw [ex_chk]; decide)]; decide +kernel
theorem ints2 {w0 w : World} {G : Heap} {b : Nat} {x y : Int} (hn : New w0 w G) (hm : (b, Obj.cells #[.int .i64 x, .int .i64 y] 3 (0, 0)) ∈ G) : IntsAt w (some ⟨b, 0, none⟩) [x, y] := IntsAt.arr (xs := [x, y]) hn (by simpa [intsA] using hm)
theorem ex_t {w0 w : World} {G : Heap} {a b c d e : Nat} (hn : New w0 w G) (h1 : (a, Obj.cells #[.int .i64 3, .int .i64 4] 3 (0, 0)) ∈ G) (h2 : (b, Obj.cells #[.int .i64 5, .int .i64 2] 3 (0, 0)) ∈ G) (h3 : (c, Obj.cells #[.int .i64 1, .int .i64 2] 3 (0, 0)) ∈ G) (h4 : (d, Obj.cells #[.int .i64 3, .int .i64 1] 3 (0, 0)) ∈ G) (h5 : (e, Obj.cells #[.slice (some ⟨c, 0, none⟩) 2 2, .slice (some ⟨d, 0, none⟩) 2 2] 22 (0, 0)) ∈ G) :
    IsT w (.agg #[.slice (some ⟨a, 0, none⟩) 2 2, .slice (some ⟨b, 0, none⟩) 2 2, .slice (some ⟨e, 0, none⟩) 2 2]) exT :=
  IsT.mk (t := exT) (ints2 hn h1) (ints2 hn h2) (LsAt.two (xs := [1, 2]) (ys := [3, 1]) hn h5 (ints2 hn h3) (ints2 hn h4))
theorem ex_g {w0 w : World} {G : Heap} {c d e : Nat} (hn : New w0 w G) (h3 : (c, Obj.cells #[.int .i64 3, .int .i64 0] 3 (0, 0)) ∈ G) (h4 : (d, Obj.cells #[.int .i64 2, .int .i64 2] 3 (0, 0)) ∈ G) (h5 : (e, Obj.cells #[.slice (some ⟨c, 0, none⟩) 2 2, .slice (some ⟨d, 0, none⟩) 2 2] 22 (0, 0)) ∈ G) :
    IsG w (.slice (some ⟨e, 0, none⟩) 2 2) [[3, 0], [2, 2]] := IsG.of (m := [[3, 0], [2, 2]]) (LsAt.two (xs := [3, 0]) (ys := [2, 2]) hn h5 (ints2 hn h3) (ints2 hn h4))
theorem ex_pr {w0 w : World} {G : Heap} {a b : Nat} (hn : New w0 w G) (h1 : (a, Obj.cells #[.int .i64 1, .int .i64 3] 3 (0, 0)) ∈ G) (h2 : (b, Obj.cells #[.int .i64 0, .int .i64 (-2)] 3 (0, 0)) ∈ G) : IsP w (.agg #[.slice (some ⟨a, 0, none⟩) 2 2, .slice (some ⟨b, 0, none⟩) 2 2]) [1, 3] [0, -2] := IsP.mk (us := [1, 3]) (vs := [0, -2]) (ints2 hn h1) (ints2 hn h2)
theorem fill_2 (a b : Int) : Instr.fill (fun i => some (i * 1, 1)) ((Array.range (2 * 1)).map ((Value.int .i64 0).cells[· % (Value.int .i64 0).cells.size]!)) [(0, .int .i64 a), (1, .int .i64 b)] = some #[.int .i64 a, .int .i64 b] := by kernel_rfl
theorem fill_td (x y z : Option Addr) (a b c d e f : Nat) : Instr.fill ([(0, 1), (1, 1), (2, 1)][·]?) #[.slice none 0 0, .slice none 0 0, .slice none 0 0] [(0, .slice x a b), (1, .slice y c d), (2, .slice z e f)] = some #[.slice x a b, .slice y c d, .slice z e f] := by kernel_rfl
theorem fill_ps (x y : Option Addr) (a b c d : Nat) : Instr.fill ([(0, 1), (1, 1)][·]?) #[.slice none 0 0, .slice none 0 0] [(0, .slice x a b), (1, .slice y c d)] = some #[.slice x a b, .slice y c d] := by kernel_rfl
theorem ex_sm : SmT exT := ⟨by decide, by decide, by decide, fun k => by
  match k with
  | 0 => decide
  | 1 => decide
  | k + 2 => simp [exT, List.getD]⟩
theorem ex_smg : SmG [[3, 0], [2, 2]] := ⟨by decide, fun k => by
  match k with
  | 0 => decide
  | 1 => decide
  | k + 2 => simp [List.getD]⟩
theorem phB_row {S B k : Nat} {c x : Mat} (hc : ∀ i j, i < S → j < B → 0 ≤ c i j ∧ c i j ≤ 99) {i : Nat} (hi : i < S) : ∀ (n j : Nat) (s : LS), j + n = B → PhB S B c x k (lex i j) s → ∃ s', PhB S B c x k (lex i B) s'
  | 0, j, s, e, h => ⟨s, by rw [show B = j by omega] at h ⊢; exact h⟩
  | n + 1, j, s, e, h => by
    by_cases hl : s.a i + c i j < s.b j
    · exact phB_row hc hi n (j + 1) _ (by omega) (h.step hc hi (by omega) hl)
    · exact phB_row hc hi n (j + 1) s (by omega) (h.skip hl)
theorem phB_all {S B k : Nat} {c x : Mat} (hc : ∀ i j, i < S → j < B → 0 ≤ c i j ∧ c i j ≤ 99) : ∀ (n i : Nat) (s : LS), i + n = S → PhB S B c x k (lex i 0) s → ∃ s', PhS S B c x k (lex 0 0) (-1) s'
  | 0, i, s, e, h => ⟨s, h.fin (by omega)⟩
  | n + 1, i, s, e, h => by
    obtain ⟨s', h'⟩ := phB_row hc (show i < S by omega) B 0 s (by omega) h
    exact phB_all hc n (i + 1) s' (by omega) (h'.next (Nat.le_refl _))
theorem phS_row {S B k : Nat} {c x : Mat} (hc : ∀ i j, i < S → j < B → 0 ≤ c i j ∧ c i j ≤ 99) {i : Nat} (hi : i < S) : ∀ (n j : Nat) (low : Int) (s : LS), j + n = B → PhS S B c x k (lex i j) low s → ∃ low' s', PhS S B c x k (lex i B) low' s'
  | 0, j, low, s, e, h => ⟨low, s, by rw [show B = j by omega] at h ⊢; exact h⟩
  | n + 1, j, low, s, e, h => by
    by_cases hl : 0 < x i j ∧ s.b j - c i j < s.a i
    · exact phS_row hc hi n (j + 1) _ _ (by omega) (h.step hc hi (by omega) hl.1 hl.2)
    · exact phS_row hc hi n (j + 1) low s (by omega) (h.skip hl)
theorem phS_all {S B k : Nat} {c x : Mat} (hc : ∀ i j, i < S → j < B → 0 ≤ c i j ∧ c i j ≤ 99) : ∀ (n i : Nat) (low : Int) (s : LS), i + n = S → PhS S B c x k (lex i 0) low s → ∃ low' s', PhS S B c x k (lex S 0) low' s'
  | 0, i, low, s, e, h => ⟨low, s, by rw [show S = i by omega] at h ⊢; exact h⟩
  | n + 1, i, low, s, e, h => by
    obtain ⟨low', s', h'⟩ := phS_row hc (show i < S by omega) B 0 low s (by omega) h
    exact phS_all hc n (i + 1) low' s' (by omega) (h'.next (Nat.le_refl _))
theorem imp_any {S B : Nat} {c x : Mat} (hc : ∀ i j, i < S → j < B → 0 ≤ c i j ∧ c i j ≤ 99) (hS : 1 ≤ S ∧ S ≤ 4) : ∀ k, k ≤ S → (∃ us vs, GdP S B c x us vs) ∨ ∃ s, PhB S B c x k (lex 0 0) s ∧ (0 < k → ∃ i, i < S ∧ s.ta i = k)
  | 0, _ => .inr ⟨s0, PhB.zero hc _ _, fun h => absurd h (Nat.lt_irrefl _)⟩
  | k + 1, hk => by
    rcases imp_any hc hS k (by omega) with h | ⟨s, h, _⟩
    · exact .inl h
    · obtain ⟨s1, h1⟩ := phB_all hc S 0 s (by omega) h
      obtain ⟨low, s2, h2⟩ := phS_all hc S 0 (-1) s1 (by omega) h1
      by_cases hl : low < 0
      · exact .inl ⟨_, _, gdP_of h2 (Nat.le_refl _) hl (by omega)⟩
      · refine .inr ⟨s2, h2.fin (Nat.le_refl _), fun _ => ?_⟩
        rcases h2.lw with h3 | ⟨i, _, h4, h5⟩
        · have := h3.1; omega
        · exact ⟨i, h4, h5⟩
theorem imp_ex {t : Td} (h : VT t) (x : Mat) : (∃ us vs, GdP t.s.length t.d.length (getM t.c) x us vs) ∨ ∃ l g, GdR t.s.length t.d.length (getM t.c) x l g := by
  have hns := h.ns
  rcases imp_any (x := x) h.cb hns t.s.length (Nat.le_refl _) with h1 | ⟨s, h1, h2⟩
  · exact .inl h1
  · obtain ⟨i, hi, ht⟩ := h2 (by omega)
    obtain ⟨L, hL⟩ := h1.toInv.cyc hi (by omega)
    exact .inr ⟨_, _, gdR_of hL hns.2⟩
theorem mn_from {t : Td} (h : VT t) : ∀ (n : Nat) (m : List (List Int)), VP t m → costI t m ≤ n → ∃ k, MnT t k
  | 0, m, hp, hc => by
    rcases imp_ex h (getM m) with ⟨us, vs, hg⟩ | ⟨l, g, hg⟩
    · exact ⟨_, best_mn hp hg⟩
    · obtain ⟨_, h1, h2⟩ := step_vp hp hg
      have := cost_nn h1
      omega
  | n + 1, m, hp, hc => by
    rcases imp_ex h (getM m) with ⟨us, vs, hg⟩ | ⟨l, g, hg⟩
    · exact ⟨_, best_mn hp hg⟩
    · obtain ⟨_, h1, h2⟩ := step_vp hp hg
      exact mn_from h n _ h1 (by omega)
theorem mn_any {t : Td} (h : VT t) : ∃ n, MnT t n := mn_from h (costI t (cornT t)).toNat (cornT t) (cornT_vp h) (by have := cost_nn (cornT_vp h); omega)
theorem mn_is {t : Td} (h : VT t) : MnT t (mnI t) := by
  obtain ⟨n, hn⟩ := mn_any h
  rw [mn_eq hn]
  exact hn


set_option maxRecDepth 100000 in
set_option maxHeartbeats 2000000 in
theorem sane_ok (w0 : World) :
    Calls Try.prog 18 #[] w0 (Post (X := Unit) (fun _ => .bool true) (fun _ => True) (fun _ => []) w0) := by
  refine calls Try.func18 rfl (n := 57) rfl (by simp) ?_
  refine TC.seq ?_
  refine TC.region ?_
  refine TL.pure (PV.assign rfl) rfl (by decide) ?_
  refine TL.nil ?_
  refine TQ.thenC ?_
  refine TC.seq ?_
  refine TC.region ?_
  refine TL.buildSlice (cs := #[.int .i64 (3), .int .i64 (4)]) rfl Tb.sl_22 Tb.zi_3 (by decide) (fill_2 _ _) (by decide) rfl (by decide) (fun ba hba => ?_)
  refine TL.buildSlice (cs := #[.int .i64 (5), .int .i64 (2)]) rfl Tb.sl_22 Tb.zi_3 (by decide) (fill_2 _ _) (by decide) rfl (by decide) (fun bb hbb => ?_)
  refine TL.buildSlice (cs := #[.int .i64 (1), .int .i64 (2)]) rfl Tb.sl_22 Tb.zi_3 (by decide) (fill_2 _ _) (by decide) rfl (by decide) (fun bc hbc => ?_)
  refine TL.buildSlice (cs := #[.int .i64 (3), .int .i64 (1)]) rfl Tb.sl_22 Tb.zi_3 (by decide) (fill_2 _ _) (by decide) rfl (by decide) (fun bd hbd => ?_)
  refine TL.buildSlice (cs := #[.slice (some ⟨bc, 0, none⟩) 2 2, .slice (some ⟨bd, 0, none⟩) 2 2]) rfl Tb.sl_23 Tb.zi_22 (by decide) (fill_oo _ _ _ _ _ _) (by decide) rfl (by decide) (fun be hbe => ?_)
  refine TL.pure (PV.build rfl Tb.zero_25 Tb.pl_25 (fill_td _ _ _ _ _ _ _ _ _)) rfl (by decide) ?_
  refine TL.alloc Tb.zero_25 rfl (by decide) (fun bt hbt => ?_)
  refine TL.storeAgg (vs := [.slice (some ⟨ba, 0, none⟩) 2 2, .slice (some ⟨bb, 0, none⟩) 2 2, .slice (some ⟨be, 0, none⟩) 2 2]) rfl rfl Tb.cells_25 (by repeat (first | exact Upd.head _ | apply Upd.tail | apply Upd.appR)) rfl rfl rfl rfl rfl ?_
  refine TL.nil ?_
  refine TQ.thenC ?_
  refine TC.seq ?_
  refine TC.region ?_
  refine TL.pure (PV.loadBox (cs := [.slice (some ⟨ba, 0, none⟩) 2 2, .slice (some ⟨bb, 0, none⟩) 2 2, .slice (some ⟨be, 0, none⟩) 2 2]) rfl Tb.agg_25 (by repeat (first | exact List.Mem.head _ | refine List.Mem.tail _ ?_ | refine List.mem_append_right _ ?_)) rfl) rfl (by decide) ?_
  refine TL.call rfl Tb.gofn_25 (fun a w hs => Corner_ok w _ exT (ex_t (a := ba) (b := bb) (c := bc) (d := bd) (e := be) hs.new (by (try simp only [List.cons_append, List.nil_append, List.append_assoc]); repeat (first | exact List.Mem.head _ | refine List.Mem.tail _ ?_ | refine List.mem_append_right _ ?_)) (by (try simp only [List.cons_append, List.nil_append, List.append_assoc]); repeat (first | exact List.Mem.head _ | refine List.Mem.tail _ ?_ | refine List.mem_append_right _ ?_)) (by (try simp only [List.cons_append, List.nil_append, List.append_assoc]); repeat (first | exact List.Mem.head _ | refine List.Mem.tail _ ?_ | refine List.mem_append_right _ ?_)) (by (try simp only [List.cons_append, List.nil_append, List.append_assoc]); repeat (first | exact List.Mem.head _ | refine List.Mem.tail _ ?_ | refine List.mem_append_right _ ?_)) (by (try simp only [List.cons_append, List.nil_append, List.append_assoc]); repeat (first | exact List.Mem.head _ | refine List.Mem.tail _ ?_ | refine List.mem_append_right _ ?_))) ex_sm) rfl (by decide) (fun y9 hy9 => ?_)
  rw [ex_c] at hy9
  rw [ex_c]
  refine TL.pure (PV.move rfl) rfl (by decide) ?_
  refine TL.pure (PV.extract rfl rfl) rfl (by decide) ?_
  refine TL.pure (PV.extract rfl rfl) rfl (by decide) ?_
  refine TL.pure (PV.assign rfl) rfl (by decide) ?_
  refine TL.pure (PV.assign rfl) rfl (by decide) ?_
  refine TL.nil ?_
  refine TQ.thenC ?_
  refine TC.seq ?_
  refine TC.region ?_
  refine TL.pure (PV.loadBox (cs := [.slice (some ⟨ba, 0, none⟩) 2 2, .slice (some ⟨bb, 0, none⟩) 2 2, .slice (some ⟨be, 0, none⟩) 2 2]) rfl Tb.agg_25 (by repeat (first | exact List.Mem.head _ | refine List.Mem.tail _ ?_ | refine List.mem_append_right _ ?_)) rfl) rfl (by decide) ?_
  refine TL.call rfl Tb.gofn_28 (fun a w hs => Least_ok w _ exT (ex_t (a := ba) (b := bb) (c := bc) (d := bd) (e := be) hs.new (by (try simp only [List.cons_append, List.nil_append, List.append_assoc]); repeat (first | exact List.Mem.head _ | refine List.Mem.tail _ ?_ | refine List.mem_append_right _ ?_)) (by (try simp only [List.cons_append, List.nil_append, List.append_assoc]); repeat (first | exact List.Mem.head _ | refine List.Mem.tail _ ?_ | refine List.mem_append_right _ ?_)) (by (try simp only [List.cons_append, List.nil_append, List.append_assoc]); repeat (first | exact List.Mem.head _ | refine List.Mem.tail _ ?_ | refine List.mem_append_right _ ?_)) (by (try simp only [List.cons_append, List.nil_append, List.append_assoc]); repeat (first | exact List.Mem.head _ | refine List.Mem.tail _ ?_ | refine List.mem_append_right _ ?_)) (by (try simp only [List.cons_append, List.nil_append, List.append_assoc]); repeat (first | exact List.Mem.head _ | refine List.Mem.tail _ ?_ | refine List.mem_append_right _ ?_))) ex_sm) rfl (by decide) (fun _ _ => ?_)
  rw [ex_l]
  refine TL.pure (PV.move rfl) rfl (by decide) ?_
  refine TL.pure (PV.extract rfl rfl) rfl (by decide) ?_
  refine TL.pure (PV.extract rfl rfl) rfl (by decide) ?_
  refine TL.pure (PV.assign rfl) rfl (by decide) ?_
  refine TL.pure (PV.assign rfl) rfl (by decide) ?_
  refine TL.nil ?_
  refine TQ.thenC ?_
  refine TC.seq ?_
  refine TC.region ?_
  refine TL.pure (PV.loadBox (cs := [.slice (some ⟨ba, 0, none⟩) 2 2, .slice (some ⟨bb, 0, none⟩) 2 2, .slice (some ⟨be, 0, none⟩) 2 2]) rfl Tb.agg_25 (by repeat (first | exact List.Mem.head _ | refine List.Mem.tail _ ?_ | refine List.mem_append_right _ ?_)) rfl) rfl (by decide) ?_
  refine TL.buildSlice (cs := #[.int .i64 (1), .int .i64 (3)]) rfl Tb.sl_22 Tb.zi_3 (by decide) (fill_2 _ _) (by decide) rfl (by decide) (fun bu hbu => ?_)
  refine TL.buildSlice (cs := #[.int .i64 (0), .int .i64 (-2)]) rfl Tb.sl_22 Tb.zi_3 (by decide) (fill_2 _ _) (by decide) rfl (by decide) (fun bv hbv => ?_)
  refine TL.pure (PV.build rfl Tb.zero_43 Tb.pl_43 (fill_ps _ _ _ _ _ _)) rfl (by decide) ?_
  refine TL.call rfl Tb.gofn_35 (fun a w hs => Worth_ok w _ exT (ex_t (a := ba) (b := bb) (c := bc) (d := bd) (e := be) hs.new (by (try simp only [List.cons_append, List.nil_append, List.append_assoc]); repeat (first | exact List.Mem.head _ | refine List.Mem.tail _ ?_ | refine List.mem_append_right _ ?_)) (by (try simp only [List.cons_append, List.nil_append, List.append_assoc]); repeat (first | exact List.Mem.head _ | refine List.Mem.tail _ ?_ | refine List.mem_append_right _ ?_)) (by (try simp only [List.cons_append, List.nil_append, List.append_assoc]); repeat (first | exact List.Mem.head _ | refine List.Mem.tail _ ?_ | refine List.mem_append_right _ ?_)) (by (try simp only [List.cons_append, List.nil_append, List.append_assoc]); repeat (first | exact List.Mem.head _ | refine List.Mem.tail _ ?_ | refine List.mem_append_right _ ?_)) (by (try simp only [List.cons_append, List.nil_append, List.append_assoc]); repeat (first | exact List.Mem.head _ | refine List.Mem.tail _ ?_ | refine List.mem_append_right _ ?_))) ex_sm _ [1, 3] [0, -2] (ex_pr (a := bu) (b := bv) hs.new (by (try simp only [List.cons_append, List.nil_append, List.append_assoc]); repeat (first | exact List.Mem.head _ | refine List.Mem.tail _ ?_ | refine List.mem_append_right _ ?_)) (by (try simp only [List.cons_append, List.nil_append, List.append_assoc]); repeat (first | exact List.Mem.head _ | refine List.Mem.tail _ ?_ | refine List.mem_append_right _ ?_))) (by decide) (by decide)) rfl (by decide) (fun _ _ => ?_)
  rw [ex_w]
  refine TL.pure (PV.move rfl) rfl (by decide) ?_
  refine TL.pure (PV.extract rfl rfl) rfl (by decide) ?_
  refine TL.pure (PV.extract rfl rfl) rfl (by decide) ?_
  refine TL.pure (PV.assign rfl) rfl (by decide) ?_
  refine TL.pure (PV.assign rfl) rfl (by decide) ?_
  refine TL.nil ?_
  refine TQ.thenC ?_
  refine TC.seq ?_
  refine TC.region ?_
  refine TL.pure (PV.move rfl) rfl (by decide) ?_
  refine TL.pure (PV.eql rfl rfl) rfl (by decide) ?_
  refine TL.pure (PV.move rfl) rfl (by decide) ?_
  first | refine TL.splitD 34 rfl (fun h0 => ?_) (fun h0 => ?_) | refine TL.split 34 rfl (fun h0 => ?_) (fun h0 => ?_)
  · skip
    refine TL.pure (PV.move rfl) rfl (by decide) ?_
    refine TL.buildSlice (cs := #[.int .i64 (3), .int .i64 (0)]) rfl Tb.sl_22 Tb.zi_3 (by decide) (fill_2 _ _) (by decide) rfl (by decide) (fun bf hbf => ?_)
    refine TL.buildSlice (cs := #[.int .i64 (2), .int .i64 (2)]) rfl Tb.sl_22 Tb.zi_3 (by decide) (fill_2 _ _) (by decide) rfl (by decide) (fun bg hbg => ?_)
    refine TL.buildSlice (cs := #[.slice (some ⟨bf, 0, none⟩) 2 2, .slice (some ⟨bg, 0, none⟩) 2 2]) rfl Tb.sl_23 Tb.zi_22 (by decide) (fill_oo _ _ _ _ _ _) (by decide) rfl (by decide) (fun bh hbh => ?_)
    refine TL.call rfl Tb.gofn_27 (fun a w hs => sameTables_ok w _ [[3, 0], [2, 2]] (hy9.at hs.new (fun yy hyy => by repeat (first | exact List.mem_append_left _ hyy | exact List.mem_append_left _ (List.mem_append_right _ hyy) | exact List.mem_append_left _ (List.mem_append_left _ hyy) | refine List.mem_append_right _ ?_ | refine List.Mem.tail _ ?_))) ex_smg _ [[3, 0], [2, 2]] (ex_g (c := bf) (d := bg) (e := bh) hs.new (by (try simp only [List.cons_append, List.nil_append, List.append_assoc]); repeat (first | exact List.Mem.head _ | refine List.Mem.tail _ ?_ | refine List.mem_append_right _ ?_)) (by (try simp only [List.cons_append, List.nil_append, List.append_assoc]); repeat (first | exact List.Mem.head _ | refine List.Mem.tail _ ?_ | refine List.mem_append_right _ ?_)) (by (try simp only [List.cons_append, List.nil_append, List.append_assoc]); repeat (first | exact List.Mem.head _ | refine List.Mem.tail _ ?_ | refine List.mem_append_right _ ?_))) ex_smg) rfl (by decide) (fun _ _ => ?_)
    refine TL.pure (PV.pickT rfl rfl) rfl (by decide) ?_
    refine TL.pure (PV.move rfl) rfl (by decide) ?_
    first | refine TL.splitD 41 rfl (fun h1 => ?_) (fun h1 => ?_) | refine TL.split 41 rfl (fun h1 => ?_) (fun h1 => ?_)
    · skip
      refine TL.pure (PV.move rfl) rfl (by decide) ?_
      refine TL.pure (PV.eql rfl rfl) rfl (by decide) ?_
      refine TL.pure (PV.pickT rfl rfl) rfl (by decide) ?_
      refine TL.pure (PV.move rfl) rfl (by decide) ?_
      first | refine TL.splitD 45 rfl (fun h2 => ?_) (fun h2 => ?_) | refine TL.split 45 rfl (fun h2 => ?_) (fun h2 => ?_)
      · skip
        refine TL.pure (PV.move rfl) rfl (by decide) ?_
        refine TL.pure (PV.eql rfl rfl) rfl (by decide) ?_
        refine TL.pure (PV.pickT rfl rfl) rfl (by decide) ?_
        refine TL.pure (PV.move rfl) rfl (by decide) ?_
        first | refine TL.splitD 49 rfl (fun h3 => ?_) (fun h3 => ?_) | refine TL.split 49 rfl (fun h3 => ?_) (fun h3 => ?_)
        · skip
          refine TL.pure (PV.move rfl) rfl (by decide) ?_
          refine TL.pure (PV.eql rfl rfl) rfl (by decide) ?_
          refine TL.pure (PV.pickT rfl rfl) rfl (by decide) ?_
          refine TL.pure (PV.move rfl) rfl (by decide) ?_
          first | refine TL.splitD 53 rfl (fun h4 => ?_) (fun h4 => ?_) | refine TL.split 53 rfl (fun h4 => ?_) (fun h4 => ?_)
          · skip
            refine TL.pure (PV.move rfl) rfl (by decide) ?_
            refine TL.pure (PV.eql rfl rfl) rfl (by decide) ?_
            refine TL.pure (PV.pickT rfl rfl) rfl (by decide) ?_
            refine TL.pure (PV.assign rfl) rfl (by decide) ?_
            refine TL.nil ?_
            refine TQ.thenC ?_
            refine TC.ret ?_
            refine TQ.retE1 rfl rfl ?_
            first | exact ⟨(), rfl, trivial, List.nil_sublist _⟩ | (exfalso; simp_all; done)
          · skip
            refine TL.skip rfl (fun k hk => by cases hk; decide) ?_
            refine TL.skip rfl (fun k hk => by cases hk; decide) ?_
            refine TL.pure (PV.pickF rfl rfl) rfl (by decide) ?_
            refine TL.pure (PV.assign rfl) rfl (by decide) ?_
            refine TL.nil ?_
            refine TQ.thenC ?_
            refine TC.ret ?_
            refine TQ.retE1 rfl rfl ?_
            first | exact ⟨(), rfl, trivial, List.nil_sublist _⟩ | (exfalso; simp_all; done)
        · skip
          refine TL.skip rfl (fun k hk => by cases hk; decide) ?_
          refine TL.skip rfl (fun k hk => by cases hk; decide) ?_
          refine TL.pure (PV.pickF rfl rfl) rfl (by decide) ?_
          refine TL.pure (PV.move rfl) rfl (by decide) ?_
          refine TL.skip rfl (fun k hk => by cases hk; decide) ?_
          refine TL.skip rfl (fun k hk => by cases hk; decide) ?_
          refine TL.pure (PV.pickF rfl rfl) rfl (by decide) ?_
          refine TL.pure (PV.assign rfl) rfl (by decide) ?_
          refine TL.nil ?_
          refine TQ.thenC ?_
          refine TC.ret ?_
          refine TQ.retE1 rfl rfl ?_
          first | exact ⟨(), rfl, trivial, List.nil_sublist _⟩ | (exfalso; simp_all; done)
      · skip
        refine TL.skip rfl (fun k hk => by cases hk; decide) ?_
        refine TL.skip rfl (fun k hk => by cases hk; decide) ?_
        refine TL.pure (PV.pickF rfl rfl) rfl (by decide) ?_
        refine TL.pure (PV.move rfl) rfl (by decide) ?_
        refine TL.skip rfl (fun k hk => by cases hk; decide) ?_
        refine TL.skip rfl (fun k hk => by cases hk; decide) ?_
        refine TL.pure (PV.pickF rfl rfl) rfl (by decide) ?_
        refine TL.pure (PV.move rfl) rfl (by decide) ?_
        refine TL.skip rfl (fun k hk => by cases hk; decide) ?_
        refine TL.skip rfl (fun k hk => by cases hk; decide) ?_
        refine TL.pure (PV.pickF rfl rfl) rfl (by decide) ?_
        refine TL.pure (PV.assign rfl) rfl (by decide) ?_
        refine TL.nil ?_
        refine TQ.thenC ?_
        refine TC.ret ?_
        refine TQ.retE1 rfl rfl ?_
        first | exact ⟨(), rfl, trivial, List.nil_sublist _⟩ | (exfalso; simp_all; done)
    · skip
      refine TL.skip rfl (fun k hk => by cases hk; decide) ?_
      refine TL.skip rfl (fun k hk => by cases hk; decide) ?_
      refine TL.pure (PV.pickF rfl rfl) rfl (by decide) ?_
      refine TL.pure (PV.move rfl) rfl (by decide) ?_
      refine TL.skip rfl (fun k hk => by cases hk; decide) ?_
      refine TL.skip rfl (fun k hk => by cases hk; decide) ?_
      refine TL.pure (PV.pickF rfl rfl) rfl (by decide) ?_
      refine TL.pure (PV.move rfl) rfl (by decide) ?_
      refine TL.skip rfl (fun k hk => by cases hk; decide) ?_
      refine TL.skip rfl (fun k hk => by cases hk; decide) ?_
      refine TL.pure (PV.pickF rfl rfl) rfl (by decide) ?_
      refine TL.pure (PV.move rfl) rfl (by decide) ?_
      refine TL.skip rfl (fun k hk => by cases hk; decide) ?_
      refine TL.skip rfl (fun k hk => by cases hk; decide) ?_
      refine TL.pure (PV.pickF rfl rfl) rfl (by decide) ?_
      refine TL.pure (PV.assign rfl) rfl (by decide) ?_
      refine TL.nil ?_
      refine TQ.thenC ?_
      refine TC.ret ?_
      refine TQ.retE1 rfl rfl ?_
      first | exact ⟨(), rfl, trivial, List.nil_sublist _⟩ | (exfalso; simp_all; done)
  · skip
    refine TL.skip rfl (fun k hk => by cases hk; decide) ?_
    refine TL.skip rfl (fun k hk => by cases hk; decide) ?_
    refine TL.skip rfl (fun k hk => by cases hk; decide) ?_
    refine TL.skip rfl (fun k hk => by cases hk; decide) ?_
    refine TL.skip rfl (fun k hk => by cases hk; decide) ?_
    refine TL.pure (PV.pickF rfl rfl) rfl (by decide) ?_
    refine TL.pure (PV.move rfl) rfl (by decide) ?_
    refine TL.skip rfl (fun k hk => by cases hk; decide) ?_
    refine TL.skip rfl (fun k hk => by cases hk; decide) ?_
    refine TL.pure (PV.pickF rfl rfl) rfl (by decide) ?_
    refine TL.pure (PV.move rfl) rfl (by decide) ?_
    refine TL.skip rfl (fun k hk => by cases hk; decide) ?_
    refine TL.skip rfl (fun k hk => by cases hk; decide) ?_
    refine TL.pure (PV.pickF rfl rfl) rfl (by decide) ?_
    refine TL.pure (PV.move rfl) rfl (by decide) ?_
    refine TL.skip rfl (fun k hk => by cases hk; decide) ?_
    refine TL.skip rfl (fun k hk => by cases hk; decide) ?_
    refine TL.pure (PV.pickF rfl rfl) rfl (by decide) ?_
    refine TL.pure (PV.move rfl) rfl (by decide) ?_
    refine TL.skip rfl (fun k hk => by cases hk; decide) ?_
    refine TL.skip rfl (fun k hk => by cases hk; decide) ?_
    refine TL.pure (PV.pickF rfl rfl) rfl (by decide) ?_
    refine TL.pure (PV.assign rfl) rfl (by decide) ?_
    refine TL.nil ?_
    refine TQ.thenC ?_
    refine TC.ret ?_
    refine TQ.retE1 rfl rfl ?_
    first | exact ⟨(), rfl, trivial, List.nil_sublist _⟩ | (exfalso; simp_all; done)

set_option maxRecDepth 100000 in
set_option maxHeartbeats 2000000 in
theorem IsBest_ok (w0 : World) (vt : Value) (t : Td) (ht : IsT w0 vt t) (hT : SmT t) (vg : Value) (m : List (List Int)) (hg : IsG w0 vg m) (hM : SmG m) :
    Calls Try.prog 31 #[vt, vg] w0 (Post (X := Unit) (fun _ => .tuple #[.bool (ibR t m).1, .int .i64 (ibR t m).2]) (fun _ => True) (fun _ => []) w0) := by
  have ht0 := ht
  obtain ⟨p1, c1, p2, c2, p3, c3, rfl, t1, t2, t3⟩ := ht
  have hg0 := hg
  obtain ⟨pg, cg, rfl, g1⟩ := hg
  refine calls Try.func31 rfl (n := 25) rfl (by simp) ?_
  refine TC.seq ?_
  refine TC.region ?_
  refine TL.box rfl rfl (by decide) (fun b0 hb0 => ?_)
  refine TL.pure (PV.assign rfl) rfl (by decide) ?_
  refine TL.pure (PV.assign rfl) rfl (by decide) ?_
  refine TL.nil ?_
  refine TQ.thenC ?_
  refine TC.seq ?_
  refine TC.seq ?_
  refine TC.region ?_
  refine TL.pure (PV.loadBox rfl Tb.agg_25 (by repeat (first | exact List.Mem.head _ | refine List.Mem.tail _ ?_ | refine List.mem_append_right _ ?_)) rfl) rfl (by decide) ?_
  refine TL.pure (PV.move rfl) rfl (by decide) ?_
  refine TL.call rfl Tb.gofn_23 (fun a w hs => checkPlan_ok w _ t (IsT.mk (t1.new hs.new) (t2.new hs.new) (t3.new hs.new)) hT _ m (IsG.of (g1.new hs.new)) hM) rfl (by decide) (fun _ _ => ?_)
  refine TL.pure (PV.assign rfl) rfl (by decide) ?_
  refine TL.nil ?_
  refine TQ.thenC ?_
  refine TC.seq ?_
  refine TC.region ?_
  refine TL.pure (PV.move rfl) rfl (by decide) ?_
  refine TL.pure (PV.neq rfl rfl) rfl (by decide) ?_
  refine TL.nil ?_
  refine TQ.thenC ?_
  first | refine TC.condD rfl (fun a1 => ?_) (fun a1 => ?_) | refine TC.cond rfl (fun a1 => ?_) (fun a1 => ?_)
  · skip
    refine TC.seq ?_
    refine TC.region ?_
    refine TL.pure (PV.move rfl) rfl (by decide) ?_
    refine TL.pure (PV.assign rfl) rfl (by decide) ?_
    refine TL.pure (PV.assign rfl) rfl (by decide) ?_
    refine TL.nil ?_
    refine TQ.thenC ?_
    refine TC.ret ?_
    refine TQ.thenR ?_
    refine TQ.retE2 rfl rfl rfl ?_
    exact ⟨(), by unfold ibR; rw [if_pos a1], trivial, List.nil_sublist _⟩
  · skip
    refine TC.skip ?_
    refine TQ.thenC ?_
    refine TC.seq ?_
    have hV := vp_of a1
    refine TC.region ?_
    refine TL.pure (PV.loadBox rfl Tb.agg_25 (by repeat (first | exact List.Mem.head _ | refine List.Mem.tail _ ?_ | refine List.mem_append_right _ ?_)) rfl) rfl (by decide) ?_
    refine TL.pure (PV.move rfl) rfl (by decide) ?_
    refine TL.call rfl Tb.gofn_70 (fun a w hs => improve_ok w _ t (IsT.mk (t1.new hs.new) (t2.new hs.new) (t3.new hs.new)) hV.toVT _ m (IsG.of (g1.new hs.new)) hV.g) rfl (by decide) (fun i9 hi9 => ?_)
    refine TL.pure (PV.move rfl) rfl (by decide) ?_
    refine impAlong (t := t) (m := m) (z := i9) rfl rfl (fun a w hs => hg0.new hs.new) hV hi9 (fun yy hyy => by repeat (first | exact List.mem_append_left _ hyy | exact List.mem_append_left _ (List.mem_append_right _ hyy) | exact List.mem_append_left _ (List.mem_append_left _ hyy) | refine List.mem_append_right _ ?_ | refine List.Mem.tail _ ?_)) rfl (by decide) (fun y9 hy9 => ?_)
    refine TL.pure (PV.move rfl) rfl (by decide) ?_
    refine TL.pure (PV.extract rfl rfl) rfl (by decide) ?_
    refine TL.pure (PV.extract rfl rfl) rfl (by decide) ?_
    refine TL.pure (PV.assign rfl) rfl (by decide) ?_
    refine TL.pure (PV.assign rfl) rfl (by decide) ?_
    refine TL.nil ?_
    refine TQ.thenC ?_
    refine TC.seq ?_
    refine TC.region ?_
    refine TL.pure (PV.move rfl) rfl (by decide) ?_
    refine TL.pure (PV.eql rfl rfl) rfl (by decide) ?_
    refine TL.pure (PV.assign rfl) rfl (by decide) ?_
    refine TL.pure (PV.assign rfl) rfl (by decide) ?_
    refine TL.nil ?_
    refine TQ.thenC ?_
    refine TC.ret ?_
    refine TQ.retE2 rfl rfl rfl ?_
    have hmn : ∃ n, MnT t n := mn_any hV.toVT
    exact ⟨(), by unfold ibR; rw [if_neg a1, decide_eq_decide.2 (hy9.trans (imp_best hV hi9 hmn))], trivial, List.nil_sublist _⟩

set_option maxRecDepth 100000 in
set_option maxHeartbeats 2000000 in
theorem Round_ok (w0 : World) (vt : Value) (t : Td) (ht : IsT w0 vt t) (hT : SmT t) (vg : Value) (m : List (List Int)) (hg : IsG w0 vg m) (hM : SmG m) :
    Calls Try.prog 40 #[vt, vg] w0 (Post (X := Option (HD × List Pr)) (fun y => match y with | none => .tuple #[.slice none 0 0, .bool false, .int .i64 (planI t m)] | some z => .tuple #[gval z.1 z.2.length, .bool true, .int .i64 0]) (fun y => match y with | none => planI t m ≠ 0 ∨ (¬ planI t m ≠ 0 ∧ costI t m = mnI t) | some z => VP t m ∧ goR prR z.1 z.2 ∧ ∃ g, GdR t.s.length t.d.length (getM t.c) (getM m) z.2 g) (fun y => match y with | none => [] | some z => gbR prR 84 z.1 z.2) w0) := by
  obtain ⟨p1, c1, p2, c2, p3, c3, rfl, t1, t2, t3⟩ := ht
  obtain ⟨pg, cg, rfl, g1⟩ := hg
  refine calls Try.func40 rfl (n := 25) rfl (by simp) ?_
  refine TC.seq ?_
  refine TC.region ?_
  refine TL.box rfl rfl (by decide) (fun b0 hb0 => ?_)
  refine TL.pure (PV.assign rfl) rfl (by decide) ?_
  refine TL.pure (PV.assign rfl) rfl (by decide) ?_
  refine TL.pure (PV.assign rfl) rfl (by decide) ?_
  refine TL.nil ?_
  refine TQ.thenC ?_
  refine TC.seq ?_
  refine TC.seq ?_
  refine TC.region ?_
  refine TL.pure (PV.loadBox rfl Tb.agg_25 (by repeat (first | exact List.Mem.head _ | refine List.Mem.tail _ ?_ | refine List.mem_append_right _ ?_)) rfl) rfl (by decide) ?_
  refine TL.pure (PV.move rfl) rfl (by decide) ?_
  refine TL.call rfl Tb.gofn_23 (fun a w hs => checkPlan_ok w _ t (IsT.mk (t1.new hs.new) (t2.new hs.new) (t3.new hs.new)) hT _ m (IsG.of (g1.new hs.new)) hM) rfl (by decide) (fun _ _ => ?_)
  refine TL.pure (PV.assign rfl) rfl (by decide) ?_
  refine TL.nil ?_
  refine TQ.thenC ?_
  refine TC.seq ?_
  refine TC.region ?_
  refine TL.pure (PV.move rfl) rfl (by decide) ?_
  refine TL.pure (PV.neq rfl rfl) rfl (by decide) ?_
  refine TL.nil ?_
  refine TQ.thenC ?_
  first | refine TC.condD rfl (fun a1 => ?_) (fun a1 => ?_) | refine TC.cond rfl (fun a1 => ?_) (fun a1 => ?_)
  · skip
    refine TC.seq ?_
    refine TC.region ?_
    refine TL.pure (PV.move rfl) rfl (by decide) ?_
    refine TL.pure (PV.assign rfl) rfl (by decide) ?_
    refine TL.pure (PV.assign rfl) rfl (by decide) ?_
    refine TL.pure (PV.assign rfl) rfl (by decide) ?_
    refine TL.nil ?_
    refine TQ.thenC ?_
    refine TC.ret ?_
    refine TQ.thenR ?_
    refine TQ.retE3 rfl rfl rfl rfl ?_
    exact ⟨none, rfl, .inl a1, List.nil_sublist _⟩
  · skip
    refine TC.skip ?_
    refine TQ.thenC ?_
    refine TC.seq ?_
    refine TC.seq ?_
    have hV := vp_of a1
    refine TC.region ?_
    refine TL.pure (PV.loadBox rfl Tb.agg_25 (by repeat (first | exact List.Mem.head _ | refine List.Mem.tail _ ?_ | refine List.mem_append_right _ ?_)) rfl) rfl (by decide) ?_
    refine TL.pure (PV.move rfl) rfl (by decide) ?_
    refine TL.call rfl Tb.gofn_70 (fun a w hs => improve_ok w _ t (IsT.mk (t1.new hs.new) (t2.new hs.new) (t3.new hs.new)) hV.toVT _ m (IsG.of (g1.new hs.new)) hV.g) rfl (by decide) (fun i9 hi9 => ?_)
    refine TL.pure (PV.assertSh rfl) rfl (by decide) ?_
    refine TL.pure (PV.move rfl) rfl (by decide) ?_
    refine TL.pure (PV.extract rfl rfl) rfl (by decide) ?_
    refine TL.pure (PV.extract rfl rfl) rfl (by decide) ?_
    refine TL.pure (PV.assign rfl) rfl (by decide) ?_
    refine TL.pure (PV.assign rfl) rfl (by decide) ?_
    refine TL.nil ?_
    refine TQ.thenC ?_
    refine TC.seq ?_
    refine TC.region ?_
    refine TL.pure (PV.move rfl) rfl (by decide) ?_
    refine TL.nil ?_
    refine TQ.thenC ?_
    first | refine TC.condD rfl (fun hsh => ?_) (fun hsh => ?_) | refine TC.cond rfl (fun hsh => ?_) (fun hsh => ?_)
    · skip
      obtain ⟨h9, l9, rfl⟩ := isSh_of hsh
      refine TC.seq ?_
      refine TC.region ?_
      refine TL.pure (PV.move rfl) rfl (by decide) ?_
      refine TL.pure (PV.assign rfl) rfl (by decide) ?_
      refine TL.pure (PV.assign rfl) rfl (by decide) ?_
      refine TL.pure (PV.assign rfl) rfl (by decide) ?_
      refine TL.nil ?_
      refine TQ.thenC ?_
      refine TC.ret ?_
      refine TQ.thenR ?_
      refine TQ.retE3 rfl rfl rfl rfl ?_
      exact ⟨some (h9, l9), rfl, ⟨hV, hi9⟩, List.sublist_append_left _ _⟩
    · skip
      refine TC.skip ?_
      refine TQ.thenC ?_
      refine TC.seq ?_
      refine TC.region ?_
      refine TL.pure (PV.assign rfl) rfl (by decide) ?_
      refine TL.pure (PV.assign rfl) rfl (by decide) ?_
      refine TL.pure (PV.assign rfl) rfl (by decide) ?_
      refine TL.nil ?_
      refine TQ.thenC ?_
      refine TC.ret ?_
      refine TQ.retE3 rfl rfl rfl rfl ?_
      have hmn : ∃ n, MnT t n := mn_any hV.toVT
      exact ⟨none, by rw [Decidable.of_not_not a1], .inr ⟨a1, (imp_best hV hi9 hmn).1 (by simpa using hsh)⟩, List.nil_sublist _⟩

set_option maxRecDepth 100000 in
set_option maxHeartbeats 2000000 in
theorem Prove_ok (w0 : World) (vt : Value) (t : Td) (ht : IsT w0 vt t) (hT : SmT t) :
    Calls Try.prog 39 #[vt] w0 (Post (X := (HD × List Int) × (HD × List Int)) (fun y => .tuple #[.agg #[gval y.1.1 y.1.2.length, gval y.2.1 y.2.2.length], .int .i64 (validI t)]) (fun y => goI y.1 ∧ goI y.2 ∧ if validI t ≠ 0 then y.1.2 = [] ∧ y.2.2 = [] else ∃ m, VP t m ∧ GdP t.s.length t.d.length (getM t.c) (getM m) y.1.2 y.2.2) (fun y => gbI y.2 ++ gbI y.1) w0) := by
  obtain ⟨p1, c1, p2, c2, p3, c3, rfl, t1, t2, t3⟩ := ht
  refine calls Try.func39 rfl (n := 19) rfl (by simp) ?_
  refine TC.seq ?_
  refine TC.region ?_
  refine TL.box rfl rfl (by decide) (fun b0 hb0 => ?_)
  refine TL.alloc Tb.zero_43 rfl (by decide) (fun b1 hb1 => ?_)
  refine TL.pure (PV.assign rfl) rfl (by decide) ?_
  refine TL.nil ?_
  refine TQ.thenC ?_
  refine TC.seq ?_
  refine TC.seq ?_
  refine TC.region ?_
  refine TL.pure (PV.loadBox rfl Tb.agg_25 (by repeat (first | exact List.Mem.head _ | refine List.Mem.tail _ ?_ | refine List.mem_append_right _ ?_)) rfl) rfl (by decide) ?_
  refine TL.call rfl Tb.gofn_21 (fun a w hs => validate_ok w _ t (IsT.mk (t1.new hs.new) (t2.new hs.new) (t3.new hs.new)) hT) rfl (by decide) (fun _ _ => ?_)
  refine TL.pure (PV.assign rfl) rfl (by decide) ?_
  refine TL.nil ?_
  refine TQ.thenC ?_
  refine TC.seq ?_
  refine TC.region ?_
  refine TL.pure (PV.move rfl) rfl (by decide) ?_
  refine TL.pure (PV.neq rfl rfl) rfl (by decide) ?_
  refine TL.nil ?_
  refine TQ.thenC ?_
  first | refine TC.condD rfl (fun a1 => ?_) (fun a1 => ?_) | refine TC.cond rfl (fun a1 => ?_) (fun a1 => ?_)
  · skip
    refine TC.seq ?_
    refine TC.region ?_
    refine TL.pure (PV.build rfl Tb.zero_43 Tb.pl_43 rfl) rfl (by decide) ?_
    refine TL.pure (PV.move rfl) rfl (by decide) ?_
    refine TL.storeAgg (vs := [.slice none 0 0, .slice none 0 0]) rfl rfl Tb.cells_43 (by repeat (first | exact Upd.head _ | apply Upd.tail | apply Upd.appR)) rfl rfl rfl rfl rfl ?_
    refine TL.pure (PV.assign rfl) rfl (by decide) ?_
    refine TL.nil ?_
    refine TQ.thenC ?_
    refine TC.ret ?_
    refine TQ.thenR ?_
    refine TQ.retR rfl (Res.agg rfl Tb.agg_43 (by repeat (first | exact List.Mem.head _ | refine List.Mem.tail _ ?_ | refine List.mem_append_right _ ?_)) rfl (Res.tmp rfl Res.nil)) ?_
    simp only [tup]
    exact ⟨((none, []), (none, [])), rfl, ⟨⟨rfl, rfl⟩, ⟨rfl, rfl⟩, by rw [if_pos a1]; exact ⟨rfl, rfl⟩⟩, List.nil_sublist _⟩
  · skip
    refine TC.skip ?_
    refine TQ.thenC ?_
    refine TC.seq ?_
    have hV := vt_of a1
    refine TC.region ?_
    refine TL.pure (PV.loadBox rfl Tb.agg_25 (by repeat (first | exact List.Mem.head _ | refine List.Mem.tail _ ?_ | refine List.mem_append_right _ ?_)) rfl) rfl (by decide) ?_
    refine TL.call rfl Tb.gofn_68 (fun a w hs => best_ok w _ t (IsT.mk (t1.new hs.new) (t2.new hs.new) (t3.new hs.new)) hV) rfl (by decide) (fun y9 hy9 => ?_)
    refine TL.pure (PV.move rfl) rfl (by decide) ?_
    refine TL.pure (PV.extract rfl rfl) rfl (by decide) ?_
    refine TL.pure (PV.extract rfl rfl) rfl (by decide) ?_
    refine TL.alloc Tb.zero_43 rfl (by decide) (fun b2 hb2 => ?_)
    refine TL.pure (PV.assign rfl) rfl (by decide) ?_
    refine TL.storeAgg (vs := [gval y9.2.2.1.1 y9.2.2.1.2.length, gval y9.2.2.2.1 y9.2.2.2.2.length]) rfl rfl Tb.cells_43 (by repeat (first | exact Upd.head _ | apply Upd.tail | apply Upd.appR)) rfl rfl (gv2_one _ _ _ _) rfl rfl ?_
    refine TL.nil ?_
    refine TQ.thenC ?_
    refine TC.seq ?_
    refine TC.region ?_
    refine TL.pure (PV.loadBox (cs := [gval y9.2.2.1.1 y9.2.2.1.2.length, gval y9.2.2.2.1 y9.2.2.2.2.length]) rfl Tb.agg_43 (by repeat (first | exact List.Mem.head _ | refine List.Mem.tail _ ?_ | refine List.mem_append_right _ ?_)) rfl) rfl (by decide) ?_
    refine TL.storeAgg (vs := [gval y9.2.2.1.1 y9.2.2.1.2.length, gval y9.2.2.2.1 y9.2.2.2.2.length]) rfl rfl Tb.cells_43 (by repeat (first | exact Upd.head _ | apply Upd.tail | apply Upd.appR)) rfl rfl (gv2_one _ _ _ _) rfl rfl ?_
    refine TL.pure (PV.assign rfl) rfl (by decide) ?_
    refine TL.nil ?_
    refine TQ.thenC ?_
    refine TC.ret ?_
    refine TQ.retR rfl (Res.agg rfl Tb.agg_43 (by repeat (first | exact List.Mem.head _ | refine List.Mem.tail _ ?_ | refine List.mem_append_right _ ?_)) rfl (Res.tmp rfl Res.nil)) ?_
    simp only [tup]
    exact ⟨(y9.2.2.1, y9.2.2.2), by rw [Decidable.of_not_not a1], ⟨hy9.2.2.1, hy9.2.2.2.1, by rw [if_neg a1]; exact ⟨y9.1, hy9.1, hy9.2.2.2.2⟩⟩, List.Sublist.cons _ (List.Sublist.trans (List.sublist_append_left _ _) (List.sublist_append_left _ _))⟩

end Go.Proofs.Ytghlkndanpegbaa

/- Three calls whose answers are known: contracts. -/
import Derived.Test.YtfgjojoipbbacaaCL
set_option linter.unusedVariables false
set_option linter.unusedSimpArgs false
namespace Go.Proofs.Ytfgjojoipbbacaa
open Go.Sx Go.RowKit
theorem fill_i2 (x y : Int) : Instr.fill (fun i => some (i * 1, 1)) ((Array.range (2 * 1)).map ((Value.int .i64 0).cells[· % (Value.int .i64 0).cells.size]!)) [(0, .int .i64 x), (1, .int .i64 y)] = some #[.int .i64 x, .int .i64 y] := by kernel_rfl
theorem fill_o1 (x : Option Addr) (n : Nat) : Instr.fill (fun i => some (i * 1, 1)) ((Array.range (1 * 1)).map ((Value.slice none 0 0).cells[· % (Value.slice none 0 0).cells.size]!)) [(0, .slice x n n)] = some #[.slice x n n] := by kernel_rfl
theorem fill_o2 (x y : Option Addr) (n : Nat) : Instr.fill (fun i => some (i * 1, 1)) ((Array.range (2 * 1)).map ((Value.slice none 0 0).cells[· % (Value.slice none 0 0).cells.size]!)) [(0, .slice x n n), (1, .slice y n n)] = some #[.slice x n n, .slice y n n] := by kernel_rfl
theorem fill_o3 (x y z : Option Addr) (n : Nat) : Instr.fill (fun i => some (i * 1, 1)) ((Array.range (3 * 1)).map ((Value.slice none 0 0).cells[· % (Value.slice none 0 0).cells.size]!)) [(0, .slice x n n), (1, .slice y n n), (2, .slice z n n)] = some #[.slice x n n, .slice y n n, .slice z n n] := by kernel_rfl
/-- A slice of rows, all of them made here. -/
theorem LsAt.blks {w0 w : World} {G : Heap} {bO : Nat} {e e2 : TypeId} {rows : List (Nat × List Int)} (hn : New w0 w G) (hO : (bO, Obj.cells (rows.map fun r => Value.slice (some ⟨r.1, 0, none⟩) r.2.length r.2.length).toArray e (0, 0)) ∈ G)
    (hr : ∀ r ∈ rows, (r.1, Obj.cells (intsA r.2) e2 (0, 0)) ∈ G) : LsAt w (some ⟨bO, 0, none⟩) (rows.map (·.2)) := by
  intro j hj
  rw [List.length_map] at hj
  have hg : (rows.map (·.2)).getD j [] = rows[j].2 := by simp [List.getD, hj]
  rw [hg]
  refine ⟨_, rfl, some ⟨rows[j].1, 0, none⟩, rows[j].2.length, ?_, IntsAt.arr hn (hr _ (List.getElem_mem _))⟩
  rw [add_off]
  refine hn.cell hO ?_
  simp [hj]
theorem rh_A {k : List Int} (h : RH [[-3, 5]] k) : k = [0, 0, 0, 0, 0, 0] ∨ k = [1, 0, 0, 0, 0, 0] ∨ k = [2, 0, 0, 0, 0, 0] := by
  match k, h.len, h with
  | [a, b, c, d, e, f], _, h =>
    have h0 : 0 ≤ a ∧ a ≤ 2 := h.rng 0 (by decide)
    have h1 : b = 0 := h.out 1 (by decide)
    have h2 : c = 0 := h.out 2 (by decide)
    have h3 : d = 0 := h.out 3 (by decide)
    have h4 : e = 0 := h.out 4 (by decide)
    have h5 : f = 0 := h.out 5 (by decide)
    subst h1; subst h2; subst h3; subst h4; subst h5
    have : a = 0 ∨ a = 1 ∨ a = 2 := by omega
    rcases this with rfl | rfl | rfl <;> simp
theorem ent_A {es : List Ent} (h : WI [[-3, 5]] es []) : ∀ q ∈ es, q = (Zl, 0) ∨ q = ([1, 0, 0, 0, 0, 0], -3) ∨ q = ([2, 0, 0, 0, 0, 0], 2) := fun q hq => by
  obtain ⟨h1, h2⟩ := h.good q hq
  obtain ⟨k, v⟩ := q
  simp only at h1 h2
  subst h2
  rcases rh_A h1 with rfl | rfl | rfl
  · exact .inl rfl
  · exact .inr (.inl rfl)
  · exact .inr (.inr rfl)
theorem vbA : VB [[-3, 5]] := vb_of (by decide)
theorem rhA2 : RH [[-3, 5]] [2, 0, 0, 0, 0, 0] where
  len := rfl
  rng := fun c hc => by
    have : c = 0 := by simp only [List.length_cons, List.length_nil] at hc; omega
    subst this
    decide
  out := fun c hc => by
    match c, hc with
    | 1, _ | 2, _ | 3, _ | 4, _ | 5, _ => rfl
    | n + 6, _ => rfl
  stp := fun c hc => by simp only [List.length_cons, List.length_nil] at hc; omega
theorem step_A {s : List Int × Int} {q : Ent} (hs : s = (Zl, 0) ∨ s = ([2, 0, 0, 0, 0, 0], 2)) (hq : q = (Zl, 0) ∨ q = ([1, 0, 0, 0, 0, 0], -3) ∨ q = ([2, 0, 0, 0, 0, 0], 2)) :
    (joinS min s q = (Zl, 0) ∨ joinS min s q = ([2, 0, 0, 0, 0, 0], 2)) ∧ (s = ([2, 0, 0, 0, 0, 0], 2) ∨ q = ([2, 0, 0, 0, 0, 0], 2) → joinS min s q = ([2, 0, 0, 0, 0, 0], 2)) := by
  rcases hs with rfl | rfl <;> rcases hq with rfl | rfl | rfl <;> decide
theorem join_A {es : List Ent} (he : ∀ q ∈ es, q = (Zl, 0) ∨ q = ([1, 0, 0, 0, 0, 0], -3) ∨ q = ([2, 0, 0, 0, 0, 0], 2)) : ∀ (v : List Nat) (s : List Int × Int), (∀ j ∈ v, j < es.length) → (s = (Zl, 0) ∨ s = ([2, 0, 0, 0, 0, 0], 2)) →
    (s = ([2, 0, 0, 0, 0, 0], 2) ∨ ∃ j ∈ v, es.getD j default = ([2, 0, 0, 0, 0, 0], 2)) → v.foldl (fun s j => joinS min s (es.getD j default)) s = ([2, 0, 0, 0, 0, 0], 2)
  | [], s, _, _, h => by
    rcases h with h | ⟨j, hj, _⟩
    · exact h
    · cases hj
  | i :: v, s, hv, hs, h => by
    have hi := hv i (.head _)
    have hq := he (es.getD i default) (by simp [List.getD, hi])
    obtain ⟨h1, h2⟩ := step_A hs hq
    refine join_A he v _ (fun j hj => hv j (.tail _ hj)) h1 ?_
    rcases h with h | ⟨j, hj, hje⟩
    · exact .inl (h2 (.inl h))
    · rcases List.mem_cons.1 hj with rfl | hj
      · exact .inl (h2 (.inr hje))
      · exact .inr ⟨j, hj, hje⟩
theorem knownBest (w : World) (p : Option Addr) (cap : Nat) (hr : LsAt w p [[-3, 5]]) : Calls Try.prog 25 #[bv p 1 cap] w (Post (X := HD) (fun h => .tuple #[gval h 1, .int .i64 2, .int .i64 0]) (fun h => goI (h, [2])) (fun h => gbI (h, [2])) w) := by
  refine (Best_ok w p cap [[-3, 5]] hr).mono ?_
  rintro e w' ⟨x, h1, ⟨h2, h3⟩, h4⟩
  have hv : validI [[-3, 5]] = 0 := by decide
  obtain ⟨k1, k2, k3⟩ := h3 hv
  have hm := k1.all vbA _ _ rhA2 rfl
  obtain ⟨q, hq, hqe⟩ := List.mem_map.1 hm
  obtain ⟨j, hj, rfl⟩ := List.getElem_of_mem hq
  have hjq : x.2.1.getD j default = ([2, 0, 0, 0, 0, 0], 2) := by
    have e1 : x.2.1.getD j default = x.2.1[j] := by simp [List.getD, hj]
    rw [e1]
    rcases ent_A k1 _ hq with h | h | h
    · rw [h] at hqe; exact absurd hqe (by decide)
    · rw [h] at hqe; exact absurd hqe (by decide)
    · exact h
  have hk : joinF min x.2.1 x.2.2 = ([2, 0, 0, 0, 0, 0], 2) := join_A (ent_A k1) _ _ k2.lt (.inl rfl) (.inr ⟨j, k3 j hj, hjq⟩)
  dsimp only at h1 h4
  rw [if_pos hv, hk] at h2 h4
  rw [if_pos hv, if_pos hv, hv, hk] at h1
  exact ⟨x.1, h1, h2, h4⟩
def L7 : List (List Int) := [[0, 0, 0, 0, 0, 0], [0, 1, 0, 0, 0, 0], [1, 0, 0, 0, 0, 0], [1, 1, 0, 0, 0, 0], [1, 2, 0, 0, 0, 0], [2, 1, 0, 0, 0, 0], [2, 2, 0, 0, 0, 0]]
theorem vbB : VB [[1, 1], [1, 1]] := vb_of (by decide)
theorem rh_B {k : List Int} (h : RH [[1, 1], [1, 1]] k) : k ∈ L7 := by
  match k, h.len, h with
  | [a, b, c, d, e, f], _, h =>
    have h0 : 0 ≤ a ∧ a ≤ 2 := h.rng 0 (by decide)
    have h1 : 0 ≤ b ∧ b ≤ 2 := h.rng 1 (by decide)
    have h2 : c = 0 := h.out 2 (by decide)
    have h3 : d = 0 := h.out 3 (by decide)
    have h4 : e = 0 := h.out 4 (by decide)
    have h5 : f = 0 := h.out 5 (by decide)
    have h6 : -1 ≤ b - a ∧ b - a ≤ 1 := h.stp 0 (by decide)
    subst h2; subst h3; subst h4; subst h5
    have ha : a = 0 ∨ a = 1 ∨ a = 2 := by omega
    have hb : b = 0 ∨ b = 1 ∨ b = 2 := by omega
    rcases ha with rfl | rfl | rfl <;> rcases hb with rfl | rfl | rfl <;> first | decide | omega
theorem rhB {a b : Int} (h0 : 0 ≤ a ∧ a ≤ 2) (h1 : 0 ≤ b ∧ b ≤ 2) (h6 : -1 ≤ b - a ∧ b - a ≤ 1) : RH [[1, 1], [1, 1]] [a, b, 0, 0, 0, 0] where
  len := rfl
  rng := fun c hc => by
    have : c = 0 ∨ c = 1 := by simp only [List.length_cons, List.length_nil] at hc; omega
    rcases this with rfl | rfl
    · exact h0
    · exact h1
  out := fun c hc => by
    match c, hc with
    | 2, _ | 3, _ | 4, _ | 5, _ => rfl
    | n + 6, _ => rfl
  stp := fun c hc => by
    have : c = 0 := by simp only [List.length_cons, List.length_nil] at hc; omega
    subst this
    exact h6
theorem count_B {es : List Ent} (h : WI [[1, 1], [1, 1]] es []) : es.length = 7 := by
  have e1 : (keysE es).length = es.length := List.length_map _
  have h1 := h.nd.length_le_of_subset (l₂ := L7) (fun k hk => by
    obtain ⟨q, hq, rfl⟩ := List.mem_map.1 hk
    exact rh_B (h.good q hq).1)
  have h2 := (show L7.Nodup by decide).length_le_of_subset (l₂ := keysE es) (fun k hk => by
    simp only [L7, List.mem_cons, List.not_mem_nil, or_false] at hk
    rcases hk with rfl | rfl | rfl | rfl | rfl | rfl | rfl <;> exact h.all vbB _ _ (rhB (by decide) (by decide) (by decide)) rfl)
  rw [e1] at h1 h2
  have : L7.length = 7 := rfl
  omega
theorem knownCount (w : World) (p : Option Addr) (cap : Nat) (hr : LsAt w p [[1, 1], [1, 1]]) : Calls Try.prog 45 #[bv p 2 cap] w (Post (X := Unit) (fun _ => .tuple #[.int .i64 7, .int .i64 0]) (fun _ => True) (fun _ => []) w) := by
  refine (Count_ok w p cap [[1, 1], [1, 1]] hr).mono ?_
  rintro e w' ⟨es, h1, h2, h4⟩
  have hv : validI [[1, 1], [1, 1]] = 0 := by decide
  have hc := count_B (h2 hv)
  dsimp only at h1
  rw [if_pos hv, hv, hc] at h1
  exact ⟨(), h1, trivial, h4⟩
theorem knownOpen (w : World) (p : Option Addr) (cap : Nat) (hr : LsAt w p [[0], [0], [0]]) (pl : Option Addr) (cl : Nat) (hx : IntsAt w pl [1, 0, 0]) : Calls Try.prog 51 #[bv p 3 cap, .slice pl 3 cl] w (Post (X := HD) (fun h => .tuple #[gval h 2, .int .i64 0]) (fun h => goI (h, [1, 2])) (fun h => gbI (h, [1, 2])) w) := by
  have h := Open_ok w p cap [[0], [0], [0]] hr pl cl [1, 0, 0] hx
  rw [show opnI [[0], [0], [0]] [1, 0, 0] = [1, 2] by decide, show holI [[0], [0], [0]] [1, 0, 0] = 0 by decide] at h
  exact h
theorem sameG (w : World) (h : HD) (xs : List Int) (ho : goI (h, xs)) (hi : IntsAt w (gp h) xs) (p2 : Option Addr) (c2 : Nat) (ys : List Int) (hy : IntsAt w p2 ys) (hl : xs.length ≤ 1000000) (hl2 : ys.length ≤ 1000000) :
    Calls Try.prog 29 #[gval h xs.length, .slice p2 ys.length c2] w (Post (X := Unit) (fun _ => .bool (decide (xs = ys))) (fun _ => True) (fun _ => []) w) := by
  rw [gval_eq ho]
  exact sameInts_ok w _ _ xs hi p2 c2 ys hy hl hl2


set_option maxRecDepth 100000 in
set_option maxHeartbeats 2000000 in
theorem sane_ok (w0 : World) :
    Calls Try.prog 18 #[] w0 (Post (X := Unit) (fun _ => .bool true) (fun _ => True) (fun _ => []) w0) := by
  refine calls Try.func18 rfl (n := 62) rfl (by simp) ?_
  refine TC.seq ?_
  refine TC.region ?_
  refine TL.pure (PV.assign rfl) rfl (by decide) ?_
  refine TL.nil ?_
  refine TQ.thenC ?_
  refine TC.seq ?_
  refine TC.region ?_
  refine TL.buildSlice (cs := #[.int .i64 (-3), .int .i64 5]) rfl Tb.sl_25 Tb.zi_3 (by decide) (fill_i2 _ _) (by decide) rfl (by decide) (fun c1 hc1 => ?_)
  refine TL.buildSlice (cs := #[.slice (some ⟨c1, 0, none⟩) 2 2]) rfl Tb.sl_22 Tb.zi_25 (by decide) (fill_o1 _ _) (by decide) rfl (by decide) (fun c2 hc2 => ?_)
  refine TL.pure (PV.build (cs := #[.slice (some ⟨c2, 0, none⟩) 1 1]) rfl Tb.zero_24 Tb.pl_24 rfl) rfl (by decide) ?_
  refine TL.call rfl Tb.gofn_25 (fun a w hs => knownBest w _ _ (LsAt.blks (rows := [(c1, [-3, 5])]) hs.new (by repeat (first | exact List.Mem.head _ | refine List.Mem.tail _ ?_ | refine List.mem_append_right _ ?_)) (by repeat (first | exact List.forall_mem_nil _ | refine List.forall_mem_cons.2 ⟨(by repeat (first | exact List.Mem.head _ | refine List.Mem.tail _ ?_ | refine List.mem_append_right _ ?_)), ?_⟩)))) rfl (by decide) (fun hA hhA => ?_)
  refine TL.pure (PV.move rfl) rfl (by decide) ?_
  refine TL.pure (PV.extract rfl rfl) rfl (by decide) ?_
  refine TL.pure (PV.extract rfl rfl) rfl (by decide) ?_
  refine TL.pure (PV.extract rfl rfl) rfl (by decide) ?_
  refine TL.pure (PV.assign rfl) rfl (by decide) ?_
  refine TL.pure (PV.assign rfl) rfl (by decide) ?_
  refine TL.pure (PV.assign rfl) rfl (by decide) ?_
  refine TL.nil ?_
  refine TQ.thenC ?_
  refine TC.seq ?_
  refine TC.region ?_
  refine TL.buildSlice (cs := #[.int .i64 1, .int .i64 1]) rfl Tb.sl_25 Tb.zi_3 (by decide) (fill_i2 _ _) (by decide) rfl (by decide) (fun c3 hc3 => ?_)
  refine TL.buildSlice (cs := #[.int .i64 1, .int .i64 1]) rfl Tb.sl_25 Tb.zi_3 (by decide) (fill_i2 _ _) (by decide) rfl (by decide) (fun c4 hc4 => ?_)
  refine TL.buildSlice (cs := #[.slice (some ⟨c3, 0, none⟩) 2 2, .slice (some ⟨c4, 0, none⟩) 2 2]) rfl Tb.sl_22 Tb.zi_25 (by decide) (fill_o2 _ _ _) (by decide) rfl (by decide) (fun c5 hc5 => ?_)
  refine TL.pure (PV.build (cs := #[.slice (some ⟨c5, 0, none⟩) 2 2]) rfl Tb.zero_24 Tb.pl_24 rfl) rfl (by decide) ?_
  refine TL.call rfl Tb.gofn_45 (fun a w hs => knownCount w _ _ (LsAt.blks (rows := [(c3, [1, 1]), (c4, [1, 1])]) hs.new (by repeat (first | exact List.Mem.head _ | refine List.Mem.tail _ ?_ | refine List.mem_append_right _ ?_)) (by repeat (first | exact List.forall_mem_nil _ | refine List.forall_mem_cons.2 ⟨(by repeat (first | exact List.Mem.head _ | refine List.Mem.tail _ ?_ | refine List.mem_append_right _ ?_)), ?_⟩)))) rfl (by decide) (fun _ _ => ?_)
  refine TL.pure (PV.move rfl) rfl (by decide) ?_
  refine TL.pure (PV.extract rfl rfl) rfl (by decide) ?_
  refine TL.pure (PV.extract rfl rfl) rfl (by decide) ?_
  refine TL.pure (PV.assign rfl) rfl (by decide) ?_
  refine TL.pure (PV.assign rfl) rfl (by decide) ?_
  refine TL.nil ?_
  refine TQ.thenC ?_
  refine TC.seq ?_
  refine TC.region ?_
  refine TL.buildSlice (cs := #[.int .i64 0]) rfl Tb.sl_25 Tb.zi_3 (by decide) (fill_i _) (by decide) rfl (by decide) (fun c6 hc6 => ?_)
  refine TL.buildSlice (cs := #[.int .i64 0]) rfl Tb.sl_25 Tb.zi_3 (by decide) (fill_i _) (by decide) rfl (by decide) (fun c7 hc7 => ?_)
  refine TL.buildSlice (cs := #[.int .i64 0]) rfl Tb.sl_25 Tb.zi_3 (by decide) (fill_i _) (by decide) rfl (by decide) (fun c8 hc8 => ?_)
  refine TL.buildSlice (cs := #[.slice (some ⟨c6, 0, none⟩) 1 1, .slice (some ⟨c7, 0, none⟩) 1 1, .slice (some ⟨c8, 0, none⟩) 1 1]) rfl Tb.sl_22 Tb.zi_25 (by decide) (fill_o3 _ _ _ _) (by decide) rfl (by decide) (fun c9 hc9 => ?_)
  refine TL.pure (PV.build (cs := #[.slice (some ⟨c9, 0, none⟩) 3 3]) rfl Tb.zero_24 Tb.pl_24 rfl) rfl (by decide) ?_
  refine TL.buildSlice (cs := #[.int .i64 1, .int .i64 0, .int .i64 0]) rfl Tb.sl_25 Tb.zi_3 (by decide) (fill_i3 _ _ _) (by decide) rfl (by decide) (fun d1 hd1 => ?_)
  refine TL.call rfl Tb.gofn_51 (fun a w hs => knownOpen w _ _ (LsAt.blks (rows := [(c6, [0]), (c7, [0]), (c8, [0])]) hs.new (by repeat (first | exact List.Mem.head _ | refine List.Mem.tail _ ?_ | refine List.mem_append_right _ ?_)) (by repeat (first | exact List.forall_mem_nil _ | refine List.forall_mem_cons.2 ⟨(by repeat (first | exact List.Mem.head _ | refine List.Mem.tail _ ?_ | refine List.mem_append_right _ ?_)), ?_⟩))) _ _ (IntsAt.arr (xs := [1, 0, 0]) hs.new (by repeat (first | exact List.Mem.head _ | refine List.Mem.tail _ ?_ | refine List.mem_append_right _ ?_)))) rfl (by decide) (fun hB hhB => ?_)
  refine TL.pure (PV.move rfl) rfl (by decide) ?_
  refine TL.pure (PV.extract rfl rfl) rfl (by decide) ?_
  refine TL.pure (PV.extract rfl rfl) rfl (by decide) ?_
  refine TL.pure (PV.assign rfl) rfl (by decide) ?_
  refine TL.pure (PV.assign rfl) rfl (by decide) ?_
  refine TL.nil ?_
  refine TQ.thenC ?_
  refine TC.seq ?_
  refine TC.region ?_
  refine TL.pure (PV.move rfl) rfl (by decide) ?_
  refine TL.pure (PV.eql rfl rfl) rfl (by decide) ?_
  refine TL.pure (PV.move rfl) rfl (by decide) ?_
  first | refine TL.splitD 36 rfl (fun h0 => ?_) (fun h0 => ?_) | refine TL.split 36 rfl (fun h0 => ?_) (fun h0 => ?_)
  · skip
    refine TL.pure (PV.move rfl) rfl (by decide) ?_
    refine TL.pure (PV.eql rfl rfl) rfl (by decide) ?_
    refine TL.pure (PV.pickT rfl rfl) rfl (by decide) ?_
    refine TL.pure (PV.move rfl) rfl (by decide) ?_
    first | refine TL.splitD 40 rfl (fun h1 => ?_) (fun h1 => ?_) | refine TL.split 40 rfl (fun h1 => ?_) (fun h1 => ?_)
    · skip
      refine TL.pure (PV.move rfl) rfl (by decide) ?_
      refine TL.buildSlice (cs := #[.int .i64 2]) rfl Tb.sl_25 Tb.zi_3 (by decide) (fill_i _) (by decide) rfl (by decide) (fun d2 hd2 => ?_)
      refine TL.call rfl Tb.gofn_29 (fun a w hs => sameG w hA [2] hhA (IntsAt.g hs.new (fun yy hyy => by repeat (first | exact List.mem_append_left _ hyy | refine List.mem_append_right _ ?_ | refine List.Mem.tail _ ?_)) hhA) _ _ [2] (IntsAt.arr (xs := [2]) hs.new (by repeat (first | exact List.Mem.head _ | refine List.Mem.tail _ ?_ | refine List.mem_append_right _ ?_))) (by decide) (by decide)) rfl (by decide) (fun _ _ => ?_)
      refine TL.pure (PV.pickT rfl rfl) rfl (by decide) ?_
      refine TL.pure (PV.move rfl) rfl (by decide) ?_
      first | refine TL.splitD 45 rfl (fun h2 => ?_) (fun h2 => ?_) | refine TL.split 45 rfl (fun h2 => ?_) (fun h2 => ?_)
      · skip
        refine TL.pure (PV.move rfl) rfl (by decide) ?_
        refine TL.pure (PV.eql rfl rfl) rfl (by decide) ?_
        refine TL.pure (PV.pickT rfl rfl) rfl (by decide) ?_
        refine TL.pure (PV.move rfl) rfl (by decide) ?_
        first | refine TL.splitD 49 rfl (fun h3 => ?_) (fun h3 => ?_) | refine TL.split 49 rfl (fun h3 => ?_) (fun h3 => ?_)
        · skip
          refine TL.pure (PV.move rfl) rfl (by decide) ?_
          refine TL.pure (PV.eql rfl rfl) rfl (by decide) ?_
          refine TL.pure (PV.pickT rfl rfl) rfl (by decide) ?_
          refine TL.pure (PV.move rfl) rfl (by decide) ?_
          first | refine TL.splitD 53 rfl (fun h4 => ?_) (fun h4 => ?_) | refine TL.split 53 rfl (fun h4 => ?_) (fun h4 => ?_)
          · skip
            refine TL.pure (PV.move rfl) rfl (by decide) ?_
            refine TL.pure (PV.eql rfl rfl) rfl (by decide) ?_
            refine TL.pure (PV.pickT rfl rfl) rfl (by decide) ?_
            refine TL.pure (PV.move rfl) rfl (by decide) ?_
            first | refine TL.splitD 57 rfl (fun h5 => ?_) (fun h5 => ?_) | refine TL.split 57 rfl (fun h5 => ?_) (fun h5 => ?_)
            · skip
              refine TL.pure (PV.move rfl) rfl (by decide) ?_
              refine TL.buildSlice (cs := #[.int .i64 1, .int .i64 2]) rfl Tb.sl_25 Tb.zi_3 (by decide) (fill_i2 _ _) (by decide) rfl (by decide) (fun d3 hd3 => ?_)
              refine TL.call rfl Tb.gofn_29 (fun a w hs => sameG w hB [1, 2] hhB (IntsAt.g hs.new (fun yy hyy => by repeat (first | exact List.mem_append_left _ hyy | refine List.mem_append_right _ ?_ | refine List.Mem.tail _ ?_)) hhB) _ _ [1, 2] (IntsAt.arr (xs := [1, 2]) hs.new (by repeat (first | exact List.Mem.head _ | refine List.Mem.tail _ ?_ | refine List.mem_append_right _ ?_))) (by decide) (by decide)) rfl (by decide) (fun _ _ => ?_)
              refine TL.pure (PV.pickT rfl rfl) rfl (by decide) ?_
              refine TL.pure (PV.assign rfl) rfl (by decide) ?_
              refine TL.nil ?_
              refine TQ.thenC ?_
              refine TC.ret ?_
              refine TQ.retE1 rfl rfl ?_
              first | exact ⟨(), rfl, trivial, List.nil_sublist _⟩ | (exfalso; simp_all; done)
            · skip
              refine TL.skip rfl (fun k hk => by cases hk; decide) ?_
              refine TL.skip rfl (fun k hk => by cases hk; decide) ?_
              refine TL.skip rfl (fun k hk => by cases hk; decide) ?_
              refine TL.pure (PV.pickF rfl rfl) rfl (by decide) ?_
              refine TL.pure (PV.assign rfl) rfl (by decide) ?_
              refine TL.nil ?_
              refine TQ.thenC ?_
              refine TC.ret ?_
              refine TQ.retE1 rfl rfl ?_
              first | exact ⟨(), rfl, trivial, List.nil_sublist _⟩ | (exfalso; simp_all; done)
          · skip
            refine TL.skip rfl (fun k hk => by cases hk; decide) ?_
            refine TL.skip rfl (fun k hk => by cases hk; decide) ?_
            refine TL.pure (PV.pickF rfl rfl) rfl (by decide) ?_
            refine TL.pure (PV.move rfl) rfl (by decide) ?_
            refine TL.skip rfl (fun k hk => by cases hk; decide) ?_
            refine TL.skip rfl (fun k hk => by cases hk; decide) ?_
            refine TL.skip rfl (fun k hk => by cases hk; decide) ?_
            refine TL.pure (PV.pickF rfl rfl) rfl (by decide) ?_
            refine TL.pure (PV.assign rfl) rfl (by decide) ?_
            refine TL.nil ?_
            refine TQ.thenC ?_
            refine TC.ret ?_
            refine TQ.retE1 rfl rfl ?_
            first | exact ⟨(), rfl, trivial, List.nil_sublist _⟩ | (exfalso; simp_all; done)
        · skip
          refine TL.skip rfl (fun k hk => by cases hk; decide) ?_
          refine TL.skip rfl (fun k hk => by cases hk; decide) ?_
          refine TL.pure (PV.pickF rfl rfl) rfl (by decide) ?_
          refine TL.pure (PV.move rfl) rfl (by decide) ?_
          refine TL.skip rfl (fun k hk => by cases hk; decide) ?_
          refine TL.skip rfl (fun k hk => by cases hk; decide) ?_
          refine TL.pure (PV.pickF rfl rfl) rfl (by decide) ?_
          refine TL.pure (PV.move rfl) rfl (by decide) ?_
          refine TL.skip rfl (fun k hk => by cases hk; decide) ?_
          refine TL.skip rfl (fun k hk => by cases hk; decide) ?_
          refine TL.skip rfl (fun k hk => by cases hk; decide) ?_
          refine TL.pure (PV.pickF rfl rfl) rfl (by decide) ?_
          refine TL.pure (PV.assign rfl) rfl (by decide) ?_
          refine TL.nil ?_
          refine TQ.thenC ?_
          refine TC.ret ?_
          refine TQ.retE1 rfl rfl ?_
          first | exact ⟨(), rfl, trivial, List.nil_sublist _⟩ | (exfalso; simp_all; done)
      · skip
        refine TL.skip rfl (fun k hk => by cases hk; decide) ?_
        refine TL.skip rfl (fun k hk => by cases hk; decide) ?_
        refine TL.pure (PV.pickF rfl rfl) rfl (by decide) ?_
        refine TL.pure (PV.move rfl) rfl (by decide) ?_
        refine TL.skip rfl (fun k hk => by cases hk; decide) ?_
        refine TL.skip rfl (fun k hk => by cases hk; decide) ?_
        refine TL.pure (PV.pickF rfl rfl) rfl (by decide) ?_
        refine TL.pure (PV.move rfl) rfl (by decide) ?_
        refine TL.skip rfl (fun k hk => by cases hk; decide) ?_
        refine TL.skip rfl (fun k hk => by cases hk; decide) ?_
        refine TL.pure (PV.pickF rfl rfl) rfl (by decide) ?_
        refine TL.pure (PV.move rfl) rfl (by decide) ?_
        refine TL.skip rfl (fun k hk => by cases hk; decide) ?_
        refine TL.skip rfl (fun k hk => by cases hk; decide) ?_
        refine TL.skip rfl (fun k hk => by cases hk; decide) ?_
        refine TL.pure (PV.pickF rfl rfl) rfl (by decide) ?_
        refine TL.pure (PV.assign rfl) rfl (by decide) ?_
        refine TL.nil ?_
        refine TQ.thenC ?_
        refine TC.ret ?_
        refine TQ.retE1 rfl rfl ?_
        first | exact ⟨(), rfl, trivial, List.nil_sublist _⟩ | (exfalso; simp_all; done)
    · skip
      refine TL.skip rfl (fun k hk => by cases hk; decide) ?_
      refine TL.skip rfl (fun k hk => by cases hk; decide) ?_
      refine TL.skip rfl (fun k hk => by cases hk; decide) ?_
      refine TL.pure (PV.pickF rfl rfl) rfl (by decide) ?_
      refine TL.pure (PV.move rfl) rfl (by decide) ?_
      refine TL.skip rfl (fun k hk => by cases hk; decide) ?_
      refine TL.skip rfl (fun k hk => by cases hk; decide) ?_
      refine TL.pure (PV.pickF rfl rfl) rfl (by decide) ?_
      refine TL.pure (PV.move rfl) rfl (by decide) ?_
      refine TL.skip rfl (fun k hk => by cases hk; decide) ?_
      refine TL.skip rfl (fun k hk => by cases hk; decide) ?_
      refine TL.pure (PV.pickF rfl rfl) rfl (by decide) ?_
      refine TL.pure (PV.move rfl) rfl (by decide) ?_
      refine TL.skip rfl (fun k hk => by cases hk; decide) ?_
      refine TL.skip rfl (fun k hk => by cases hk; decide) ?_
      refine TL.pure (PV.pickF rfl rfl) rfl (by decide) ?_
      refine TL.pure (PV.move rfl) rfl (by decide) ?_
      refine TL.skip rfl (fun k hk => by cases hk; decide) ?_
      refine TL.skip rfl (fun k hk => by cases hk; decide) ?_
      refine TL.skip rfl (fun k hk => by cases hk; decide) ?_
      refine TL.pure (PV.pickF rfl rfl) rfl (by decide) ?_
      refine TL.pure (PV.assign rfl) rfl (by decide) ?_
      refine TL.nil ?_
      refine TQ.thenC ?_
      refine TC.ret ?_
      refine TQ.retE1 rfl rfl ?_
      first | exact ⟨(), rfl, trivial, List.nil_sublist _⟩ | (exfalso; simp_all; done)
  · skip
    refine TL.skip rfl (fun k hk => by cases hk; decide) ?_
    refine TL.skip rfl (fun k hk => by cases hk; decide) ?_
    refine TL.pure (PV.pickF rfl rfl) rfl (by decide) ?_
    refine TL.pure (PV.move rfl) rfl (by decide) ?_
    refine TL.skip rfl (fun k hk => by cases hk; decide) ?_
    refine TL.skip rfl (fun k hk => by cases hk; decide) ?_
    refine TL.skip rfl (fun k hk => by cases hk; decide) ?_
    refine TL.pure (PV.pickF rfl rfl) rfl (by decide) ?_
    refine TL.pure (PV.move rfl) rfl (by decide) ?_
    refine TL.skip rfl (fun k hk => by cases hk; decide) ?_
    refine TL.skip rfl (fun k hk => by cases hk; decide) ?_
    refine TL.pure (PV.pickF rfl rfl) rfl (by decide) ?_
    refine TL.pure (PV.move rfl) rfl (by decide) ?_
    refine TL.skip rfl (fun k hk => by cases hk; decide) ?_
    refine TL.skip rfl (fun k hk => by cases hk; decide) ?_
    refine TL.pure (PV.pickF rfl rfl) rfl (by decide) ?_
    refine TL.pure (PV.move rfl) rfl (by decide) ?_
    refine TL.skip rfl (fun k hk => by cases hk; decide) ?_
    refine TL.skip rfl (fun k hk => by cases hk; decide) ?_
    refine TL.pure (PV.pickF rfl rfl) rfl (by decide) ?_
    refine TL.pure (PV.move rfl) rfl (by decide) ?_
    refine TL.skip rfl (fun k hk => by cases hk; decide) ?_
    refine TL.skip rfl (fun k hk => by cases hk; decide) ?_
    refine TL.skip rfl (fun k hk => by cases hk; decide) ?_
    refine TL.pure (PV.pickF rfl rfl) rfl (by decide) ?_
    refine TL.pure (PV.assign rfl) rfl (by decide) ?_
    refine TL.nil ?_
    refine TQ.thenC ?_
    refine TC.ret ?_
    refine TQ.retE1 rfl rfl ?_
    first | exact ⟨(), rfl, trivial, List.nil_sublist _⟩ | (exfalso; simp_all; done)

end Go.Proofs.Ytfgjojoipbbacaa

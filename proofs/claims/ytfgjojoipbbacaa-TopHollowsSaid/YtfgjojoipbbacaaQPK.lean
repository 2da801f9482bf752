/- The law of hollows and proofs: contract. -/
import Derived.Test.YtfgjojoipbbacaaQPJ
import Derived.Test.YtfgjojoipbbacaaQMN
import Derived.Test.YtfgjojoipbbacaaQDE
import Derived.Test.YtfgjojoipbbacaaQDB
set_option linter.unusedVariables false
set_option linter.unusedSimpArgs false
namespace Go.Proofs.Ytfgjojoipbbacaa
open Go.Sx Go.RowKit


section
variable {P : Program} {n : Nat} {w0 : World} {E : Env} {G : Heap} {d : Option Nat} {ty : TypeId} {pos : String} {aft : Array Edge} {g : Option (Nat × Bool)} {x y : Operand} {i j : Int} {t t' : TypeId}
theorem PV.neqE (hx : evo E x = some (.int .i64 i)) (hy : evo E y = some (.int .i64 j)) (h : i = j) : PV P n w0 E G ⟨d, .binOp .neq t x y t', ty, pos, aft, g⟩ (.bool false) := by
  subst h; exact PV.neqI hx hy
theorem PV.leqH (hx : evo E x = some (.int .i64 i)) (hy : evo E y = some (.int .i64 j)) (h : i ≤ j) : PV P n w0 E G ⟨d, .binOp .leq t x y t', ty, pos, aft, g⟩ (.bool true) := by
  have := PV.leq (P := P) (n := n) (w0 := w0) (G := G) (d := d) (t := t) (t' := t') (ty := ty) (pos := pos) (aft := aft) (g := g) hx hy
  rwa [decide_eq_true h] at this
theorem PV.geqH (hx : evo E x = some (.int .i64 i)) (hy : evo E y = some (.int .i64 j)) (h : j ≤ i) : PV P n w0 E G ⟨d, .binOp .geq t x y t', ty, pos, aft, g⟩ (.bool true) := by
  have := PV.geq (P := P) (n := n) (w0 := w0) (G := G) (d := d) (t := t) (t' := t') (ty := ty) (pos := pos) (aft := aft) (g := g) hx hy
  rwa [decide_eq_true h] at this
end
def IsV (w : World) (v : Value) (xs : List Int) : Prop := ∃ p c, v = .slice p xs.length c ∧ IntsAt w p xs
theorem IsV.g {w0 w : World} {G : Heap} {h : HD} {xs : List Int} (hn : New w0 w G) (hm : ∀ y ∈ gbI (h, xs), y ∈ G) (ho : goI (h, xs)) : IsV w (gval h xs.length) xs := ⟨_, _, gval_eq ho, IntsAt.g (x := (h, xs)) hn hm ho⟩
theorem IsV.p {w : World} {p : Option Addr} {c : Nat} {xs : List Int} (h : IntsAt w p xs) : IsV w (.slice p xs.length c) xs := ⟨_, _, rfl, h⟩
theorem worthV {w : World} {p : Option Addr} {cap : Nat} {ls : List (List Int)} (hr : LsAt w p ls) (hcap : CapsAt w p ls) {v : Value} {xs : List Int} (h : IsV w v xs) {m : Int} (h0 : holI ls xs = 0) (hm : worH ls xs = m) :
    Calls Try.prog 19 #[bv p ls.length cap, v] w (Post (X := Unit) (fun _ => .tuple #[.int .i64 m, .int .i64 0]) (fun _ => True) (fun _ => []) w) := by
  obtain ⟨q, c, rfl, hx⟩ := h
  have h9 := Worth_ok w p cap ls hr q c xs hx hcap
  rw [if_pos h0, h0, hm] at h9; exact h9
theorem orderV {w : World} {p : Option Addr} {cap : Nat} {ls : List (List Int)} (hr : LsAt w p ls) {v : Value} {xs : List Int} (h : IsV w v xs) (h0 : holI ls xs = 0) :
    Calls Try.prog 55 #[bv p ls.length cap, v] w (Post (X := HD × List Int) (fun y => .tuple #[gval y.1 y.2.length, .int .i64 0]) (fun y => OdP ls xs y.2 ∧ goI y) (fun y => gbI y) w) := by
  obtain ⟨q, c, rfl, hx⟩ := h
  have h9 := Order_ok w p cap ls hr q c xs hx
  rw [h0] at h9; exact h9
theorem checkV {w : World} {p : Option Addr} {cap : Nat} {ls : List (List Int)} (hr : LsAt w p ls) {v : Value} {g l : List Int} (h : IsV w v l) (h0 : holI ls g = 0) (ho : OdP ls g l) :
    Calls Try.prog 53 #[bv p ls.length cap, v] w (Post (X := HD × Int) (fun y => .tuple #[gval y.1 g.length, .int .i64 y.2, .int .i64 0]) (fun y => goI (y.1, g)) (fun y => gbI (y.1, g)) w) := by
  obtain ⟨q, c, rfl, hx⟩ := h
  refine (CheckOrder_ok w p cap ls hr q c l hx).mono fun e w' ⟨y, h1, ⟨h2, h3⟩, h4⟩ => ?_
  obtain ⟨e1, e2, e3⟩ := plans (by rw [h0]; decide) ho h2
  have h1' : e = .returned (.tuple #[gval y.1 y.2.l.length, .int .i64 y.2.n, .int .i64 y.2.e]) := h1
  have h4' : New w w' (gbI (y.1, y.2.l)) := h4
  rw [e3] at h3 h4'
  rw [e1, e3] at h1'
  exact ⟨(y.1, y.2.n), h1', h3, h4'⟩
theorem twoV {w : World} {p : Option Addr} {cap : Nat} {ls : List (List Int)} (hr : LsAt w p ls) {v u : Value} {xs ys : List Int} (h : IsV w v xs) (k : IsV w u ys) (h0 : twoI ls xs ys = 0) :
    Calls Try.prog 31 #[bv p ls.length cap, v, u] w (Post (X := HD) (fun h => .tuple #[gval h (jnL min ls xs ys).length, .int .i64 0]) (fun h => goI (h, jnL min ls xs ys)) (fun h => gbI (h, jnL min ls xs ys)) w) ∧
    Calls Try.prog 33 #[bv p ls.length cap, v, u] w (Post (X := HD) (fun h => .tuple #[gval h (jnL max ls xs ys).length, .int .i64 0]) (fun h => goI (h, jnL max ls xs ys)) (fun h => gbI (h, jnL max ls xs ys)) w) := by
  obtain ⟨q, c, rfl, hx⟩ := h
  obtain ⟨q2, c2, rfl, hy⟩ := k
  have h9 := Both_ok w p cap ls hr q c xs hx q2 c2 ys hy
  have h8 := Either_ok w p cap ls hr q c xs hx q2 c2 ys hy
  rw [h0] at h9 h8; exact ⟨h9, h8⟩
theorem rh4 {k : List Int} : RH [[1], [1]] k ↔ k ∈ [[0, 0, 0, 0, 0, 0], [0, 1, 0, 0, 0, 0], [1, 0, 0, 0, 0, 0], [1, 1, 0, 0, 0, 0]] := by
  constructor
  · intro h
    match k, h.len with
    | [a, b, c, d, e, f], _ =>
      have h0 := h.rng 0 (by decide)
      have h1 := h.rng 1 (by decide)
      have h2 := h.out 2 (by decide)
      have h3 := h.out 3 (by decide)
      have h4 := h.out 4 (by decide)
      have h5 := h.out 5 (by decide)
      have hd : (dep [[1], [1]] : Int) = 1 := by decide
      rw [hd] at h0 h1
      simp only [List.getD_cons_zero, List.getD_cons_succ] at h0 h1 h2 h3 h4 h5
      subst h2; subst h3; subst h4; subst h5
      have ha : a = 0 ∨ a = 1 := by omega
      have hb : b = 0 ∨ b = 1 := by omega
      rcases ha with rfl | rfl <;> rcases hb with rfl | rfl <;> simp
  · intro h
    have hout : ∀ (a b : Int) (c : Nat), 2 ≤ c → [a, b, 0, 0, 0, 0].getD c 0 = 0 := fun a b c hc => by
      match c, hc with
      | 2, _ => rfl
      | 3, _ => rfl
      | 4, _ => rfl
      | 5, _ => rfl
      | c + 6, _ => rfl
    simp only [List.mem_cons, List.not_mem_nil, or_false] at h
    rcases h with rfl | rfl | rfl | rfl <;> refine ⟨rfl, fun c hc => ?_, fun c hc => hout _ _ c hc, fun c hc => ?_⟩
    all_goals first
      | (have e : c = 0 := by simp only [List.length_cons, List.length_nil] at hc; omega
         subst e; decide)
      | (have e : c = 0 ∨ c = 1 := by simp only [List.length_cons, List.length_nil] at hc; omega
         rcases e with rfl | rfl <;> decide)
theorem count4 {es : List Ent} (hw : WI [[1], [1]] es []) : es.length = 4 := by
  have hb : VB [[1], [1]] := vb_of (by decide)
  have hp : (keysE es).Perm [[0, 0, 0, 0, 0, 0], [0, 1, 0, 0, 0, 0], [1, 0, 0, 0, 0, 0], [1, 1, 0, 0, 0, 0]] := by
    refine (List.perm_ext_iff_of_nodup hw.nd (by decide)).2 fun k => ⟨fun h => ?_, fun h => WI.all hb hw _ k (rh4.2 h) rfl⟩
    obtain ⟨q, hq, e⟩ := List.mem_map.1 h
    have hr := (hw.good q hq).1
    rw [e] at hr
    exact rh4.1 hr
  have := hp.length_eq
  simpa [keysE] using this
theorem cnt2_ok {w : World} {q : Option Addr} (h : LsAt w q [[1], [1]]) : Calls Try.prog 45 #[bv q 2 2] w (Post (X := Unit) (fun _ => .tuple #[.int .i64 4, .int .i64 0]) (fun _ => True) (fun _ => []) w) := by
  have hv : validI [[1], [1]] = 0 := by decide
  refine (Count_ok w q 2 [[1], [1]] h).mono fun e w' ⟨es, h1, h2, h3⟩ => ?_
  have h4 : es.length = 4 := count4 (h2 hv)
  have h1' : e = .returned (.tuple #[.int .i64 (if validI [[1], [1]] = 0 then (es.length : Int) else 0), .int .i64 (validI [[1], [1]])]) := h1
  rw [hv, if_pos rfl, h4] at h1'
  exact ⟨(), h1', trivial, h3⟩
theorem fill_b24 (b : Nat) : Instr.fill ([(0, 1)][·]?) #[.slice none 0 0] [(0, Value.slice (some ⟨b, 0, none⟩) 2 2)] = some #[.slice (some ⟨b, 0, none⟩) 2 2] := by kernel_rfl
theorem ho_tol {ls : List (List Int)} {b : Int} {u : List Int} (hv : ¬ validI ls ≠ 0) (h : HO (tolL ls b) u) : HO ls u := by
  have hb := vb_of hv
  have hn := hb.n
  refine ⟨⟨hb, by have := h.len; rw [tol_len] at this; exact this, fun k => by have := h.at_ k; rw [dep_tol (by omega)] at this; exact this⟩, fun k hk => h.stp k (by rw [tol_len]; exact hk)⟩
theorem bst_min_ex {ls : List (List Int)} (hv : ¬ validI ls ≠ 0) : ∃ xs n, BstP min ls xs n := by
  have hb := vb_of hv
  have hf : ∀ l : List (List Int), l ≠ [] → ∃ t ∈ l, ∀ u ∈ l, worH ls u ≤ worH ls t := fun l => by
    induction l with
    | nil => intro h; exact absurd rfl h
    | cons a l ih =>
      intro _
      by_cases e : l = []
      · subst e; exact ⟨a, .head _, fun u hu => by rw [List.mem_singleton.1 hu]; exact Int.le_refl _⟩
      · obtain ⟨t, h1, h2⟩ := ih e
        by_cases h3 : worH ls t ≤ worH ls a
        · exact ⟨a, .head _, fun u hu => by
            rcases List.mem_cons.1 hu with rfl | hu
            · exact Int.le_refl _
            · exact Int.le_trans (h2 u hu) h3⟩
        · exact ⟨t, .tail _ h1, fun u hu => by
            rcases List.mem_cons.1 hu with rfl | hu
            · omega
            · exact h2 u hu⟩
  obtain ⟨t, h1, h2⟩ := hf (allH ls) (fun e => by have := allH_pos hb; rw [e] at this; exact absurd this (by decide))
  exact ⟨_, _, bst_fold jn_min hb h2 ⟨t, h1, rfl⟩⟩
theorem min_lie {u v : List Int} (h : lieB u v = true) : List.zipWith min u v = u := by
  obtain ⟨h1, h2⟩ := of_decide_eq_true h
  apply List.ext_getElem (by rw [List.length_zipWith]; omega)
  intro j g1 g2
  have := h2 j g2
  simp only [List.getD, List.getElem?_eq_getElem g2, List.getElem?_eq_getElem (show j < v.length by omega), Option.getD_some] at this
  rw [List.getElem_zipWith]
  omega


set_option maxRecDepth 100000 in
theorem same5_ok (w0 : World) (pl : Option Addr) (cl : Nat) (xs : List Int) (hx : IntsAt w0 pl xs) (p2 : Option Addr) (c2 : Nat) (ys : List Int) (hy : IntsAt w0 p2 ys) (hl : xs.length ≤ 1000000) (hl2 : ys.length ≤ 1000000) :
    Calls Try.prog 60 #[.slice pl xs.length cl, .slice p2 ys.length c2] w0 (Post (X := Unit) (fun _ => .bool (decide (xs = ys))) (fun _ => True) (fun _ => []) w0) := by
  refine calls Try.func60 rfl (n := 26) rfl (by simp) ?_
  refine TC.seq ?_
  refine TC.region ?_
  refine TL.pure (PV.assign rfl) rfl (by decide) ?_
  refine TL.nil ?_
  refine TQ.thenC ?_
  refine TC.seq ?_
  refine TC.seq ?_
  refine TC.region ?_
  refine TL.pure (PV.move rfl) rfl (by decide) ?_
  refine TL.pure (PV.len rfl Tb.sl_25) rfl (by decide) ?_
  refine TL.pure (PV.move rfl) rfl (by decide) ?_
  refine TL.pure (PV.len rfl Tb.sl_25) rfl (by decide) ?_
  refine TL.pure (PV.neq rfl rfl) rfl (by decide) ?_
  refine TL.nil ?_
  refine TQ.thenC ?_
  first | refine TC.condD rfl (fun hne => ?_) (fun hne => ?_) | refine TC.cond rfl (fun hne => ?_) (fun hne => ?_)
  · skip
    refine TC.seq ?_
    refine TC.region ?_
    refine TL.pure (PV.assign rfl) rfl (by decide) ?_
    refine TL.nil ?_
    refine TQ.thenC ?_
    refine TC.ret ?_
    refine TQ.thenR ?_
    refine TQ.retE1 rfl rfl ?_
    exact ⟨(), by rw [decide_eq_false (fun e => by subst e; omega)], trivial, List.nil_sublist _⟩
  · skip
    refine TC.skip ?_
    refine TQ.thenC ?_
    refine TC.seq ?_
    refine TC.seq ?_
    refine TC.region ?_
    refine TL.pure (PV.assign rfl) rfl (by decide) ?_
    refine TL.nil ?_
    refine TQ.thenC ?_
    refine TC.block ?_
    -- live and written in the loop, not told: [4]
    refine TC.loopG [0, 1] (X := Nat) (fun k => k ≤ xs.length ∧ ∀ j, j < k → xs.getD j 0 = ys.getD j 0) (fun k => [(5, .int .i64 k)]) (fun k => xs.length - k) 0 ⟨Nat.zero_le _, fun j hj => absurd hj (Nat.not_lt_zero _)⟩ (by repeat (first | exact True.intro | refine And.intro rfl ?_)) ?_
    intro k hk
    refine TC.seq ?_
    refine TC.seq ?_
    refine TC.region ?_
    refine TL.pure (PV.move rfl) rfl (by decide) ?_
    refine TL.pure (PV.move rfl) rfl (by decide) ?_
    refine TL.pure (PV.len rfl Tb.sl_25) rfl (by decide) ?_
    refine TL.pure (PV.lss rfl rfl) rfl (by decide) ?_
    refine TL.nil ?_
    refine TQ.thenC ?_
    first | refine TC.condD rfl (fun hlt => ?_) (fun hlt => ?_) | refine TC.cond rfl (fun hlt => ?_) (fun hlt => ?_)
    · skip
      refine TC.skip ?_
      refine TQ.thenC ?_
      refine TC.seq ?_
      refine TC.block ?_
      refine TC.seq ?_
      obtain ⟨q1, hq1p, hq1⟩ := hx k (by omega)
      obtain ⟨q2, hq2p, hq2⟩ := hy k (by omega)
      refine TC.any Tb.mixed rfl rfl ?_
      refine TA.op (OpOK.pure (PV.move rfl) rfl (by decide)) (by decide) ?_
      refine TA.op (OpOK.pure (PV.move rfl) rfl (by decide)) (by decide) ?_
      refine TA.op (OpOK.pure (PV.indexA rfl hq1p rfl Tb.elm_25 rfl (by omega)) rfl (by decide)) (by decide) ?_
      refine TA.op (OpOK.pure (PV.loadOld rfl Tb.one_3 hq1) rfl (by decide)) (by decide) ?_
      refine TA.op (OpOK.pure (PV.move rfl) rfl (by decide)) (by decide) ?_
      refine TA.op (OpOK.pure (PV.move rfl) rfl (by decide)) (by decide) ?_
      refine TA.op (OpOK.pure (PV.indexA rfl hq2p rfl Tb.elm_25 rfl (by omega)) rfl (by decide)) (by decide) ?_
      refine TA.op (OpOK.pure (PV.loadOld rfl Tb.one_3 hq2) rfl (by decide)) (by decide) ?_
      refine TA.op (OpOK.pure (PV.neq rfl rfl) rfl (by decide)) (by decide) ?_
      show TQ _ _ _ _ _
      refine TQ.thenC ?_
      first | refine TC.condD rfl (fun hno => ?_) (fun hno => ?_) | refine TC.cond rfl (fun hno => ?_) (fun hno => ?_)
      · skip
        refine TC.seq ?_
        refine TC.region ?_
        refine TL.pure (PV.assign rfl) rfl (by decide) ?_
        refine TL.nil ?_
        refine TQ.thenC ?_
        refine TC.ret ?_
        refine TQ.blkR ?_
        refine TQ.thenR ?_
        refine TQ.thenR ?_
        refine TQ.blkR ?_
        refine TQ.thenR ?_
        refine TQ.retE1 rfl rfl ?_
        exact ⟨(), by rw [decide_eq_false (fun e => by subst e; omega)], trivial, List.nil_sublist _⟩
      · skip
        refine TC.skip ?_
        refine TQ.blkN ?_
        refine TQ.thenC ?_
        refine TC.region ?_
        refine TL.pure (PV.move rfl) rfl (by decide) ?_
        refine TL.pure (PV.add rfl rfl (by omega)) rfl (by decide) ?_
        refine TL.pure (PV.assign rfl) rfl (by decide) ?_
        refine TL.nil ?_
        refine TQ.thenN ?_
        refine TQ.backK (k + 1) (by repeat (first | exact True.intro | refine And.intro rfl ?_)) (by repeat (first | exact True.intro | refine And.intro rfl ?_)) (by repeat (first | exact List.Sublist.slnil | exact List.nil_sublist _ | exact List.Sublist.refl _ | refine List.Sublist.cons_cons _ ?_ | refine List.Sublist.cons _ ?_ | refine List.Sublist.trans ?_ (List.sublist_append_right _ _))) ⟨by omega, fun j hj => if e : j < k then hk.2 j e else (show k = j by omega) ▸ (by omega)⟩ (by omega)
    · skip
      refine TC.exit ?_
      refine TQ.thenE ?_
      refine TQ.thenE ?_
      refine TQ.blkS ?_
      refine TQ.thenC ?_
      refine TC.seq ?_
      refine TC.region ?_
      refine TL.pure (PV.assign rfl) rfl (by decide) ?_
      refine TL.nil ?_
      refine TQ.thenC ?_
      refine TC.ret ?_
      refine TQ.retE1 rfl rfl ?_
      exact ⟨(), by rw [decide_eq_true (ints_ext (by omega) (fun j hj => hk.2 j (by omega)))], trivial, List.nil_sublist _⟩

set_option maxRecDepth 100000 in
set_option maxHeartbeats 4000000 in
theorem topHollows_ok (w0 : World) (p : Option Addr) (cap : Nat) (ls : List (List Int)) (hr : LsAt w0 p ls) (hl2 : ls.length ≤ 9223372036854775807) (hcap : CapsAt w0 p ls) (pl : Option Addr) (cl : Nat) (xs : List Int) (hx : IntsAt w0 pl xs) (i : Int) (hi : -9223372036854775808 ≤ i ∧ i ≤ 9223372036854775807) :
    Calls Try.prog 16 #[bv p ls.length cap, .slice pl xs.length cl, .int .i64 i] w0 (Post (X := Unit) (fun _ => .bool true) (fun _ => True) (fun _ => []) w0) := by
  refine calls Try.func16 rfl (n := 243) rfl (by simp) ?_
  refine TC.seq ?_
  refine TC.region ?_
  refine TL.box rfl rfl (by decide) (fun b0 hb0 => ?_)
  refine TL.pure (PV.assign rfl) rfl (by decide) ?_
  refine TL.nil ?_
  refine TQ.thenC ?_
  refine TC.seq ?_
  refine TC.region ?_
  refine TL.buildSlice (cs := #[.int .i64 1]) rfl Tb.sl_25 Tb.zi_3 (by decide) (by kernel_rfl) (by decide) rfl (by decide) (fun bA hbA => ?_)
  refine TL.buildSlice (cs := #[.int .i64 1]) rfl Tb.sl_25 Tb.zi_3 (by decide) (by kernel_rfl) (by decide) rfl (by decide) (fun bB hbB => ?_)
  refine TL.buildSlice (cs := #[.slice (some ⟨bA, 0, none⟩) 1 1, .slice (some ⟨bB, 0, none⟩) 1 1]) rfl Tb.sl_22 Tb.zi_25 (by decide) (fill_oo _ _ _ _ _ _) (by decide) rfl (by decide) (fun bC hbC => ?_)
  refine TL.pure (PV.build rfl Tb.zero_24 Tb.pl_24 (fill_b24 _)) rfl (by decide) ?_
  refine TL.call rfl Tb.gofn_45 (fun a w hs => cnt2_ok (LsAt.two (xs := [1]) (ys := [1]) hs.new (by repeat (first | exact List.Mem.head _ | refine List.Mem.tail _ ?_ | refine List.mem_append_right _ ?_)) (IntsAt.arr hs.new (by repeat (first | exact List.Mem.head _ | refine List.Mem.tail _ ?_ | refine List.mem_append_right _ ?_))) (IntsAt.arr hs.new (by repeat (first | exact List.Mem.head _ | refine List.Mem.tail _ ?_ | refine List.mem_append_right _ ?_))))) rfl (by decide) (fun _ _ => ?_)
  refine TL.pure (PV.move rfl) rfl (by decide) ?_
  refine TL.pure (PV.extract rfl rfl) rfl (by decide) ?_
  refine TL.pure (PV.extract rfl rfl) rfl (by decide) ?_
  refine TL.pure (PV.assign rfl) rfl (by decide) ?_
  refine TL.pure (PV.assign rfl) rfl (by decide) ?_
  refine TL.nil ?_
  refine TQ.thenC ?_
  refine TC.seq ?_
  refine TC.seq ?_
  refine TC.region ?_
  refine TL.pure (PV.move rfl) rfl (by decide) ?_
  refine TL.pure (PV.neqI rfl rfl) rfl (by decide) ?_
  refine TL.pure (PV.move rfl) rfl (by decide) ?_
  refine TL.pure (PV.move rfl) rfl (by decide) ?_
  refine TL.pure (PV.neqI rfl rfl) rfl (by decide) ?_
  refine TL.pure (PV.pickF rfl rfl) rfl (by decide) ?_
  refine TL.nil ?_
  refine TQ.thenC ?_
  refine TC.condF rfl ?_
  refine TC.skip ?_
  refine TQ.thenC ?_
  refine TC.seq ?_
  refine TC.seq ?_
  refine TC.region ?_
  refine TL.pure (PV.loadBox rfl Tb.agg_24 (by repeat (first | exact List.Mem.head _ | refine List.Mem.tail _ ?_ | refine List.mem_append_right _ ?_)) rfl) rfl (by decide) ?_
  refine TL.pure (PV.move rfl) rfl (by decide) ?_
  refine TL.buildSlice (cs := #[.slice pl xs.length cl]) rfl Tb.sl_22 Tb.zi_25 (by decide) (fill_o _ _ _) (by decide) rfl (by decide) (fun bS hbS => ?_)
  refine TL.call rfl Tb.gofn_17 (fun a w hs => long_ok w _ _ _ (hr.new hs.new) _ 1 [xs] (LsAt.one hs.new (by repeat (first | exact List.Mem.head _ | refine List.Mem.tail _ ?_ | refine List.mem_append_right _ ?_)) (hx.new hs.new)) (show 1 ≤ 1000 by decide) hl2) rfl (by decide) (fun _ _ => ?_)
  refine TL.nil ?_
  refine TQ.thenC ?_
  first | refine TC.condD rfl (fun h0 => ?_) (fun h0 => ?_) | refine TC.cond rfl (fun h0 => ?_) (fun h0 => ?_)
  · skip
    refine TC.seq ?_
    refine TC.region ?_
    refine TL.pure (PV.assign rfl) rfl (by decide) ?_
    refine TL.nil ?_
    refine TQ.thenC ?_
    refine TC.ret ?_
    refine TQ.thenR ?_
    refine TQ.retE1 rfl rfl ?_
    exact ⟨(), rfl, trivial, List.nil_sublist _⟩
  · skip
    refine TC.skip ?_
    refine TQ.thenC ?_
    refine TC.seq ?_
    refine TC.region ?_
    refine TL.pure (PV.loadBox rfl Tb.agg_24 (by repeat (first | exact List.Mem.head _ | refine List.Mem.tail _ ?_ | refine List.mem_append_right _ ?_)) rfl) rfl (by decide) ?_
    refine TL.call rfl Tb.gofn_25 (fun a w hs => best_ok w _ _ _ (hr.new hs.new)) rfl (by decide) (fun z1 hz1 => ?_)
    refine TL.pure (PV.move rfl) rfl (by decide) ?_
    refine TL.pure (PV.extract rfl rfl) rfl (by decide) ?_
    refine TL.pure (PV.extract rfl rfl) rfl (by decide) ?_
    refine TL.pure (PV.extract rfl rfl) rfl (by decide) ?_
    refine TL.pure (PV.assign rfl) rfl (by decide) ?_
    refine TL.pure (PV.assign rfl) rfl (by decide) ?_
    refine TL.pure (PV.assign rfl) rfl (by decide) ?_
    refine TL.nil ?_
    refine TQ.thenC ?_
    refine TC.seq ?_
    refine TC.region ?_
    refine TL.pure (PV.loadBox rfl Tb.agg_24 (by repeat (first | exact List.Mem.head _ | refine List.Mem.tail _ ?_ | refine List.mem_append_right _ ?_)) rfl) rfl (by decide) ?_
    refine TL.call rfl Tb.gofn_27 (fun a w hs => deepest_ok w _ _ _ (hr.new hs.new)) rfl (by decide) (fun z2 hz2 => ?_)
    refine TL.pure (PV.move rfl) rfl (by decide) ?_
    refine TL.pure (PV.extract rfl rfl) rfl (by decide) ?_
    refine TL.pure (PV.extract rfl rfl) rfl (by decide) ?_
    refine TL.pure (PV.extract rfl rfl) rfl (by decide) ?_
    refine TL.pure (PV.assign rfl) rfl (by decide) ?_
    refine TL.pure (PV.assign rfl) rfl (by decide) ?_
    refine TL.pure (PV.assign rfl) rfl (by decide) ?_
    refine TL.nil ?_
    refine TQ.thenC ?_
    refine TC.seq ?_
    refine TC.region ?_
    refine TL.pure (PV.loadBox rfl Tb.agg_24 (by repeat (first | exact List.Mem.head _ | refine List.Mem.tail _ ?_ | refine List.mem_append_right _ ?_)) rfl) rfl (by decide) ?_
    refine TL.call rfl Tb.gofn_59 (fun a w hs => Proof_ok w _ _ _ (hr.new hs.new)) rfl (by decide) (fun z3 hz3 => ?_)
    refine TL.pure (PV.move rfl) rfl (by decide) ?_
    refine TL.pure (PV.extract rfl rfl) rfl (by decide) ?_
    refine TL.pure (PV.extract rfl rfl) rfl (by decide) ?_
    refine TL.pure (PV.assign rfl) rfl (by decide) ?_
    refine TL.pure (PV.assign rfl) rfl (by decide) ?_
    refine TL.nil ?_
    refine TQ.thenC ?_
    refine TC.seq ?_
    refine TC.seq ?_
    refine TC.region ?_
    refine TL.pure (PV.move rfl) rfl (by decide) ?_
    refine TL.pure (PV.move rfl) rfl (by decide) ?_
    refine TL.pure (PV.neqI rfl rfl) rfl (by decide) ?_
    refine TL.pure (PV.move rfl) rfl (by decide) ?_
    refine TL.pure (PV.move rfl) rfl (by decide) ?_
    refine TL.pure (PV.move rfl) rfl (by decide) ?_
    refine TL.pure (PV.neqI rfl rfl) rfl (by decide) ?_
    refine TL.pure (PV.pickF rfl rfl) rfl (by decide) ?_
    refine TL.nil ?_
    refine TQ.thenC ?_
    refine TC.condF rfl ?_
    refine TC.skip ?_
    refine TQ.thenC ?_
    refine TC.seq ?_
    refine TC.seq ?_
    refine TC.region ?_
    refine TL.pure (PV.move rfl) rfl (by decide) ?_
    refine TL.pure (PV.neq rfl rfl) rfl (by decide) ?_
    refine TL.nil ?_
    refine TQ.thenC ?_
    first | refine TC.condD rfl (fun h78 => ?_) (fun h78 => ?_) | refine TC.cond rfl (fun h78 => ?_) (fun h78 => ?_)
    · skip
      refine TC.seq ?_
      refine TC.region ?_
      refine TL.pure (PV.loadBox rfl Tb.agg_24 (by repeat (first | exact List.Mem.head _ | refine List.Mem.tail _ ?_ | refine List.mem_append_right _ ?_)) rfl) rfl (by decide) ?_
      refine TL.call rfl Tb.gofn_21 (fun a w hs => validate_ok w _ _ _ (hr.new hs.new)) rfl (by decide) (fun _ _ => ?_)
      refine TL.pure (PV.move rfl) rfl (by decide) ?_
      refine TL.pure (PV.eqlI rfl rfl) rfl (by decide) ?_
      refine TL.pure (PV.assign rfl) rfl (by decide) ?_
      refine TL.nil ?_
      refine TQ.thenC ?_
      refine TC.ret ?_
      refine TQ.thenR ?_
      refine TQ.retE1 rfl rfl ?_
      exact ⟨(), rfl, trivial, List.nil_sublist _⟩
    · skip
      have hB1 := hz1.1.ok h78
      have hB2 := hz2.1.ok h78
      have hvv := hB1.top hB2
      have hpe := prf_eq h78 hz3.2 hz1.1
      have hd0 := ho_to h78 hB2.ho
      have hw2 : worH ls z2.2.1 = z1.2.2 := by rw [hB2.w]; exact hvv.symm
      have hl9 : z2.2.1.length ≤ 1000000 := by have := hB2.ho.len; have := (vb_of h78).n; omega
      refine TC.skip ?_
      refine TQ.thenC ?_
      refine TC.seq ?_
      refine TC.region ?_
      refine TL.pure (PV.loadBox rfl Tb.agg_24 (by repeat (first | exact List.Mem.head _ | refine List.Mem.tail _ ?_ | refine List.mem_append_right _ ?_)) rfl) rfl (by decide) ?_
      refine TL.pure (PV.move rfl) rfl (by decide) ?_
      refine TL.call rfl Tb.gofn_57 (fun a w hs => by have h9 := CheckProof_ok w p cap ls (hr.new hs.new) (gp z3.1) (gc z3.1) z3.2 (RecsAt.s hs.new (by intro y9 hy9; repeat (first | exact hy9 | exact List.mem_append_left _ hy9 | refine List.mem_append_right _ ?_ | refine List.Mem.tail _ ?_)) hz3.1); rw [← gval_eq hz3.1, hpe.1, hpe.2] at h9; exact h9) rfl (by decide) (fun _ _ => ?_)
      refine TL.pure (PV.move rfl) rfl (by decide) ?_
      refine TL.pure (PV.extract rfl rfl) rfl (by decide) ?_
      refine TL.pure (PV.extract rfl rfl) rfl (by decide) ?_
      refine TL.pure (PV.assign rfl) rfl (by decide) ?_
      refine TL.pure (PV.assign rfl) rfl (by decide) ?_
      refine TL.nil ?_
      refine TQ.thenC ?_
      refine TC.seq ?_
      refine TC.region ?_
      refine TL.pure (PV.loadBox rfl Tb.agg_24 (by repeat (first | exact List.Mem.head _ | refine List.Mem.tail _ ?_ | refine List.mem_append_right _ ?_)) rfl) rfl (by decide) ?_
      refine TL.pure (PV.move rfl) rfl (by decide) ?_
      refine TL.call rfl Tb.gofn_55 (fun a w hs => orderV (hr.new hs.new) (IsV.g (h := z2.1) (xs := z2.2.1) hs.new (by intro y9 hy9; repeat (first | exact hy9 | exact List.mem_append_left _ hy9 | refine List.mem_append_right _ ?_ | refine List.Mem.tail _ ?_)) hz2.2) hd0) rfl (by decide) (fun z5 hz5 => ?_)
      refine TL.pure (PV.move rfl) rfl (by decide) ?_
      refine TL.pure (PV.extract rfl rfl) rfl (by decide) ?_
      refine TL.pure (PV.extract rfl rfl) rfl (by decide) ?_
      refine TL.pure (PV.assign rfl) rfl (by decide) ?_
      refine TL.pure (PV.assign rfl) rfl (by decide) ?_
      refine TL.nil ?_
      refine TQ.thenC ?_
      refine TC.seq ?_
      refine TC.region ?_
      refine TL.pure (PV.loadBox rfl Tb.agg_24 (by repeat (first | exact List.Mem.head _ | refine List.Mem.tail _ ?_ | refine List.mem_append_right _ ?_)) rfl) rfl (by decide) ?_
      refine TL.pure (PV.move rfl) rfl (by decide) ?_
      refine TL.call rfl Tb.gofn_53 (fun a w hs => checkV (hr.new hs.new) (IsV.g (h := z5.1) (xs := z5.2) hs.new (by intro y9 hy9; repeat (first | exact hy9 | exact List.mem_append_left _ hy9 | refine List.mem_append_right _ ?_ | refine List.Mem.tail _ ?_)) hz5.2) hd0 hz5.1) rfl (by decide) (fun z6 hz6 => ?_)
      refine TL.pure (PV.move rfl) rfl (by decide) ?_
      refine TL.pure (PV.extract rfl rfl) rfl (by decide) ?_
      refine TL.pure (PV.extract rfl rfl) rfl (by decide) ?_
      refine TL.pure (PV.extract rfl rfl) rfl (by decide) ?_
      refine TL.pure (PV.assign rfl) rfl (by decide) ?_
      refine TL.pure (PV.assign rfl) rfl (by decide) ?_
      refine TL.pure (PV.assign rfl) rfl (by decide) ?_
      refine TL.nil ?_
      refine TQ.thenC ?_
      refine TC.seq ?_
      refine TC.region ?_
      refine TL.pure (PV.loadBox rfl Tb.agg_24 (by repeat (first | exact List.Mem.head _ | refine List.Mem.tail _ ?_ | refine List.mem_append_right _ ?_)) rfl) rfl (by decide) ?_
      refine TL.pure (PV.move rfl) rfl (by decide) ?_
      refine TL.call rfl Tb.gofn_19 (fun a w hs => worthV (hr.new hs.new) (hcap.new hr hs.new) (IsV.g (h := z2.1) (xs := z2.2.1) hs.new (by intro y9 hy9; repeat (first | exact hy9 | exact List.mem_append_left _ hy9 | refine List.mem_append_right _ ?_ | refine List.Mem.tail _ ?_)) hz2.2) hd0 hw2) rfl (by decide) (fun _ _ => ?_)
      refine TL.pure (PV.move rfl) rfl (by decide) ?_
      refine TL.pure (PV.extract rfl rfl) rfl (by decide) ?_
      refine TL.pure (PV.extract rfl rfl) rfl (by decide) ?_
      refine TL.pure (PV.assign rfl) rfl (by decide) ?_
      refine TL.pure (PV.assign rfl) rfl (by decide) ?_
      refine TL.nil ?_
      refine TQ.thenC ?_
      refine TC.seq ?_
      refine TC.seq ?_
      refine TC.region ?_
      refine TL.pure (PV.move rfl) rfl (by decide) ?_
      refine TL.pure (PV.neqI rfl rfl) rfl (by decide) ?_
      refine TL.pure (PV.move rfl) rfl (by decide) ?_
      refine TL.pure (PV.move rfl) rfl (by decide) ?_
      refine TL.pure (PV.neqI rfl rfl) rfl (by decide) ?_
      refine TL.pure (PV.pickF rfl rfl) rfl (by decide) ?_
      refine TL.pure (PV.move rfl) rfl (by decide) ?_
      refine TL.pure (PV.move rfl) rfl (by decide) ?_
      refine TL.pure (PV.neqI rfl rfl) rfl (by decide) ?_
      refine TL.pure (PV.pickF rfl rfl) rfl (by decide) ?_
      refine TL.pure (PV.move rfl) rfl (by decide) ?_
      refine TL.pure (PV.move rfl) rfl (by decide) ?_
      refine TL.pure (PV.neqI rfl rfl) rfl (by decide) ?_
      refine TL.pure (PV.pickF rfl rfl) rfl (by decide) ?_
      refine TL.pure (PV.move rfl) rfl (by decide) ?_
      refine TL.pure (PV.move rfl) rfl (by decide) ?_
      refine TL.pure (PV.move rfl) rfl (by decide) ?_
      refine TL.pure (PV.neqE rfl rfl hvv) rfl (by decide) ?_
      refine TL.pure (PV.pickF rfl rfl) rfl (by decide) ?_
      refine TL.pure (PV.move rfl) rfl (by decide) ?_
      refine TL.pure (PV.move rfl) rfl (by decide) ?_
      refine TL.pure (PV.move rfl) rfl (by decide) ?_
      refine TL.pure (PV.neqI rfl rfl) rfl (by decide) ?_
      refine TL.pure (PV.pickF rfl rfl) rfl (by decide) ?_
      refine TL.pure (PV.move rfl) rfl (by decide) ?_
      refine TL.pure (PV.move rfl) rfl (by decide) ?_
      refine TL.pure (PV.move rfl) rfl (by decide) ?_
      refine TL.pure (PV.neqI rfl rfl) rfl (by decide) ?_
      refine TL.pure (PV.pickF rfl rfl) rfl (by decide) ?_
      refine TL.pure (PV.move rfl) rfl (by decide) ?_
      refine TL.pure (PV.move rfl) rfl (by decide) ?_
      refine TL.pure (PV.move rfl) rfl (by decide) ?_
      refine TL.call rfl Tb.gofn_60 (fun a w hs => by obtain ⟨q1, c1, e1, i1⟩ := (IsV.g (h := z6.1) (xs := z2.2.1) hs.new (by intro y9 hy9; repeat (first | exact hy9 | exact List.mem_append_left _ hy9 | refine List.mem_append_right _ ?_ | refine List.Mem.tail _ ?_)) hz6); obtain ⟨q2, c2, e2, i2⟩ := (IsV.g (h := z2.1) (xs := z2.2.1) hs.new (by intro y9 hy9; repeat (first | exact hy9 | exact List.mem_append_left _ hy9 | refine List.mem_append_right _ ?_ | refine List.Mem.tail _ ?_)) hz2.2); rw [e1, e2]; have h9 := same5_ok w q1 c1 _ i1 q2 c2 _ i2 hl9 hl9; rw [decide_eq_true rfl] at h9; exact h9) rfl (by decide) (fun _ _ => ?_)
      refine TL.pure (PV.not rfl) rfl (by decide) ?_
      refine TL.pure (PV.pickF rfl rfl) rfl (by decide) ?_
      refine TL.nil ?_
      refine TQ.thenC ?_
      refine TC.condF rfl ?_
      refine TC.skip ?_
      refine TQ.thenC ?_
      refine TC.seq ?_
      refine TC.region ?_
      refine TL.pure (PV.loadBox rfl Tb.agg_24 (by repeat (first | exact List.Mem.head _ | refine List.Mem.tail _ ?_ | refine List.mem_append_right _ ?_)) rfl) rfl (by decide) ?_
      refine TL.pure (PV.move rfl) rfl (by decide) ?_
      refine TL.call rfl Tb.gofn_39 (fun a w hs => Toll_ok w _ _ _ (hr.new hs.new) i) rfl (by decide) (fun z4 hz4 => ?_)
      refine TL.pure (PV.move rfl) rfl (by decide) ?_
      refine TL.pure (PV.extract rfl rfl) rfl (by decide) ?_
      refine TL.pure (PV.extract rfl rfl) rfl (by decide) ?_
      refine TL.alloc Tb.zero_24 rfl (by decide) (fun b1 hb1 => ?_)
      refine TL.storeAgg rfl rfl Tb.cells_24 (by repeat (first | exact Upd.head _ | apply Upd.tail | apply Upd.appR)) rfl rfl (gvP_all _) rfl rfl ?_
      refine TL.pure (PV.assign rfl) rfl (by decide) ?_
      refine TL.nil ?_
      refine TQ.thenC ?_
      refine TC.seq ?_
      refine TC.seq ?_
      refine TC.region ?_
      refine TL.pure (PV.move rfl) rfl (by decide) ?_
      refine TL.pure (PV.eql rfl rfl) rfl (by decide) ?_
      refine TL.pure (PV.move rfl) rfl (by decide) ?_
      first | refine TL.splitD 151 rfl (fun t0 => ?_) (fun t0 => ?_) | refine TL.split 151 rfl (fun t0 => ?_) (fun t0 => ?_)
      · skip
        refine TL.pure (PV.move rfl) rfl (by decide) ?_
        refine TL.pure (PV.geq rfl rfl) rfl (by decide) ?_
        refine TL.pure (PV.pickT rfl rfl) rfl (by decide) ?_
        refine TL.nil ?_
        refine TQ.thenC ?_
        first | refine TC.condD rfl (fun g9 => ?_) (fun g9 => ?_) | refine TC.cond rfl (fun g9 => ?_) (fun g9 => ?_)
        · skip
          refine TC.seq ?_
          refine TC.region ?_
          refine TL.pure (PV.loadBox rfl Tb.agg_24 (by repeat (first | exact List.Mem.head _ | refine List.Mem.tail _ ?_ | refine List.mem_append_right _ ?_)) rfl) rfl (by decide) ?_
          refine TL.call rfl Tb.gofn_27 (fun a w hs => (by rw [hz4.val]; exact deepest_ok w _ _ _ (hz4.lsAt hs.new (fun yy hyy => by simp only [List.mem_append, List.mem_cons]; simp [hyy]) (fun yy hyy => by simp only [List.mem_append, List.mem_cons]; simp [hyy])))) rfl (by decide) (fun z7 hz7 => ?_)
          have t1 := tolI_0 t0
          have he0 : validI (tolR ls i) = 0 := by rw [tolR_ok t0]; exact Decidable.of_not_not t1.2.2
          have hz71 := hz7.1
          rw [tolR_ok t0] at hz71
          have hBt := hz71.ok t1.2.2
          have hut := ho_to h78 (ho_tol h78 hBt.ho)
          have htw : twoI ls z7.2.1 z2.2.1 = 0 := by rw [two_y (by rw [hut]; decide)]; exact hd0
          obtain ⟨xb, nb, hBb⟩ := bst_min_ex t1.2.2
          have hli := (tolls g9 hBb hB1 hBt hB2).2.2
          have hju : jnL min ls z7.2.1 z2.2.1 = z7.2.1 := by rw [jn_ok htw]; exact min_lie hli
          rw [he0]
          have hlu : z7.2.1.length ≤ 1000000 := by have := (ho_tol h78 hBt.ho).len; have := (vb_of h78).n; omega
          refine TL.pure (PV.move rfl) rfl (by decide) ?_
          refine TL.pure (PV.extract rfl rfl) rfl (by decide) ?_
          refine TL.pure (PV.extract rfl rfl) rfl (by decide) ?_
          refine TL.pure (PV.extract rfl rfl) rfl (by decide) ?_
          refine TL.pure (PV.assign rfl) rfl (by decide) ?_
          refine TL.pure (PV.assign rfl) rfl (by decide) ?_
          refine TL.pure (PV.assign rfl) rfl (by decide) ?_
          refine TL.nil ?_
          refine TQ.thenC ?_
          refine TC.seq ?_
          refine TC.region ?_
          refine TL.pure (PV.loadBox rfl Tb.agg_24 (by repeat (first | exact List.Mem.head _ | refine List.Mem.tail _ ?_ | refine List.mem_append_right _ ?_)) rfl) rfl (by decide) ?_
          refine TL.pure (PV.move rfl) rfl (by decide) ?_
          refine TL.pure (PV.move rfl) rfl (by decide) ?_
          refine TL.call rfl Tb.gofn_31 (fun a w hs => by have h9 := (twoV (cap := cap) (hr.new hs.new) (IsV.g (h := z7.1) (xs := z7.2.1) hs.new (by intro y9 hy9; repeat (first | exact hy9 | exact List.mem_append_left _ hy9 | refine List.mem_append_right _ ?_ | refine List.Mem.tail _ ?_)) hz7.2) (IsV.g (h := z2.1) (xs := z2.2.1) hs.new (by intro y9 hy9; repeat (first | exact hy9 | exact List.mem_append_left _ hy9 | refine List.mem_append_right _ ?_ | refine List.Mem.tail _ ?_)) hz2.2) htw).1; rw [hju] at h9; exact h9) rfl (by decide) (fun z8 hz8 => ?_)
          refine TL.pure (PV.move rfl) rfl (by decide) ?_
          refine TL.pure (PV.extract rfl rfl) rfl (by decide) ?_
          refine TL.pure (PV.extract rfl rfl) rfl (by decide) ?_
          refine TL.pure (PV.assign rfl) rfl (by decide) ?_
          refine TL.pure (PV.assign rfl) rfl (by decide) ?_
          refine TL.nil ?_
          refine TQ.thenC ?_
          refine TC.seq ?_
          refine TC.region ?_
          refine TL.pure (PV.move rfl) rfl (by decide) ?_
          refine TL.pure (PV.neqI rfl rfl) rfl (by decide) ?_
          refine TL.pure (PV.move rfl) rfl (by decide) ?_
          refine TL.pure (PV.move rfl) rfl (by decide) ?_
          refine TL.pure (PV.neqI rfl rfl) rfl (by decide) ?_
          refine TL.pure (PV.pickF rfl rfl) rfl (by decide) ?_
          refine TL.pure (PV.move rfl) rfl (by decide) ?_
          refine TL.pure (PV.move rfl) rfl (by decide) ?_
          refine TL.pure (PV.move rfl) rfl (by decide) ?_
          refine TL.call rfl Tb.gofn_60 (fun a w hs => by obtain ⟨q1, c1, e1, i1⟩ := (IsV.g (h := z8) (xs := z7.2.1) hs.new (by intro y9 hy9; repeat (first | exact hy9 | exact List.mem_append_left _ hy9 | refine List.mem_append_right _ ?_ | refine List.Mem.tail _ ?_)) hz8); obtain ⟨q2, c2, e2, i2⟩ := (IsV.g (h := z7.1) (xs := z7.2.1) hs.new (by intro y9 hy9; repeat (first | exact hy9 | exact List.mem_append_left _ hy9 | refine List.mem_append_right _ ?_ | refine List.Mem.tail _ ?_)) hz7.2); rw [e1, e2]; have h9 := same5_ok w q1 c1 _ i1 q2 c2 _ i2 hlu hlu; rw [decide_eq_true rfl] at h9; exact h9) rfl (by decide) (fun _ _ => ?_)
          refine TL.pure (PV.not rfl) rfl (by decide) ?_
          refine TL.pure (PV.pickF rfl rfl) rfl (by decide) ?_
          refine TL.nil ?_
          refine TQ.thenC ?_
          refine TC.condF rfl ?_
          refine TC.skip ?_
          refine TQ.thenC ?_
          refine TC.seq ?_
          refine TC.region ?_
          refine TL.pure (PV.loadBox rfl Tb.agg_24 (by repeat (first | exact List.Mem.head _ | refine List.Mem.tail _ ?_ | refine List.mem_append_right _ ?_)) rfl) rfl (by decide) ?_
          refine TL.pure (PV.move rfl) rfl (by decide) ?_
          refine TL.call rfl Tb.gofn_19 (fun a w hs => Worth_ok w _ _ _ (hr.new hs.new) _ _ _ (hx.new hs.new) (hcap.new hr hs.new)) rfl (by decide) (fun _ _ => ?_)
          refine TL.pure (PV.move rfl) rfl (by decide) ?_
          refine TL.pure (PV.extract rfl rfl) rfl (by decide) ?_
          refine TL.pure (PV.extract rfl rfl) rfl (by decide) ?_
          refine TL.pure (PV.assign rfl) rfl (by decide) ?_
          refine TL.pure (PV.assign rfl) rfl (by decide) ?_
          refine TL.nil ?_
          refine TQ.thenC ?_
          refine TC.seq ?_
          refine TC.seq ?_
          refine TC.region ?_
          refine TL.pure (PV.move rfl) rfl (by decide) ?_
          refine TL.pure (PV.neq rfl rfl) rfl (by decide) ?_
          refine TL.nil ?_
          refine TQ.thenC ?_
          first | refine TC.condD rfl (fun h187 => ?_) (fun h187 => ?_) | refine TC.cond rfl (fun h187 => ?_) (fun h187 => ?_)
          · skip
            refine TC.seq ?_
            refine TC.region ?_
            refine TL.pure (PV.assign rfl) rfl (by decide) ?_
            refine TL.nil ?_
            refine TQ.thenC ?_
            refine TC.ret ?_
            refine TQ.thenR ?_
            refine TQ.retE1 rfl rfl ?_
            exact ⟨(), rfl, trivial, List.nil_sublist _⟩
          · skip
            have hx0 : holI ls xs = 0 := Decidable.of_not_not h187
            have ht1 : twoI ls xs z1.2.1 = 0 := by rw [two_y h187]; exact ho_to h78 hB1.ho
            have ht2 : twoI ls xs z2.2.1 = 0 := by rw [two_y h187]; exact hd0
            have hj1 := joins (fun h => h ht1)
            have hj2 := joins (fun h => h ht2)
            have hxm := hB1.max xs (ho_of h187)
            have hm1 := hB1.max _ (ho_of (by rw [hj1.1]; decide))
            have hm2 := hB1.max _ (ho_of (by rw [hj2.2.1]; decide))
            have hw1 := hB1.w
            have ifx : (if holI ls xs = 0 then worH ls xs else 0) = worH ls xs := if_pos hx0
            have hjs1 := hj1.2.2.2.2
            have hjs2 := hj2.2.2.2.2
            refine TC.skip ?_
            refine TQ.thenC ?_
            refine TC.seq ?_
            refine TC.region ?_
            refine TL.pure (PV.loadBox rfl Tb.agg_24 (by repeat (first | exact List.Mem.head _ | refine List.Mem.tail _ ?_ | refine List.mem_append_right _ ?_)) rfl) rfl (by decide) ?_
            refine TL.pure (PV.move rfl) rfl (by decide) ?_
            refine TL.pure (PV.move rfl) rfl (by decide) ?_
            refine TL.call rfl Tb.gofn_33 (fun a w hs => (twoV (hr.new hs.new) (IsV.p (hx.new hs.new)) (IsV.g (h := z1.1) (xs := z1.2.1) hs.new (by intro y9 hy9; repeat (first | exact hy9 | exact List.mem_append_left _ hy9 | refine List.mem_append_right _ ?_ | refine List.Mem.tail _ ?_)) hz1.2) ht1).2) rfl (by decide) (fun za hza => ?_)
            refine TL.pure (PV.move rfl) rfl (by decide) ?_
            refine TL.pure (PV.extract rfl rfl) rfl (by decide) ?_
            refine TL.pure (PV.extract rfl rfl) rfl (by decide) ?_
            refine TL.pure (PV.assign rfl) rfl (by decide) ?_
            refine TL.pure (PV.assign rfl) rfl (by decide) ?_
            refine TL.nil ?_
            refine TQ.thenC ?_
            refine TC.seq ?_
            refine TC.region ?_
            refine TL.pure (PV.loadBox rfl Tb.agg_24 (by repeat (first | exact List.Mem.head _ | refine List.Mem.tail _ ?_ | refine List.mem_append_right _ ?_)) rfl) rfl (by decide) ?_
            refine TL.pure (PV.move rfl) rfl (by decide) ?_
            refine TL.pure (PV.move rfl) rfl (by decide) ?_
            refine TL.call rfl Tb.gofn_31 (fun a w hs => (twoV (hr.new hs.new) (IsV.p (hx.new hs.new)) (IsV.g (h := z2.1) (xs := z2.2.1) hs.new (by intro y9 hy9; repeat (first | exact hy9 | exact List.mem_append_left _ hy9 | refine List.mem_append_right _ ?_ | refine List.Mem.tail _ ?_)) hz2.2) ht2).1) rfl (by decide) (fun zb hzb => ?_)
            refine TL.pure (PV.move rfl) rfl (by decide) ?_
            refine TL.pure (PV.extract rfl rfl) rfl (by decide) ?_
            refine TL.pure (PV.extract rfl rfl) rfl (by decide) ?_
            refine TL.pure (PV.assign rfl) rfl (by decide) ?_
            refine TL.pure (PV.assign rfl) rfl (by decide) ?_
            refine TL.nil ?_
            refine TQ.thenC ?_
            refine TC.seq ?_
            refine TC.region ?_
            refine TL.pure (PV.loadBox rfl Tb.agg_24 (by repeat (first | exact List.Mem.head _ | refine List.Mem.tail _ ?_ | refine List.mem_append_right _ ?_)) rfl) rfl (by decide) ?_
            refine TL.pure (PV.move rfl) rfl (by decide) ?_
            refine TL.call rfl Tb.gofn_19 (fun a w hs => worthV (hr.new hs.new) (hcap.new hr hs.new) (IsV.g (h := za) (xs := jnL max ls xs z1.2.1) hs.new (by intro y9 hy9; repeat (first | exact hy9 | exact List.mem_append_left _ hy9 | refine List.mem_append_right _ ?_ | refine List.Mem.tail _ ?_)) hza) hj1.2.1 rfl) rfl (by decide) (fun _ _ => ?_)
            refine TL.pure (PV.move rfl) rfl (by decide) ?_
            refine TL.pure (PV.extract rfl rfl) rfl (by decide) ?_
            refine TL.pure (PV.extract rfl rfl) rfl (by decide) ?_
            refine TL.pure (PV.assign rfl) rfl (by decide) ?_
            refine TL.pure (PV.assign rfl) rfl (by decide) ?_
            refine TL.nil ?_
            refine TQ.thenC ?_
            refine TC.seq ?_
            refine TC.region ?_
            refine TL.pure (PV.loadBox rfl Tb.agg_24 (by repeat (first | exact List.Mem.head _ | refine List.Mem.tail _ ?_ | refine List.mem_append_right _ ?_)) rfl) rfl (by decide) ?_
            refine TL.pure (PV.move rfl) rfl (by decide) ?_
            refine TL.call rfl Tb.gofn_19 (fun a w hs => worthV (hr.new hs.new) (hcap.new hr hs.new) (IsV.g (h := zb) (xs := jnL min ls xs z2.2.1) hs.new (by intro y9 hy9; repeat (first | exact hy9 | exact List.mem_append_left _ hy9 | refine List.mem_append_right _ ?_ | refine List.Mem.tail _ ?_)) hzb) hj2.1 rfl) rfl (by decide) (fun _ _ => ?_)
            refine TL.pure (PV.move rfl) rfl (by decide) ?_
            refine TL.pure (PV.extract rfl rfl) rfl (by decide) ?_
            refine TL.pure (PV.extract rfl rfl) rfl (by decide) ?_
            refine TL.pure (PV.assign rfl) rfl (by decide) ?_
            refine TL.pure (PV.assign rfl) rfl (by decide) ?_
            refine TL.nil ?_
            refine TQ.thenC ?_
            refine TC.seq ?_
            refine TC.region ?_
            refine TL.pure (PV.move rfl) rfl (by decide) ?_
            refine TL.pure (PV.eqlI rfl rfl) rfl (by decide) ?_
            refine TL.pure (PV.move rfl) rfl (by decide) ?_
            refine TL.pure (PV.move rfl) rfl (by decide) ?_
            refine TL.pure (PV.eqlI rfl rfl) rfl (by decide) ?_
            refine TL.pure (PV.pickT rfl rfl) rfl (by decide) ?_
            refine TL.pure (PV.move rfl) rfl (by decide) ?_
            refine TL.pure (PV.move rfl) rfl (by decide) ?_
            refine TL.pure (PV.eqlI rfl rfl) rfl (by decide) ?_
            refine TL.pure (PV.pickT rfl rfl) rfl (by decide) ?_
            refine TL.pure (PV.move rfl) rfl (by decide) ?_
            refine TL.pure (PV.move rfl) rfl (by decide) ?_
            refine TL.pure (PV.eqlI rfl rfl) rfl (by decide) ?_
            refine TL.pure (PV.pickT rfl rfl) rfl (by decide) ?_
            refine TL.pure (PV.move rfl) rfl (by decide) ?_
            refine TL.pure (PV.move rfl) rfl (by decide) ?_
            refine TL.pure (PV.move rfl) rfl (by decide) ?_
            refine TL.pure (PV.leqH rfl rfl (by omega)) rfl (by decide) ?_
            refine TL.pure (PV.pickT rfl rfl) rfl (by decide) ?_
            refine TL.pure (PV.move rfl) rfl (by decide) ?_
            refine TL.pure (PV.move rfl) rfl (by decide) ?_
            refine TL.pure (PV.move rfl) rfl (by decide) ?_
            refine TL.pure (PV.geqH rfl rfl (by omega)) rfl (by decide) ?_
            refine TL.pure (PV.pickT rfl rfl) rfl (by decide) ?_
            refine TL.pure (PV.move rfl) rfl (by decide) ?_
            refine TL.pure (PV.move rfl) rfl (by decide) ?_
            refine TL.pure (PV.move rfl) rfl (by decide) ?_
            refine TL.pure (PV.geqH rfl rfl (by omega)) rfl (by decide) ?_
            refine TL.pure (PV.pickT rfl rfl) rfl (by decide) ?_
            refine TL.pure (PV.assign rfl) rfl (by decide) ?_
            refine TL.nil ?_
            refine TQ.thenC ?_
            refine TC.ret ?_
            refine TQ.retE1 rfl rfl ?_
            exact ⟨(), rfl, trivial, List.nil_sublist _⟩
        · skip
          refine TC.skip ?_
          refine TQ.thenC ?_
          refine TC.seq ?_
          refine TC.region ?_
          refine TL.pure (PV.loadBox rfl Tb.agg_24 (by repeat (first | exact List.Mem.head _ | refine List.Mem.tail _ ?_ | refine List.mem_append_right _ ?_)) rfl) rfl (by decide) ?_
          refine TL.pure (PV.move rfl) rfl (by decide) ?_
          refine TL.call rfl Tb.gofn_19 (fun a w hs => Worth_ok w _ _ _ (hr.new hs.new) _ _ _ (hx.new hs.new) (hcap.new hr hs.new)) rfl (by decide) (fun _ _ => ?_)
          refine TL.pure (PV.move rfl) rfl (by decide) ?_
          refine TL.pure (PV.extract rfl rfl) rfl (by decide) ?_
          refine TL.pure (PV.extract rfl rfl) rfl (by decide) ?_
          refine TL.pure (PV.assign rfl) rfl (by decide) ?_
          refine TL.pure (PV.assign rfl) rfl (by decide) ?_
          refine TL.nil ?_
          refine TQ.thenC ?_
          refine TC.seq ?_
          refine TC.seq ?_
          refine TC.region ?_
          refine TL.pure (PV.move rfl) rfl (by decide) ?_
          refine TL.pure (PV.neq rfl rfl) rfl (by decide) ?_
          refine TL.nil ?_
          refine TQ.thenC ?_
          first | refine TC.condD rfl (fun h187 => ?_) (fun h187 => ?_) | refine TC.cond rfl (fun h187 => ?_) (fun h187 => ?_)
          · skip
            refine TC.seq ?_
            refine TC.region ?_
            refine TL.pure (PV.assign rfl) rfl (by decide) ?_
            refine TL.nil ?_
            refine TQ.thenC ?_
            refine TC.ret ?_
            refine TQ.thenR ?_
            refine TQ.retE1 rfl rfl ?_
            exact ⟨(), rfl, trivial, List.nil_sublist _⟩
          · skip
            have hx0 : holI ls xs = 0 := Decidable.of_not_not h187
            have ht1 : twoI ls xs z1.2.1 = 0 := by rw [two_y h187]; exact ho_to h78 hB1.ho
            have ht2 : twoI ls xs z2.2.1 = 0 := by rw [two_y h187]; exact hd0
            have hj1 := joins (fun h => h ht1)
            have hj2 := joins (fun h => h ht2)
            have hxm := hB1.max xs (ho_of h187)
            have hm1 := hB1.max _ (ho_of (by rw [hj1.1]; decide))
            have hm2 := hB1.max _ (ho_of (by rw [hj2.2.1]; decide))
            have hw1 := hB1.w
            have ifx : (if holI ls xs = 0 then worH ls xs else 0) = worH ls xs := if_pos hx0
            have hjs1 := hj1.2.2.2.2
            have hjs2 := hj2.2.2.2.2
            refine TC.skip ?_
            refine TQ.thenC ?_
            refine TC.seq ?_
            refine TC.region ?_
            refine TL.pure (PV.loadBox rfl Tb.agg_24 (by repeat (first | exact List.Mem.head _ | refine List.Mem.tail _ ?_ | refine List.mem_append_right _ ?_)) rfl) rfl (by decide) ?_
            refine TL.pure (PV.move rfl) rfl (by decide) ?_
            refine TL.pure (PV.move rfl) rfl (by decide) ?_
            refine TL.call rfl Tb.gofn_33 (fun a w hs => (twoV (hr.new hs.new) (IsV.p (hx.new hs.new)) (IsV.g (h := z1.1) (xs := z1.2.1) hs.new (by intro y9 hy9; repeat (first | exact hy9 | exact List.mem_append_left _ hy9 | refine List.mem_append_right _ ?_ | refine List.Mem.tail _ ?_)) hz1.2) ht1).2) rfl (by decide) (fun za hza => ?_)
            refine TL.pure (PV.move rfl) rfl (by decide) ?_
            refine TL.pure (PV.extract rfl rfl) rfl (by decide) ?_
            refine TL.pure (PV.extract rfl rfl) rfl (by decide) ?_
            refine TL.pure (PV.assign rfl) rfl (by decide) ?_
            refine TL.pure (PV.assign rfl) rfl (by decide) ?_
            refine TL.nil ?_
            refine TQ.thenC ?_
            refine TC.seq ?_
            refine TC.region ?_
            refine TL.pure (PV.loadBox rfl Tb.agg_24 (by repeat (first | exact List.Mem.head _ | refine List.Mem.tail _ ?_ | refine List.mem_append_right _ ?_)) rfl) rfl (by decide) ?_
            refine TL.pure (PV.move rfl) rfl (by decide) ?_
            refine TL.pure (PV.move rfl) rfl (by decide) ?_
            refine TL.call rfl Tb.gofn_31 (fun a w hs => (twoV (hr.new hs.new) (IsV.p (hx.new hs.new)) (IsV.g (h := z2.1) (xs := z2.2.1) hs.new (by intro y9 hy9; repeat (first | exact hy9 | exact List.mem_append_left _ hy9 | refine List.mem_append_right _ ?_ | refine List.Mem.tail _ ?_)) hz2.2) ht2).1) rfl (by decide) (fun zb hzb => ?_)
            refine TL.pure (PV.move rfl) rfl (by decide) ?_
            refine TL.pure (PV.extract rfl rfl) rfl (by decide) ?_
            refine TL.pure (PV.extract rfl rfl) rfl (by decide) ?_
            refine TL.pure (PV.assign rfl) rfl (by decide) ?_
            refine TL.pure (PV.assign rfl) rfl (by decide) ?_
            refine TL.nil ?_
            refine TQ.thenC ?_
            refine TC.seq ?_
            refine TC.region ?_
            refine TL.pure (PV.loadBox rfl Tb.agg_24 (by repeat (first | exact List.Mem.head _ | refine List.Mem.tail _ ?_ | refine List.mem_append_right _ ?_)) rfl) rfl (by decide) ?_
            refine TL.pure (PV.move rfl) rfl (by decide) ?_
            refine TL.call rfl Tb.gofn_19 (fun a w hs => worthV (hr.new hs.new) (hcap.new hr hs.new) (IsV.g (h := za) (xs := jnL max ls xs z1.2.1) hs.new (by intro y9 hy9; repeat (first | exact hy9 | exact List.mem_append_left _ hy9 | refine List.mem_append_right _ ?_ | refine List.Mem.tail _ ?_)) hza) hj1.2.1 rfl) rfl (by decide) (fun _ _ => ?_)
            refine TL.pure (PV.move rfl) rfl (by decide) ?_
            refine TL.pure (PV.extract rfl rfl) rfl (by decide) ?_
            refine TL.pure (PV.extract rfl rfl) rfl (by decide) ?_
            refine TL.pure (PV.assign rfl) rfl (by decide) ?_
            refine TL.pure (PV.assign rfl) rfl (by decide) ?_
            refine TL.nil ?_
            refine TQ.thenC ?_
            refine TC.seq ?_
            refine TC.region ?_
            refine TL.pure (PV.loadBox rfl Tb.agg_24 (by repeat (first | exact List.Mem.head _ | refine List.Mem.tail _ ?_ | refine List.mem_append_right _ ?_)) rfl) rfl (by decide) ?_
            refine TL.pure (PV.move rfl) rfl (by decide) ?_
            refine TL.call rfl Tb.gofn_19 (fun a w hs => worthV (hr.new hs.new) (hcap.new hr hs.new) (IsV.g (h := zb) (xs := jnL min ls xs z2.2.1) hs.new (by intro y9 hy9; repeat (first | exact hy9 | exact List.mem_append_left _ hy9 | refine List.mem_append_right _ ?_ | refine List.Mem.tail _ ?_)) hzb) hj2.1 rfl) rfl (by decide) (fun _ _ => ?_)
            refine TL.pure (PV.move rfl) rfl (by decide) ?_
            refine TL.pure (PV.extract rfl rfl) rfl (by decide) ?_
            refine TL.pure (PV.extract rfl rfl) rfl (by decide) ?_
            refine TL.pure (PV.assign rfl) rfl (by decide) ?_
            refine TL.pure (PV.assign rfl) rfl (by decide) ?_
            refine TL.nil ?_
            refine TQ.thenC ?_
            refine TC.seq ?_
            refine TC.region ?_
            refine TL.pure (PV.move rfl) rfl (by decide) ?_
            refine TL.pure (PV.eqlI rfl rfl) rfl (by decide) ?_
            refine TL.pure (PV.move rfl) rfl (by decide) ?_
            refine TL.pure (PV.move rfl) rfl (by decide) ?_
            refine TL.pure (PV.eqlI rfl rfl) rfl (by decide) ?_
            refine TL.pure (PV.pickT rfl rfl) rfl (by decide) ?_
            refine TL.pure (PV.move rfl) rfl (by decide) ?_
            refine TL.pure (PV.move rfl) rfl (by decide) ?_
            refine TL.pure (PV.eqlI rfl rfl) rfl (by decide) ?_
            refine TL.pure (PV.pickT rfl rfl) rfl (by decide) ?_
            refine TL.pure (PV.move rfl) rfl (by decide) ?_
            refine TL.pure (PV.move rfl) rfl (by decide) ?_
            refine TL.pure (PV.eqlI rfl rfl) rfl (by decide) ?_
            refine TL.pure (PV.pickT rfl rfl) rfl (by decide) ?_
            refine TL.pure (PV.move rfl) rfl (by decide) ?_
            refine TL.pure (PV.move rfl) rfl (by decide) ?_
            refine TL.pure (PV.move rfl) rfl (by decide) ?_
            refine TL.pure (PV.leqH rfl rfl (by omega)) rfl (by decide) ?_
            refine TL.pure (PV.pickT rfl rfl) rfl (by decide) ?_
            refine TL.pure (PV.move rfl) rfl (by decide) ?_
            refine TL.pure (PV.move rfl) rfl (by decide) ?_
            refine TL.pure (PV.move rfl) rfl (by decide) ?_
            refine TL.pure (PV.geqH rfl rfl (by omega)) rfl (by decide) ?_
            refine TL.pure (PV.pickT rfl rfl) rfl (by decide) ?_
            refine TL.pure (PV.move rfl) rfl (by decide) ?_
            refine TL.pure (PV.move rfl) rfl (by decide) ?_
            refine TL.pure (PV.move rfl) rfl (by decide) ?_
            refine TL.pure (PV.geqH rfl rfl (by omega)) rfl (by decide) ?_
            refine TL.pure (PV.pickT rfl rfl) rfl (by decide) ?_
            refine TL.pure (PV.assign rfl) rfl (by decide) ?_
            refine TL.nil ?_
            refine TQ.thenC ?_
            refine TC.ret ?_
            refine TQ.retE1 rfl rfl ?_
            exact ⟨(), rfl, trivial, List.nil_sublist _⟩
      · skip
        refine TL.skip rfl (fun k hk => by cases hk; decide) ?_
        refine TL.skip rfl (fun k hk => by cases hk; decide) ?_
        refine TL.pure (PV.pickF rfl rfl) rfl (by decide) ?_
        refine TL.nil ?_
        refine TQ.thenC ?_
        refine TC.condF rfl ?_
        refine TC.skip ?_
        refine TQ.thenC ?_
        refine TC.seq ?_
        refine TC.region ?_
        refine TL.pure (PV.loadBox rfl Tb.agg_24 (by repeat (first | exact List.Mem.head _ | refine List.Mem.tail _ ?_ | refine List.mem_append_right _ ?_)) rfl) rfl (by decide) ?_
        refine TL.pure (PV.move rfl) rfl (by decide) ?_
        refine TL.call rfl Tb.gofn_19 (fun a w hs => Worth_ok w _ _ _ (hr.new hs.new) _ _ _ (hx.new hs.new) (hcap.new hr hs.new)) rfl (by decide) (fun _ _ => ?_)
        refine TL.pure (PV.move rfl) rfl (by decide) ?_
        refine TL.pure (PV.extract rfl rfl) rfl (by decide) ?_
        refine TL.pure (PV.extract rfl rfl) rfl (by decide) ?_
        refine TL.pure (PV.assign rfl) rfl (by decide) ?_
        refine TL.pure (PV.assign rfl) rfl (by decide) ?_
        refine TL.nil ?_
        refine TQ.thenC ?_
        refine TC.seq ?_
        refine TC.seq ?_
        refine TC.region ?_
        refine TL.pure (PV.move rfl) rfl (by decide) ?_
        refine TL.pure (PV.neq rfl rfl) rfl (by decide) ?_
        refine TL.nil ?_
        refine TQ.thenC ?_
        first | refine TC.condD rfl (fun h187 => ?_) (fun h187 => ?_) | refine TC.cond rfl (fun h187 => ?_) (fun h187 => ?_)
        · skip
          refine TC.seq ?_
          refine TC.region ?_
          refine TL.pure (PV.assign rfl) rfl (by decide) ?_
          refine TL.nil ?_
          refine TQ.thenC ?_
          refine TC.ret ?_
          refine TQ.thenR ?_
          refine TQ.retE1 rfl rfl ?_
          exact ⟨(), rfl, trivial, List.nil_sublist _⟩
        · skip
          have hx0 : holI ls xs = 0 := Decidable.of_not_not h187
          have ht1 : twoI ls xs z1.2.1 = 0 := by rw [two_y h187]; exact ho_to h78 hB1.ho
          have ht2 : twoI ls xs z2.2.1 = 0 := by rw [two_y h187]; exact hd0
          have hj1 := joins (fun h => h ht1)
          have hj2 := joins (fun h => h ht2)
          have hxm := hB1.max xs (ho_of h187)
          have hm1 := hB1.max _ (ho_of (by rw [hj1.1]; decide))
          have hm2 := hB1.max _ (ho_of (by rw [hj2.2.1]; decide))
          have hw1 := hB1.w
          have ifx : (if holI ls xs = 0 then worH ls xs else 0) = worH ls xs := if_pos hx0
          have hjs1 := hj1.2.2.2.2
          have hjs2 := hj2.2.2.2.2
          refine TC.skip ?_
          refine TQ.thenC ?_
          refine TC.seq ?_
          refine TC.region ?_
          refine TL.pure (PV.loadBox rfl Tb.agg_24 (by repeat (first | exact List.Mem.head _ | refine List.Mem.tail _ ?_ | refine List.mem_append_right _ ?_)) rfl) rfl (by decide) ?_
          refine TL.pure (PV.move rfl) rfl (by decide) ?_
          refine TL.pure (PV.move rfl) rfl (by decide) ?_
          refine TL.call rfl Tb.gofn_33 (fun a w hs => (twoV (hr.new hs.new) (IsV.p (hx.new hs.new)) (IsV.g (h := z1.1) (xs := z1.2.1) hs.new (by intro y9 hy9; repeat (first | exact hy9 | exact List.mem_append_left _ hy9 | refine List.mem_append_right _ ?_ | refine List.Mem.tail _ ?_)) hz1.2) ht1).2) rfl (by decide) (fun za hza => ?_)
          refine TL.pure (PV.move rfl) rfl (by decide) ?_
          refine TL.pure (PV.extract rfl rfl) rfl (by decide) ?_
          refine TL.pure (PV.extract rfl rfl) rfl (by decide) ?_
          refine TL.pure (PV.assign rfl) rfl (by decide) ?_
          refine TL.pure (PV.assign rfl) rfl (by decide) ?_
          refine TL.nil ?_
          refine TQ.thenC ?_
          refine TC.seq ?_
          refine TC.region ?_
          refine TL.pure (PV.loadBox rfl Tb.agg_24 (by repeat (first | exact List.Mem.head _ | refine List.Mem.tail _ ?_ | refine List.mem_append_right _ ?_)) rfl) rfl (by decide) ?_
          refine TL.pure (PV.move rfl) rfl (by decide) ?_
          refine TL.pure (PV.move rfl) rfl (by decide) ?_
          refine TL.call rfl Tb.gofn_31 (fun a w hs => (twoV (hr.new hs.new) (IsV.p (hx.new hs.new)) (IsV.g (h := z2.1) (xs := z2.2.1) hs.new (by intro y9 hy9; repeat (first | exact hy9 | exact List.mem_append_left _ hy9 | refine List.mem_append_right _ ?_ | refine List.Mem.tail _ ?_)) hz2.2) ht2).1) rfl (by decide) (fun zb hzb => ?_)
          refine TL.pure (PV.move rfl) rfl (by decide) ?_
          refine TL.pure (PV.extract rfl rfl) rfl (by decide) ?_
          refine TL.pure (PV.extract rfl rfl) rfl (by decide) ?_
          refine TL.pure (PV.assign rfl) rfl (by decide) ?_
          refine TL.pure (PV.assign rfl) rfl (by decide) ?_
          refine TL.nil ?_
          refine TQ.thenC ?_
          refine TC.seq ?_
          refine TC.region ?_
          refine TL.pure (PV.loadBox rfl Tb.agg_24 (by repeat (first | exact List.Mem.head _ | refine List.Mem.tail _ ?_ | refine List.mem_append_right _ ?_)) rfl) rfl (by decide) ?_
          refine TL.pure (PV.move rfl) rfl (by decide) ?_
          refine TL.call rfl Tb.gofn_19 (fun a w hs => worthV (hr.new hs.new) (hcap.new hr hs.new) (IsV.g (h := za) (xs := jnL max ls xs z1.2.1) hs.new (by intro y9 hy9; repeat (first | exact hy9 | exact List.mem_append_left _ hy9 | refine List.mem_append_right _ ?_ | refine List.Mem.tail _ ?_)) hza) hj1.2.1 rfl) rfl (by decide) (fun _ _ => ?_)
          refine TL.pure (PV.move rfl) rfl (by decide) ?_
          refine TL.pure (PV.extract rfl rfl) rfl (by decide) ?_
          refine TL.pure (PV.extract rfl rfl) rfl (by decide) ?_
          refine TL.pure (PV.assign rfl) rfl (by decide) ?_
          refine TL.pure (PV.assign rfl) rfl (by decide) ?_
          refine TL.nil ?_
          refine TQ.thenC ?_
          refine TC.seq ?_
          refine TC.region ?_
          refine TL.pure (PV.loadBox rfl Tb.agg_24 (by repeat (first | exact List.Mem.head _ | refine List.Mem.tail _ ?_ | refine List.mem_append_right _ ?_)) rfl) rfl (by decide) ?_
          refine TL.pure (PV.move rfl) rfl (by decide) ?_
          refine TL.call rfl Tb.gofn_19 (fun a w hs => worthV (hr.new hs.new) (hcap.new hr hs.new) (IsV.g (h := zb) (xs := jnL min ls xs z2.2.1) hs.new (by intro y9 hy9; repeat (first | exact hy9 | exact List.mem_append_left _ hy9 | refine List.mem_append_right _ ?_ | refine List.Mem.tail _ ?_)) hzb) hj2.1 rfl) rfl (by decide) (fun _ _ => ?_)
          refine TL.pure (PV.move rfl) rfl (by decide) ?_
          refine TL.pure (PV.extract rfl rfl) rfl (by decide) ?_
          refine TL.pure (PV.extract rfl rfl) rfl (by decide) ?_
          refine TL.pure (PV.assign rfl) rfl (by decide) ?_
          refine TL.pure (PV.assign rfl) rfl (by decide) ?_
          refine TL.nil ?_
          refine TQ.thenC ?_
          refine TC.seq ?_
          refine TC.region ?_
          refine TL.pure (PV.move rfl) rfl (by decide) ?_
          refine TL.pure (PV.eqlI rfl rfl) rfl (by decide) ?_
          refine TL.pure (PV.move rfl) rfl (by decide) ?_
          refine TL.pure (PV.move rfl) rfl (by decide) ?_
          refine TL.pure (PV.eqlI rfl rfl) rfl (by decide) ?_
          refine TL.pure (PV.pickT rfl rfl) rfl (by decide) ?_
          refine TL.pure (PV.move rfl) rfl (by decide) ?_
          refine TL.pure (PV.move rfl) rfl (by decide) ?_
          refine TL.pure (PV.eqlI rfl rfl) rfl (by decide) ?_
          refine TL.pure (PV.pickT rfl rfl) rfl (by decide) ?_
          refine TL.pure (PV.move rfl) rfl (by decide) ?_
          refine TL.pure (PV.move rfl) rfl (by decide) ?_
          refine TL.pure (PV.eqlI rfl rfl) rfl (by decide) ?_
          refine TL.pure (PV.pickT rfl rfl) rfl (by decide) ?_
          refine TL.pure (PV.move rfl) rfl (by decide) ?_
          refine TL.pure (PV.move rfl) rfl (by decide) ?_
          refine TL.pure (PV.move rfl) rfl (by decide) ?_
          refine TL.pure (PV.leqH rfl rfl (by omega)) rfl (by decide) ?_
          refine TL.pure (PV.pickT rfl rfl) rfl (by decide) ?_
          refine TL.pure (PV.move rfl) rfl (by decide) ?_
          refine TL.pure (PV.move rfl) rfl (by decide) ?_
          refine TL.pure (PV.move rfl) rfl (by decide) ?_
          refine TL.pure (PV.geqH rfl rfl (by omega)) rfl (by decide) ?_
          refine TL.pure (PV.pickT rfl rfl) rfl (by decide) ?_
          refine TL.pure (PV.move rfl) rfl (by decide) ?_
          refine TL.pure (PV.move rfl) rfl (by decide) ?_
          refine TL.pure (PV.move rfl) rfl (by decide) ?_
          refine TL.pure (PV.geqH rfl rfl (by omega)) rfl (by decide) ?_
          refine TL.pure (PV.pickT rfl rfl) rfl (by decide) ?_
          refine TL.pure (PV.assign rfl) rfl (by decide) ?_
          refine TL.nil ?_
          refine TQ.thenC ?_
          refine TC.ret ?_
          refine TQ.retE1 rfl rfl ?_
          exact ⟨(), rfl, trivial, List.nil_sublist _⟩

theorem topHollows_all (W : World) (p : Option Addr) (cap : Nat) (ls : List (List Int)) (hr : LsAt W p ls) (hl2 : ls.length ≤ 9223372036854775807) (hcap : CapsAt W p ls) (pl : Option Addr) (cl : Nat) (xs : List Int) (hx : IntsAt W pl xs) (i : Int) (hi : -9223372036854775808 ≤ i ∧ i ≤ 9223372036854775807) :
    Calls Try.prog 16 #[bv p ls.length cap, .slice pl xs.length cl, .int .i64 i] W (Post (X := Unit) (fun _ => .bool true) (fun _ => True) (fun _ => []) W) := topHollows_ok W p cap ls hr hl2 hcap pl cl xs hx i hi

end Go.Proofs.Ytfgjojoipbbacaa

/- What does not close, both ways. -/
import Derived.Test.YtmmgcajegokkoaaP0
set_option linter.unusedVariables false
set_option linter.unusedSimpArgs false
namespace Go.Proofs.Ytmmgcajegokkoaa
open Go.Sx Go.RowKit

theorem mulA_bd {a b A B : Int} (ha : -A ≤ a ∧ a ≤ A) (hb : 0 ≤ b ∧ b ≤ B) (hA : 0 ≤ A) : -(A * B) ≤ a * b ∧ a * b ≤ A * B := by
  have h1 : a * b ≤ A * b := Int.mul_le_mul_of_nonneg_right ha.2 hb.1
  have h2 : -A * b ≤ a * b := Int.mul_le_mul_of_nonneg_right ha.1 hb.1
  have h3 : A * b ≤ A * B := Int.mul_le_mul_of_nonneg_left hb.2 hA
  rw [Int.neg_mul] at h2
  omega
/-- The heights by the tree of a valid survey. -/
theorem hsL_bd {n : Int} {rs : List Rd} {G : Int → Int} (hG : Pot n rs G) {kn : List Bool} (hk : kn.length = n.toNat) : Bd (hsL G kn) 200000000 := fun p => by
  by_cases h : p < kn.length
  · rw [hsL_get h]
    split
    · exact hG.bd p (by omega) (by omega)
    · omega
  · have : (hsL G kn).getD p 0 = 0 := by simp [List.getD, hsL, h]
    rw [this]; omega
theorem knEnd_len (n : Int) (rs : List Rd) : (knEnd n rs).length = n.toNat := by rw [knEnd, kall_len, kn0_len, firstsL_len]
def Hs (n : Int) (rs : List Rd) (G : Int → Int) : List Int := hsL G (knEnd n rs)
theorem Hs_len (n : Int) (rs : List Rd) (G : Int → Int) : (Hs n rs G).length = n.toNat := by rw [Hs, hsL_len, knEnd_len]
theorem fillZ_get {f : Nat → Int} {N k : Nat} (h : k < N) : (fillZ f N (k + 1)).getD k 0 = f k := by simp [fillZ, List.getD, h]
theorem fill_h (d : Int) (p : Option Addr) (k c : Nat) : Instr.fill ([(0, 1), (1, 1)][·]?) #[(Value.int .i64 0), .slice none 0 0] [(0, Value.int .i64 d), (1, .slice p k c)] = some #[.int .i64 d, .slice p k c] := by kernel_rfl
/-- The given side's sum, by whose order. -/
theorem resR_one (rs : List Rd) (xs : List Int) (j : Nat) : (rs.getD j default).rise - xs.getD (rs.getD j default).to.toNat 0 + xs.getD (rs.getD j default).fr.toNat 0 = resR rs 1 xs j := by unfold resR; omega
structure CF (rs : List Rd) (xs : List Int) (k : Nat) (x : HD × List Int) : Prop where
  le : k ≤ rs.length
  eq : x.2 = (List.range k).map (resR rs 1 xs)
  ok : goI x
theorem CF.len {rs : List Rd} {xs : List Int} {k : Nat} {x : HD × List Int} (h : CF rs xs k x) : x.2.length ≤ rs.length := by
  have := h.le
  rw [h.eq, List.length_map, List.length_range]
  omega
theorem CF.zero (rs : List Rd) (xs : List Int) : CF rs xs 0 (none, []) := ⟨Nat.zero_le _, rfl, ⟨rfl, rfl⟩⟩
theorem CF.step {rs : List Rd} {xs : List Int} {k : Nat} {x : HD × List Int} {h' : HD} {v : Int} (h : CF rs xs k x) (hk : k < rs.length) (hv : v = resR rs 1 xs k) (ho : goI (h', x.2 ++ [v])) : CF rs xs (k + 1) (h', x.2 ++ [v]) :=
  ⟨hk, by show x.2 ++ [v] = _; rw [h.eq, hv, List.range_succ, List.map_append]; rfl, ho⟩
structure CG (n : Int) (rs : List Rd) (G : Int → Int) (x : HD × List Int) : Prop where
  eq : x.2 = if validateI n rs = 0 then residL rs 1 (Hs n rs G) else []
  ok : goI x
theorem CG.bad {n : Int} {rs : List Rd} {G : Int → Int} (h : validateI n rs ≠ 0) : CG n rs G (none, []) := ⟨by rw [if_neg h], ⟨rfl, rfl⟩⟩
theorem CG.good {n : Int} {rs : List Rd} {G : Int → Int} {x : HD × List Int} (h : validateI n rs = 0) (hx : CF rs (Hs n rs G) rs.length x) : CG n rs G x := ⟨by rw [if_pos h]; exact hx.eq, hx.ok⟩
theorem CG.arr {n : Int} {rs : List Rd} {G : Int → Int} {b : Nat} (h : validateI n rs = 0) : CG n rs G (some (b, rs.length, []), residL rs 1 (Hs n rs G)) := ⟨by rw [if_pos h], by
  constructor
  · simp [ival]
  · simp [ival, residL]⟩
structure BG (n : Int) (rs : List Rd) (G : Int → Int) (x : HD × List Int) : Prop where
  eq : x.2 = if validateI n rs = 0 then Hs n rs G else []
  ok : goI x
theorem BG.bad {n : Int} {rs : List Rd} {G : Int → Int} (h : validateI n rs ≠ 0) : BG n rs G (none, []) := ⟨by rw [if_neg h], ⟨rfl, rfl⟩⟩
theorem BG.arr {n : Int} {rs : List Rd} {G : Int → Int} {b : Nat} (h : validateI n rs = 0) : BG n rs G (some (b, n.toNat, []), Hs n rs G) := ⟨by rw [if_pos h], by
  constructor
  · simp [ival]
  · simp [ival, Hs_len]⟩
theorem arr_gb (b c : Nat) (xs : List Int) : gbI (some (b, c, []), xs) = [arrI b xs] := by show [(b, Obj.cells (ival xs ++ []).toArray 3 (0, 0))] = _; rw [List.append_nil]; rfl
theorem arr_gv (b c : Nat) (xs : List Int) : gvI (some (b, c, []), xs) = .slice (some ⟨b, 0, none⟩) xs.length c := rfl
def zeroB (xs : List Int) : Bool := xs.all fun x => decide (x = 0)
theorem zero_no {xs : List Int} {k : Nat} (hk : k < xs.length) (h : xs.getD k 0 ≠ 0) : zeroB xs = false := by
  cases hz : zeroB xs
  · rfl
  · have := List.all_eq_true.1 hz (xs.getD k 0) (by simp [List.getD, hk])
    exact absurd (of_decide_eq_true this) h
theorem zero_yes {xs : List Int} (h : ∀ j, j < xs.length → xs.getD j 0 = 0) : zeroB xs = true := by
  refine List.all_eq_true.2 fun x hx => decide_eq_true ?_
  obtain ⟨i, hi, rfl⟩ := List.mem_iff_getElem.1 hx
  have := h i hi
  simpa [List.getD, hi] using this
theorem ivalI_get {l : List Int} {sp : List Value} {i : Nat} (h : i < l.length) : (ival l ++ sp).toArray[i * 1]? = some (.int .i64 (l.getD i 0)) := by
  rw [List.getElem?_toArray, Nat.mul_one, List.getElem?_append_left (by simpa [ival] using h)]
  simp [ival, List.getD, h]
theorem isT_no {n : Int} {rs : List Rd} {G : Int → Int} {x : HD × List Int} {k : Nat} (h : CG n rs G x) (hk : k < x.2.length) (hd : x.2.getD k 0 ≠ 0) : (if validateI n rs = 0 then zeroB (residL rs 1 (Hs n rs G)) else false) = false := by
  have he := h.eq
  by_cases hv : validateI n rs = 0
  · rw [if_pos hv] at he ⊢
    rw [← he]
    exact zero_no hk hd
  · rw [if_neg hv]
theorem isT_yes {n : Int} {rs : List Rd} {G : Int → Int} {x : HD × List Int} (h : CG n rs G x) (hd : ∀ j, j < x.2.length → x.2.getD j 0 = 0) : (if validateI n rs = 0 then zeroB (residL rs 1 (Hs n rs G)) else false) = decide (validateI n rs = 0) := by
  have he := h.eq
  by_cases hv : validateI n rs = 0
  · rw [if_pos hv, decide_eq_true hv]
    rw [if_pos hv] at he
    rw [← he]
    exact zero_yes hd
  · rw [if_neg hv, decide_eq_false hv]


set_option maxRecDepth 100000 in
set_option maxHeartbeats 1000000 in
theorem residuals_ok (w0 : World) (n : Int) (p : Option Addr) (cap : Nat) (rs : List Rd) (hr : RdsAt w0 p rs) (hv : Valid n rs) (den : Int) (pn : Option Addr) (cn : Nat) (nums : List Int) (hn : IntsAt w0 pn nums) (hnl : nums.length = n.toNat) (hd : 0 ≤ den ∧ den ≤ 1000000000000000) (hb : Bd nums 1000000000000000000) :
    Calls Try.prog 77 #[sv n p rs.length cap, .agg #[.int .i64 den, .slice pn n.toNat cn]] w0 (Post (X := Nat) (fun b => .slice (some ⟨b, 0, none⟩) rs.length rs.length) (fun _ => True) (fun b => [arrI b (residL rs den nums)]) w0) := by
  have hp := hv.pts
  have hl := hv.len
  refine calls Try.func77 rfl (n := 44) rfl (by simp) ?_
  refine TC.seq ?_
  refine TC.region ?_
  refine TL.box rfl rfl (by decide) (fun b0 hb0 => ?_)
  refine TL.box rfl rfl (by decide) (fun b1 hb1 => ?_)
  refine TL.pure (PV.assign rfl) rfl (by decide) ?_
  refine TL.nil ?_
  refine TQ.thenC ?_
  refine TC.seq ?_
  refine TC.region ?_
  refine TL.pure (PV.fieldAddr rfl Tb.fo_24_1) rfl (by decide) ?_
  refine TL.pure (PV.load rfl Tb.one_22 (by repeat (first | exact List.Mem.head _ | refine List.Mem.tail _ ?_ | refine List.mem_append_right _ ?_)) rfl) rfl (by decide) ?_
  refine TL.pure (PV.len rfl Tb.sl_22) rfl (by decide) ?_
  refine TL.makeI rfl rfl Tb.sl_31 Tb.zi_3 (k := rs.length) rfl (by omega) (by omega) rfl (by decide) (fun b2 hb2 => ?_)
  refine TL.pure (PV.assign rfl) rfl (by decide) ?_
  refine TL.nil ?_
  refine TQ.thenC ?_
  refine TC.seq ?_
  refine TC.seq ?_
  refine TC.region ?_
  refine TL.pure (PV.fieldAddr rfl Tb.fo_24_1) rfl (by decide) ?_
  refine TL.pure (PV.load rfl Tb.one_22 (by repeat (first | exact List.Mem.head _ | refine List.Mem.tail _ ?_ | refine List.mem_append_right _ ?_)) rfl) rfl (by decide) ?_
  refine TL.pure (PV.len rfl Tb.sl_22) rfl (by decide) ?_
  refine TL.pure (PV.move rfl) rfl (by decide) ?_
  refine TL.nil ?_
  refine TQ.thenC ?_
  refine TC.block ?_
  refine TC.loopK [3, 4, 5, 13, 14] (X := Nat) (fun k => k ≤ rs.length) (fun k => [(15, .int .i64 k)]) (fun k => [arrI b2 (fillZ (resR rs den nums) rs.length k), (b1, Obj.cells #[.int .i64 den, .slice pn n.toNat cn] 51 (0, 0)), (b0, Obj.cells #[.int .i64 n, .slice p rs.length cap] 24 (0, 0))]) (fun k => rs.length - k) 0 (Nat.zero_le _) (by repeat (first | exact True.intro | refine And.intro rfl ?_)) (by rw [fillZ_zero]; exact List.Sublist.refl _) ?_
  intro k hk
  refine TC.seq ?_
  refine TC.region ?_
  refine TL.pure (PV.lss rfl rfl) rfl (by decide) ?_
  refine TL.nil ?_
  refine TQ.thenC ?_
  refine TC.seq ?_
  first | refine TC.condD rfl (fun hlt => ?_) (fun hlt => ?_) | refine TC.cond rfl (fun hlt => ?_) (fun hlt => ?_)
  · skip
    refine TC.skip ?_
    refine TQ.thenC ?_
    refine TC.seq ?_
    refine TC.block ?_
    refine TC.seq ?_
    obtain ⟨q, hqp, hq⟩ := hr k (by omega)
    have hvk := hv.at (k := k) (by omega)
    have hfz := fillZ_len (resR rs den nums) rs.length k
    obtain ⟨q1, hq1p, hq1⟩ := hn (rs.getD k default).to.toNat (by omega)
    obtain ⟨q2, hq2p, hq2⟩ := hn (rs.getD k default).fr.toNat (by omega)
    have hb1 := hb (rs.getD k default).to.toNat
    have hb2 := hb (rs.getD k default).fr.toNat
    have hmb := mulA_bd (a := (rs.getD k default).rise) (b := den) (A := 1000) (B := 1000000000000000) hvk.2.2.2.1 hd (by omega)
    refine TC.region ?_
    refine TL.pure (PV.move rfl) rfl (by decide) ?_
    refine TL.pure (PV.indexA rfl hqp rfl Tb.elm_22 rfl (by omega)) rfl (by decide) ?_
    refine TL.pure (PV.loadAggA rfl Tb.agg_61 rfl hq) rfl (by decide) ?_
    refine TL.alloc Tb.zero_61 rfl (by decide) (fun b3 hb3 => ?_)
    refine TL.pure (PV.assign rfl) rfl (by decide) ?_
    refine TL.storeAgg rfl rfl Tb.cells_61 (by repeat (first | exact Upd.head _ | apply Upd.tail | apply Upd.appR)) rfl rfl rfl rfl rfl ?_
    refine TL.nil ?_
    refine TQ.thenC ?_
    refine TC.draw 22 Tb.mixed (by kernel_rfl) ?_
    simp only [List.take_succ_cons, List.take_zero, List.drop_succ_cons, List.drop_zero]
    refine TS.pure (PV.move rfl) rfl (by decide) ?_
    refine TS.pure (PV.move rfl) rfl (by decide) ?_
    refine TS.pure (PV.fieldAddr rfl Tb.fo_61_2) rfl (by decide) ?_
    refine TS.pure (PV.load rfl Tb.one_3 (by repeat (first | exact List.Mem.head _ | refine List.Mem.tail _ ?_ | refine List.mem_append_right _ ?_)) rfl) rfl (by decide) ?_
    refine TS.pure (PV.fieldAddr rfl Tb.fo_51_0) rfl (by decide) ?_
    refine TS.pure (PV.load rfl Tb.one_3 (by repeat (first | exact List.Mem.head _ | refine List.Mem.tail _ ?_ | refine List.mem_append_right _ ?_)) rfl) rfl (by decide) ?_
    refine TS.pure (PV.mul rfl rfl (by omega)) rfl (by decide) ?_
    refine TS.pure (PV.fieldAddr rfl Tb.fo_51_1) rfl (by decide) ?_
    refine TS.pure (PV.load rfl Tb.one_31 (by repeat (first | exact List.Mem.head _ | refine List.Mem.tail _ ?_ | refine List.mem_append_right _ ?_)) rfl) rfl (by decide) ?_
    refine TS.pure (PV.fieldAddr rfl Tb.fo_61_1) rfl (by decide) ?_
    refine TS.pure (PV.load rfl Tb.one_3 (by repeat (first | exact List.Mem.head _ | refine List.Mem.tail _ ?_ | refine List.mem_append_right _ ?_)) rfl) rfl (by decide) ?_
    refine TS.pure (PV.indexA rfl hq1p rfl Tb.elm_31 (Int.toNat_of_nonneg (by omega)).symm (by omega)) rfl (by decide) ?_
    refine TS.pure (PV.loadOld rfl Tb.one_3 hq1) rfl (by decide) ?_
    refine TS.pure (PV.fieldAddr rfl Tb.fo_51_1) rfl (by decide) ?_
    refine TS.pure (PV.load rfl Tb.one_31 (by repeat (first | exact List.Mem.head _ | refine List.Mem.tail _ ?_ | refine List.mem_append_right _ ?_)) rfl) rfl (by decide) ?_
    refine TS.pure (PV.fieldAddr rfl Tb.fo_61_0) rfl (by decide) ?_
    refine TS.pure (PV.load rfl Tb.one_3 (by repeat (first | exact List.Mem.head _ | refine List.Mem.tail _ ?_ | refine List.mem_append_right _ ?_)) rfl) rfl (by decide) ?_
    refine TS.pure (PV.indexA rfl hq2p rfl Tb.elm_31 (Int.toNat_of_nonneg (by omega)).symm (by omega)) rfl (by decide) ?_
    refine TS.pure (PV.loadOld rfl Tb.one_3 hq2) rfl (by decide) ?_
    refine TS.pure (PV.sub rfl rfl (by omega)) rfl (by decide) ?_
    refine TS.pure (PV.sub rfl rfl (by omega)) rfl (by decide) ?_
    refine TS.pure (PV.index1 rfl rfl Tb.elm_31 rfl (by omega)) rfl (by decide) ?_
    refine TS.nil ?_
    refine TL.storeI rfl rfl Tb.cells_3 (by repeat (first | exact Upd.head _ | apply Upd.tail | apply Upd.appR)) (by omega) rfl rfl ?_
    refine TL.congrG (G' := [(b3, Obj.cells (rs.getD k default).cells.toArray 61 (0, 0)), arrI b2 (fillZ (resR rs den nums) rs.length (k + 1)), (b1, Obj.cells #[.int .i64 den, .slice pn n.toNat cn] 51 (0, 0)), (b0, Obj.cells #[.int .i64 n, .slice p rs.length cap] 24 (0, 0))]) (by rw [← fillZ_set (by omega)]; rfl) ?_
    refine TL.nil ?_
    refine TQ.blkN ?_
    refine TQ.thenC ?_
    refine TC.region ?_
    refine TL.pure (PV.add rfl rfl (by omega)) rfl (by decide) ?_
    refine TL.pure (PV.move rfl) rfl (by decide) ?_
    refine TL.nil ?_
    refine TQ.thenN ?_
    refine TQ.backK (k + 1) (by repeat (first | exact True.intro | refine And.intro rfl ?_)) (by repeat (first | exact True.intro | refine And.intro rfl ?_)) (List.Sublist.cons _ (List.Sublist.refl _)) (by omega) (by omega)
  · skip
    refine TC.exit ?_
    refine TQ.thenE ?_
    refine TQ.thenE ?_
    refine TQ.blkS ?_
    refine TQ.thenC ?_
    refine TC.seq ?_
    refine TC.region ?_
    refine TL.pure (PV.move rfl) rfl (by decide) ?_
    refine TL.pure (PV.assign rfl) rfl (by decide) ?_
    refine TL.nil ?_
    refine TQ.thenC ?_
    refine TC.ret ?_
    refine TQ.retE1 rfl rfl ?_
    exact ⟨b2, rfl, trivial, by rw [show residL rs den nums = fillZ (resR rs den nums) rs.length k by rw [show k = rs.length by omega, fillZ_all]; rfl]; exact List.Sublist.cons_cons _ (List.nil_sublist _)⟩

set_option maxRecDepth 100000 in
set_option maxHeartbeats 1000000 in
theorem closures_ok (w0 : World) (n : Int) (p : Option Addr) (cap : Nat) (rs : List Rd) (hr : RdsAt w0 p rs) (hv : Valid n rs) (G : Int → Int) (hG : Pot n rs G) :
    Calls Try.prog 69 #[sv n p rs.length cap] w0 (Post (X := Nat) (fun b => .slice (some ⟨b, 0, none⟩) rs.length rs.length) (fun _ => True) (fun b => [arrI b (residL rs 1 (Hs n rs G))]) w0) := by
  refine calls Try.func69 rfl (n := 8) rfl (by simp) ?_
  refine TC.seq ?_
  refine TC.region ?_
  refine TL.box rfl rfl (by decide) (fun b0 hb0 => ?_)
  refine TL.pure (PV.assign rfl) rfl (by decide) ?_
  refine TL.nil ?_
  refine TQ.thenC ?_
  refine TC.seq ?_
  refine TC.mix [true, true, false, false, false, false] _ 4 Tb.mixed rfl (by kernel_rfl) (by kernel_rfl) (by kernel_rfl) (by kernel_rfl) (List.Sublist.refl _) ?_
  refine TB.op (SOK.pure (PV.loadBox rfl Tb.agg_24 (by repeat (first | exact List.Mem.head _ | refine List.Mem.tail _ ?_ | refine List.mem_append_right _ ?_)) rfl) rfl) (by decide) ?_
  refine TB.op (SOK.pure (PV.loadBox rfl Tb.agg_24 (by repeat (first | exact List.Mem.head _ | refine List.Mem.tail _ ?_ | refine List.mem_append_right _ ?_)) rfl) rfl) (by decide) ?_
  refine TB.no ?_
  refine TB.no ?_
  refine TB.no ?_
  refine TB.no ?_
  refine TB.fin ?_
  refine TX.step [2] (by kernel_rfl) (by decide) ⟨⟨_, rfl, ?_⟩, trivial⟩
  refine TL.call rfl Tb.gofn_67 (fun a w hs => byTree_ok w _ _ _ _ (hr.new hs.new) hv G hG) rfl (by decide) (fun bT _ => ?_)
  refine TL.nil ?_
  refine TX.next (.inl (by repeat (first | exact List.Sublist.slnil | exact List.nil_sublist _ | exact List.Sublist.refl _ | refine List.Sublist.cons_cons _ ?_ | refine List.Sublist.cons _ ?_ | refine List.Sublist.trans ?_ (List.sublist_append_right _ _)))) ?_
  refine TX.step [3] (by kernel_rfl) (by decide) ⟨⟨_, rfl, ?_⟩, trivial⟩
  refine TL.pure (PV.build rfl Tb.zero_51 Tb.pl_51 (fill_h _ _ _ _)) rfl (by decide) ?_
  refine TL.nil ?_
  refine TX.next (.inl (by repeat (first | exact List.Sublist.slnil | exact List.nil_sublist _ | exact List.Sublist.refl _ | refine List.Sublist.cons_cons _ ?_ | refine List.Sublist.cons _ ?_ | refine List.Sublist.trans ?_ (List.sublist_append_right _ _)))) ?_
  refine TX.step [4] (by kernel_rfl) (by decide) ⟨⟨_, rfl, ?_⟩, trivial⟩
  refine TL.call rfl Tb.gofn_77 (fun a w hs => residuals_ok w _ _ _ _ (hr.new hs.new) hv 1 (some ⟨bT, 0, none⟩) n.toNat (Hs n rs G) (IntsAt.arr hs.new (by repeat (first | exact List.Mem.head _ | refine List.Mem.tail _ ?_ | refine List.mem_append_right _ ?_))) (Hs_len n rs G) (by omega) (fun j => by have := hsL_bd hG (knEnd_len n rs) j; unfold Hs; omega)) rfl (by decide) (fun bR _ => ?_)
  refine TL.nil ?_
  refine TX.next (.inl (by repeat (first | exact List.Sublist.slnil | exact List.nil_sublist _ | exact List.Sublist.refl _ | refine List.Sublist.cons_cons _ ?_ | refine List.Sublist.cons _ ?_ | refine List.Sublist.trans ?_ (List.sublist_append_right _ _)))) ?_
  refine TX.step [5] (by kernel_rfl) (by decide) ⟨⟨_, rfl, ?_⟩, trivial⟩
  refine TL.pure (PV.assign rfl) rfl (by decide) ?_
  refine TL.nil ?_
  refine TX.next (.inr (by kernel_rfl)) ?_
  refine TX.done (by kernel_rfl) ?_
  refine TQ.thenC ?_
  refine TC.ret ?_
  refine TQ.retE1 rfl rfl ?_
  exact ⟨bR, rfl, trivial, List.Sublist.cons_cons _ (List.nil_sublist _)⟩

set_option maxRecDepth 100000 in
theorem areZero_ok (w0 : World) (pn : Option Addr) (cn K : Nat) (xs : List Int) (hK : xs.length = K) (hn : IntsAt w0 pn xs) (hl : K ≤ 1000000) :
    Calls Try.prog 70 #[.slice pn K cn] w0 (Post (X := Unit) (fun _ => .bool (zeroB xs)) (fun _ => True) (fun _ => []) w0) := by
  refine calls Try.func70 rfl (n := 14) rfl (by simp) ?_
  refine TC.seq ?_
  refine TC.region ?_
  refine TL.pure (PV.assign rfl) rfl (by decide) ?_
  refine TL.nil ?_
  refine TQ.thenC ?_
  refine TC.seq ?_
  refine TC.seq ?_
  refine TC.region ?_
  refine TL.pure (PV.move rfl) rfl (by decide) ?_
  refine TL.pure (PV.len rfl Tb.sl_31) rfl (by decide) ?_
  refine TL.pure (PV.move rfl) rfl (by decide) ?_
  refine TL.nil ?_
  refine TQ.thenC ?_
  refine TC.block ?_
  -- live and written in the loop, not told: [2]
  refine TC.loopG [5, 6] (X := Nat) (fun k => k ≤ K ∧ ∀ j, j < k → xs.getD j 0 = 0) (fun k => [(7, .int .i64 k)]) (fun k => K - k) 0 ⟨Nat.zero_le _, fun j hj => by omega⟩ (by repeat (first | exact True.intro | refine And.intro rfl ?_)) ?_
  intro k hk
  refine TC.seq ?_
  refine TC.region ?_
  refine TL.pure (PV.lss rfl rfl) rfl (by decide) ?_
  refine TL.nil ?_
  refine TQ.thenC ?_
  refine TC.seq ?_
  first | refine TC.condD rfl (fun hlt => ?_) (fun hlt => ?_) | refine TC.cond rfl (fun hlt => ?_) (fun hlt => ?_)
  · skip
    refine TC.skip ?_
    refine TQ.thenC ?_
    refine TC.seq ?_
    refine TC.block ?_
    refine TC.seq ?_
    obtain ⟨q, hqp, hq⟩ := hn k (by omega)
    refine TC.region ?_
    refine TL.pure (PV.indexA rfl hqp rfl Tb.elm_31 rfl (by omega)) rfl (by decide) ?_
    refine TL.pure (PV.loadOld rfl Tb.one_3 hq) rfl (by decide) ?_
    refine TL.pure (PV.assign rfl) rfl (by decide) ?_
    refine TL.nil ?_
    refine TQ.thenC ?_
    refine TC.seq ?_
    refine TC.region ?_
    refine TL.pure (PV.move rfl) rfl (by decide) ?_
    refine TL.pure (PV.neq rfl rfl) rfl (by decide) ?_
    refine TL.nil ?_
    refine TQ.thenC ?_
    first | refine TC.condD rfl (fun hd => ?_) (fun hd => ?_) | refine TC.cond rfl (fun hd => ?_) (fun hd => ?_)
    · skip
      refine TC.seq ?_
      refine TC.region ?_
      refine TL.pure (PV.assign rfl) rfl (by decide) ?_
      refine TL.nil ?_
      refine TQ.thenC ?_
      refine TC.ret ?_
      refine TQ.blkR ?_
      refine TQ.thenR ?_
      refine TQ.thenR ?_
      refine TQ.blkR ?_
      refine TQ.thenR ?_
      refine TQ.retE1 rfl rfl ?_
      exact ⟨(), by rw [zero_no (by omega) hd], trivial, List.nil_sublist _⟩
    · skip
      refine TC.skip ?_
      refine TQ.blkN ?_
      refine TQ.thenC ?_
      refine TC.region ?_
      refine TL.pure (PV.add rfl rfl (by omega)) rfl (by decide) ?_
      refine TL.pure (PV.move rfl) rfl (by decide) ?_
      refine TL.nil ?_
      refine TQ.thenN ?_
      refine TQ.backK (k + 1) (by repeat (first | exact True.intro | refine And.intro rfl ?_)) (by repeat (first | exact True.intro | refine And.intro rfl ?_)) (by repeat (first | exact List.Sublist.slnil | exact List.nil_sublist _ | exact List.Sublist.refl _ | refine List.Sublist.cons_cons _ ?_ | refine List.Sublist.cons _ ?_ | refine List.Sublist.trans ?_ (List.sublist_append_right _ _))) ⟨by omega, fun j hj => by by_cases h : j = k; · { rw [h]; omega }; · { exact hk.2 j (by omega) }⟩ (by omega)
  · skip
    refine TC.exit ?_
    refine TQ.thenE ?_
    refine TQ.thenE ?_
    refine TQ.blkS ?_
    refine TQ.thenC ?_
    refine TC.seq ?_
    refine TC.region ?_
    refine TL.pure (PV.assign rfl) rfl (by decide) ?_
    refine TL.nil ?_
    refine TQ.thenC ?_
    refine TC.ret ?_
    refine TQ.retE1 rfl rfl ?_
    exact ⟨(), by rw [zero_yes (fun j hj => hk.2 j (by omega))], trivial, List.nil_sublist _⟩

set_option maxRecDepth 100000 in
theorem ByTree_ok (w0 : World) (n : Int) (p : Option Addr) (cap : Nat) (rs : List Rd) (hr : RdsAt w0 p rs) (G : Int → Int) (hG : Valid n rs → Pot n rs G) :
    Calls Try.prog 27 #[sv n p rs.length cap] w0 (Post (X := HD × List Int) (fun x => .tuple #[gvI x, .int .i64 (validateI n rs)]) (BG n rs G) (fun x => gbI x) w0) := by
  refine calls Try.func27 rfl (n := 12) rfl (by simp) ?_
  refine TC.seq ?_
  refine TC.region ?_
  refine TL.box rfl rfl (by decide) (fun b0 hb0 => ?_)
  refine TL.pure (PV.assign rfl) rfl (by decide) ?_
  refine TL.pure (PV.assign rfl) rfl (by decide) ?_
  refine TL.nil ?_
  refine TQ.thenC ?_
  refine TC.seq ?_
  refine TC.seq ?_
  refine TC.region ?_
  refine TL.pure (PV.loadBox rfl Tb.agg_24 (by repeat (first | exact List.Mem.head _ | refine List.Mem.tail _ ?_ | refine List.mem_append_right _ ?_)) rfl) rfl (by decide) ?_
  refine TL.call rfl Tb.gofn_23 (fun a w hs => validate_ok w _ _ _ _ (hr.new hs.new)) rfl (by decide) (fun _ _ => ?_)
  refine TL.pure (PV.assign rfl) rfl (by decide) ?_
  refine TL.nil ?_
  refine TQ.thenC ?_
  refine TC.seq ?_
  refine TC.region ?_
  refine TL.pure (PV.move rfl) rfl (by decide) ?_
  refine TL.pure (PV.neq rfl rfl) rfl (by decide) ?_
  refine TL.nil ?_
  refine TQ.thenC ?_
  first | refine TC.condD rfl (fun hne => ?_) (fun hne => ?_) | refine TC.cond rfl (fun hne => ?_) (fun hne => ?_)
  · skip
    refine TC.seq ?_
    refine TC.region ?_
    refine TL.pure (PV.move rfl) rfl (by decide) ?_
    refine TL.pure (PV.assign rfl) rfl (by decide) ?_
    refine TL.pure (PV.assign rfl) rfl (by decide) ?_
    refine TL.nil ?_
    refine TQ.thenC ?_
    refine TC.ret ?_
    refine TQ.thenR ?_
    refine TQ.retE2 rfl rfl rfl ?_
    exact ⟨(none, []), rfl, BG.bad hne, List.nil_sublist _⟩
  · skip
    refine TC.skip ?_
    refine TQ.thenC ?_
    refine TC.seq ?_
    refine TC.region ?_
    refine TL.pure (PV.loadBox rfl Tb.agg_24 (by repeat (first | exact List.Mem.head _ | refine List.Mem.tail _ ?_ | refine List.mem_append_right _ ?_)) rfl) rfl (by decide) ?_
    refine TL.call rfl Tb.gofn_67 (fun a w hs => byTree_ok w _ _ _ _ (hr.new hs.new) (vof hne) G (hG (vof hne))) rfl (by decide) (fun b _ => ?_)
    refine TL.pure (PV.assign rfl) rfl (by decide) ?_
    refine TL.pure (PV.assign rfl) rfl (by decide) ?_
    refine TL.nil ?_
    refine TQ.thenC ?_
    refine TC.ret ?_
    refine TQ.retE2 rfl rfl rfl ?_
    exact ⟨(some (b, n.toNat, []), Hs n rs G), by rw [show validateI n rs = 0 from vof hne, arr_gv, Hs_len], BG.arr (vof hne), by rw [arr_gb]; exact List.Sublist.cons_cons _ (List.nil_sublist _)⟩

set_option maxRecDepth 100000 in
theorem Closures_ok (w0 : World) (n : Int) (p : Option Addr) (cap : Nat) (rs : List Rd) (hr : RdsAt w0 p rs) (G : Int → Int) (hG : Valid n rs → Pot n rs G) :
    Calls Try.prog 29 #[sv n p rs.length cap] w0 (Post (X := HD × List Int) (fun x => .tuple #[gvI x, .int .i64 (validateI n rs)]) (CG n rs G) (fun x => gbI x) w0) := by
  refine calls Try.func29 rfl (n := 12) rfl (by simp) ?_
  refine TC.seq ?_
  refine TC.region ?_
  refine TL.box rfl rfl (by decide) (fun b0 hb0 => ?_)
  refine TL.pure (PV.assign rfl) rfl (by decide) ?_
  refine TL.pure (PV.assign rfl) rfl (by decide) ?_
  refine TL.nil ?_
  refine TQ.thenC ?_
  refine TC.seq ?_
  refine TC.seq ?_
  refine TC.region ?_
  refine TL.pure (PV.loadBox rfl Tb.agg_24 (by repeat (first | exact List.Mem.head _ | refine List.Mem.tail _ ?_ | refine List.mem_append_right _ ?_)) rfl) rfl (by decide) ?_
  refine TL.call rfl Tb.gofn_23 (fun a w hs => validate_ok w _ _ _ _ (hr.new hs.new)) rfl (by decide) (fun _ _ => ?_)
  refine TL.pure (PV.assign rfl) rfl (by decide) ?_
  refine TL.nil ?_
  refine TQ.thenC ?_
  refine TC.seq ?_
  refine TC.region ?_
  refine TL.pure (PV.move rfl) rfl (by decide) ?_
  refine TL.pure (PV.neq rfl rfl) rfl (by decide) ?_
  refine TL.nil ?_
  refine TQ.thenC ?_
  first | refine TC.condD rfl (fun hne => ?_) (fun hne => ?_) | refine TC.cond rfl (fun hne => ?_) (fun hne => ?_)
  · skip
    refine TC.seq ?_
    refine TC.region ?_
    refine TL.pure (PV.move rfl) rfl (by decide) ?_
    refine TL.pure (PV.assign rfl) rfl (by decide) ?_
    refine TL.pure (PV.assign rfl) rfl (by decide) ?_
    refine TL.nil ?_
    refine TQ.thenC ?_
    refine TC.ret ?_
    refine TQ.thenR ?_
    refine TQ.retE2 rfl rfl rfl ?_
    exact ⟨(none, []), rfl, CG.bad hne, List.nil_sublist _⟩
  · skip
    refine TC.skip ?_
    refine TQ.thenC ?_
    refine TC.seq ?_
    refine TC.region ?_
    refine TL.pure (PV.loadBox rfl Tb.agg_24 (by repeat (first | exact List.Mem.head _ | refine List.Mem.tail _ ?_ | refine List.mem_append_right _ ?_)) rfl) rfl (by decide) ?_
    refine TL.call rfl Tb.gofn_69 (fun a w hs => closures_ok w _ _ _ _ (hr.new hs.new) (vof hne) G (hG (vof hne))) rfl (by decide) (fun b _ => ?_)
    refine TL.pure (PV.assign rfl) rfl (by decide) ?_
    refine TL.pure (PV.assign rfl) rfl (by decide) ?_
    refine TL.nil ?_
    refine TQ.thenC ?_
    refine TC.ret ?_
    refine TQ.retE2 rfl rfl rfl ?_
    exact ⟨(some (b, rs.length, []), residL rs 1 (Hs n rs G)), by rw [show validateI n rs = 0 from vof hne, arr_gv, residL_len], CG.arr (vof hne), by rw [arr_gb]; exact List.Sublist.cons_cons _ (List.nil_sublist _)⟩

set_option maxRecDepth 100000 in
theorem IsTrue_ok (w0 : World) (n : Int) (p : Option Addr) (cap : Nat) (rs : List Rd) (hr : RdsAt w0 p rs) (G : Int → Int) (hG : Valid n rs → Pot n rs G) :
    Calls Try.prog 31 #[sv n p rs.length cap] w0 (Post (X := Unit) (fun _ => .tuple #[.bool (if validateI n rs = 0 then zeroB (residL rs 1 (Hs n rs G)) else false), .int .i64 (validateI n rs)]) (fun _ => True) (fun _ => []) w0) := by
  refine calls Try.func31 rfl (n := 13) rfl (by simp) ?_
  refine TC.seq ?_
  refine TC.region ?_
  refine TL.box rfl rfl (by decide) (fun b0 hb0 => ?_)
  refine TL.pure (PV.assign rfl) rfl (by decide) ?_
  refine TL.pure (PV.assign rfl) rfl (by decide) ?_
  refine TL.nil ?_
  refine TQ.thenC ?_
  refine TC.seq ?_
  refine TC.seq ?_
  refine TC.region ?_
  refine TL.pure (PV.loadBox rfl Tb.agg_24 (by repeat (first | exact List.Mem.head _ | refine List.Mem.tail _ ?_ | refine List.mem_append_right _ ?_)) rfl) rfl (by decide) ?_
  refine TL.call rfl Tb.gofn_23 (fun a w hs => validate_ok w _ _ _ _ (hr.new hs.new)) rfl (by decide) (fun _ _ => ?_)
  refine TL.pure (PV.assign rfl) rfl (by decide) ?_
  refine TL.nil ?_
  refine TQ.thenC ?_
  refine TC.seq ?_
  refine TC.region ?_
  refine TL.pure (PV.move rfl) rfl (by decide) ?_
  refine TL.pure (PV.neq rfl rfl) rfl (by decide) ?_
  refine TL.nil ?_
  refine TQ.thenC ?_
  first | refine TC.condD rfl (fun hne => ?_) (fun hne => ?_) | refine TC.cond rfl (fun hne => ?_) (fun hne => ?_)
  · skip
    refine TC.seq ?_
    refine TC.region ?_
    refine TL.pure (PV.move rfl) rfl (by decide) ?_
    refine TL.pure (PV.assign rfl) rfl (by decide) ?_
    refine TL.pure (PV.assign rfl) rfl (by decide) ?_
    refine TL.nil ?_
    refine TQ.thenC ?_
    refine TC.ret ?_
    refine TQ.thenR ?_
    refine TQ.retE2 rfl rfl rfl ?_
    exact ⟨(), by rw [if_neg hne], trivial, List.nil_sublist _⟩
  · skip
    refine TC.skip ?_
    refine TQ.thenC ?_
    refine TC.seq ?_
    have hll := (vof hne).len
    refine TC.region ?_
    refine TL.pure (PV.loadBox rfl Tb.agg_24 (by repeat (first | exact List.Mem.head _ | refine List.Mem.tail _ ?_ | refine List.mem_append_right _ ?_)) rfl) rfl (by decide) ?_
    refine TL.call rfl Tb.gofn_69 (fun a w hs => closures_ok w _ _ _ _ (hr.new hs.new) (vof hne) G (hG (vof hne))) rfl (by decide) (fun b _ => ?_)
    refine TL.call rfl Tb.gofn_70 (fun a w hs => areZero_ok w (some ⟨b, 0, none⟩) rs.length rs.length (residL rs 1 (Hs n rs G)) (residL_len _ _ _) (IntsAt.arr hs.new (by repeat (first | exact List.Mem.head _ | refine List.Mem.tail _ ?_ | refine List.mem_append_right _ ?_))) (by omega)) rfl (by decide) (fun _ _ => ?_)
    refine TL.pure (PV.assign rfl) rfl (by decide) ?_
    refine TL.pure (PV.assign rfl) rfl (by decide) ?_
    refine TL.nil ?_
    refine TQ.thenC ?_
    refine TC.ret ?_
    refine TQ.retE2 rfl rfl rfl ?_
    exact ⟨(), by rw [show validateI n rs = 0 from vof hne, if_pos rfl], trivial, List.nil_sublist _⟩

end Go.Proofs.Ytmmgcajegokkoaa

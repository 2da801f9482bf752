/- He Hj -/
import Derived.Test.YtbnjmkidbfmomaaGreatDoorV06
import Derived.Test.YtbnjmkidbfmomaaGreatDoorV10
import Derived.Test.YtbnjmkidbfmomaaGreatDoorV13
set_option linter.unusedVariables false
set_option linter.unusedSimpArgs false
set_option maxRecDepth 100000
namespace Go.Proofs.YtbnjmkidbfmomaaGreatDoor.H
open Go.Sx Go.RowKit Go.Sand
noncomputable def givI (ls : List (List Int)) (gs : List Int) (xss : List (List Int)) : Int := if validI ls gs ≠ 0 then validI ls gs else if xss.all (numB gs.length 30) = true then 0 else 1
theorem giv_bad {ls : List (List Int)} {gs : List Int} {xss : List (List Int)} (h : validI ls gs ≠ 0) : givI ls gs xss = validI ls gs := if_pos h
theorem giv_1 {ls : List (List Int)} {gs : List Int} {xss : List (List Int)} {k : Nat} (h : ¬ validI ls gs ≠ 0) (hk : k < xss.length) (h2 : numB gs.length 30 (xss.getD k []) = false) : givI ls gs xss = 1 := by
  unfold givI
  rw [if_neg h, if_neg (by rw [all_no hk h2]; decide)]
theorem giv_0 {ls : List (List Int)} {gs : List Int} {xss : List (List Int)} (h : ¬ validI ls gs ≠ 0) (h2 : ∀ k, k < xss.length → numB gs.length 30 (xss.getD k []) = true) : givI ls gs xss = 0 := by
  unfold givI
  rw [if_neg h, if_pos (all_yes h2)]
theorem giv_hb {ls : List (List Int)} {gs : List Int} {xss : List (List Int)} (h : ¬ givI ls gs xss ≠ 0) : HB ls gs ∧ ∀ k, k < xss.length → numB gs.length 30 (xss.getD k []) = true := by
  have h0 := Decidable.of_not_not h
  by_cases h1 : validI ls gs ≠ 0
  · rw [giv_bad h1] at h0; exact absurd h0 h1
  · refine ⟨hb_of h1, fun k hk => ?_⟩
    unfold givI at h0
    rw [if_neg h1] at h0
    by_cases h2 : xss.all (numB gs.length 30) = true
    · exact all_at' h2 hk
    · rw [if_neg h2] at h0; cases h0
theorem giv_ne {ls : List (List Int)} {gs : List Int} {x : List Int} {xss : List (List Int)} (h : ¬ givI ls gs (x :: xss) ≠ 0) : x.length = gs.length ∧ ∀ k, 0 ≤ x.getD k 0 ∧ x.getD k 0 ≤ 30 := by
  have h1 := (giv_hb h).2 0 (by simp)
  have h2 := num_len h1
  exact ⟨by simp only [List.getD_cons_zero] at h2; omega, fun k => num_at h1 (by decide) k⟩
abbrev limI (ls : List (List Int)) (gs : List Int) (i : Nat) : Int := lim gs.length (lk ls) (gd gs) i
theorem sm_two {ls : List (List Int)} {gs : List Int} (h : Shp ls gs) (i : Nat) : ∀ k : Nat, 0 ≤ sm k (lk ls i) ∧ sm k (lk ls i) ≤ 2 * k
  | 0 => by simp [sm]
  | k + 1 => by
    have h1 := sm_two h i k
    have h2 := h.ent i k
    have e : sm (k + 1) (lk ls i) = sm k (lk ls i) + getM ls i k := rfl
    omega
theorem HB.lim {ls : List (List Int)} {gs : List Int} (h : HB ls gs) {i : Nat} (hi : i < gs.length) : 1 ≤ limI ls gs i ∧ limI ls gs i ≤ 12 := by
  have h1 := lim_pos h.G hi
  have h2 := sm_two h.toShp i gs.length
  have h3 := h.gat i
  have h4 := h.n
  refine ⟨h1, ?_⟩
  unfold limI Sand.lim
  show gs.getD i 0 + _ ≤ 12
  omega
def calmB (ls : List (List Int)) (gs : List Int) (xs : List Int) : Bool := (List.range xs.length).all fun i => decide (xs.getD i 0 < limI ls gs i)
theorem calm_no {ls : List (List Int)} {gs xs : List Int} {k : Nat} (hk : k < xs.length) (h : ¬ xs.getD k 0 < limI ls gs k) : calmB ls gs xs = false := by
  unfold calmB
  rw [Bool.eq_false_iff]
  intro h1
  exact h (of_decide_eq_true (List.all_eq_true.1 h1 k (List.mem_range.2 hk)))
theorem calm_yes {ls : List (List Int)} {gs xs : List Int} (h : ∀ k, k < xs.length → xs.getD k 0 < limI ls gs k) : calmB ls gs xs = true :=
  List.all_eq_true.2 fun k hk => decide_eq_true (h k (List.mem_range.1 hk))
theorem calm_at {ls : List (List Int)} {gs xs : List Int} (h : calmB ls gs xs = true) {k : Nat} (hk : k < xs.length) : xs.getD k 0 < limI ls gs k :=
  of_decide_eq_true (List.all_eq_true.1 h k (List.mem_range.2 hk))
theorem ints_ext {xs ys : List Int} (hl : xs.length = ys.length) (h : ∀ j, j < xs.length → xs.getD j 0 = ys.getD j 0) : xs = ys := by
  refine List.ext_getElem hl fun j h1 h2 => ?_
  have := h j h1
  simpa [List.getD, h1, h2] using this
theorem fill_o (x : Option Addr) (n c : Nat) : Instr.fill (fun i => some (i * 1, 1)) ((Array.range (1 * 1)).map ((Value.slice none 0 0).cells[· % (Value.slice none 0 0).cells.size]!)) [(0, .slice x n c)] = some #[.slice x n c] := by kernel_rfl
theorem LsAt.one {w0 w : World} {G : Heap} {bO cl : Nat} {e : TypeId} {pl : Option Addr} {xs : List Int} (hn : New w0 w G) (hO : (bO, Obj.cells #[.slice pl xs.length cl] e (0, 0)) ∈ G) (hx : IntsAt w pl xs) : LsAt w (some ⟨bO, 0, none⟩) [xs] := by
  intro j hj
  have e : j = 0 := by simp only [List.length_cons, List.length_nil] at hj; omega
  subst e
  refine ⟨_, rfl, pl, cl, ?_, hx⟩
  rw [add_off]
  exact hn.cell hO rfl
theorem LsAt.two {w0 w : World} {G : Heap} {bO cl c2 : Nat} {e : TypeId} {pl p2 : Option Addr} {xs ys : List Int} (hn : New w0 w G) (hO : (bO, Obj.cells #[.slice pl xs.length cl, .slice p2 ys.length c2] e (0, 0)) ∈ G) (hx : IntsAt w pl xs) (hy : IntsAt w p2 ys) : LsAt w (some ⟨bO, 0, none⟩) [xs, ys] := by
  intro j hj
  have e : j = 0 ∨ j = 1 := by simp only [List.length_cons, List.length_nil] at hj; omega
  rcases e with rfl | rfl
  · refine ⟨_, rfl, pl, cl, ?_, hx⟩
    rw [add_off]
    exact hn.cell hO rfl
  · refine ⟨_, rfl, p2, c2, ?_, hy⟩
    rw [add_off]
    exact hn.cell hO rfl
def eqN (xs ys : List Int) : Nat → Bool
  | 0 => true
  | k + 1 => eqN xs ys k && decide (xs.getD k 0 = ys.getD k 0)
theorem heaping_ok (w0 : World) (p : Option Addr) (cp : Nat) (ls : List (List Int)) (hr : LsAt w0 p ls) (q : Option Addr) (cq : Nat) (gs : List Int) (hg : IntsAt w0 q gs) (pl : Option Addr) (cl : Nat) (xs : List Int) (hx : IntsAt w0 pl xs) (hl : gs.length ≤ 1000) :
    Calls Tryz.prog 129 #[hv p ls.length cp q gs.length cq, .slice pl xs.length cl] w0 (Post (X := Unit) (fun _ => .int .i64 (if numB gs.length 30 xs = true then 0 else 1)) (fun _ => True) (fun _ => []) w0) := by
  refine calls Tryz.func129 rfl (n := 24) rfl (by simp) ?_
  refine zr (TL.box rfl rfl dc (fun b0 hb0 => ?_))
  refine za rfl (zn (TC.seq (zr (zm rfl (zq (PV.len rfl Tb.sl_25) rfl (zq (PV.fieldAddr rfl Tb.fo_27_1) rfl (zq (PV.load rfl Tb.one_25 m9z rfl) rfl ?_)))))))
  refine zq (PV.len rfl Tb.sl_25) rfl (zq (PV.neq rfl rfl) rfl (zn (TC.cd rfl (fun hne => ?_) (fun hne => ?_))))
  refine zr (za rfl (zt (TQ.thenR (TQ.retE1 rfl rfl ?_))))
  exact ⟨(), by rw [num_1 (by omega)]; rfl, trivial, nils⟩
  refine TC.skip (TQ.thenC (TC.seq (zr (za rfl (zn (TC.block (TC.loopG [1] (X := Nat) (fun k => k ≤ xs.length ∧ ∀ j, j < k → 0 ≤ xs.getD j 0 ∧ xs.getD j 0 ≤ 30) (fun k => [(5, .int .i64 k)]) (fun k => xs.length - k) 0 ⟨Nat.zero_le _, fun j hj => absurd hj (Nat.not_lt_zero _)⟩ l9z ?_)))))))
  intro k hk
  refine TC.seq (zr (zm rfl (zm rfl (zq (PV.len rfl Tb.sl_25) rfl (zq (PV.lss rfl rfl) rfl (zn (TC.cd rfl (fun hlt => ?_) (fun hlt => ?_))))))))
  refine TC.skip (TQ.thenC (TC.seq (TC.block (TC.seq ?_))))
  obtain ⟨q2, hq2p, hq2⟩ := hx k (by omega)
  refine TC.region (zm rfl (zm rfl (zq (PV.indexA rfl hq2p rfl Tb.elm_25 rfl om) rfl (zq (PV.loadOld rfl Tb.one_3 hq2) rfl (TL.call rfl Tb.gofn_127 (fun a w hs => within_ok w _ _ _) rfl dc (fun _ _ => ?_))))))
  refine zq ((by first | exact PV.notD rfl | exact PV.not rfl)) rfl ?_
  refine zn (TC.cd rfl (fun hno => ?_) (fun hno => ?_))
  refine zr (za rfl (zt (TQ.blkR (TQ.thenR (TQ.thenR (TQ.blkR (TQ.thenR (TQ.retE1 rfl rfl ?_))))))))
  exact ⟨(), by rw [num_2 (k := k) (by omega) (by omega)]; rfl, trivial, nils⟩
  refine TC.skip (TQ.blkN (TQ.thenC (TC.region (zm rfl (zq (PV.add rfl rfl om) rfl (za rfl (TL.nil (TQ.thenN (TQ.backK (k + 1) l9z l9z s9z ⟨by omega, fun j hj => if e : j < k then hk.2 j e else (show k = j by omega) ▸ om⟩ om)))))))))
  refine TC.exit (TQ.thenE (TQ.thenE (TQ.blkS (TQ.thenC (zr (za rfl (zt (TQ.retE1 rfl rfl ?_))))))))
  exact ⟨(), by rw [num_3 (by omega) (fun j hj => hk.2 j (by omega))]; rfl, trivial, nils⟩
set_option maxHeartbeats 1000000 in
theorem validateHeapings_ok (w0 : World) (p : Option Addr) (cp : Nat) (ls : List (List Int)) (hr : LsAt w0 p ls) (q : Option Addr) (cq : Nat) (gs : List Int) (hg : IntsAt w0 q gs) (hlo : ∀ k, (ls.getD k []).length ≤ 1000000) (pv : Option Addr) (cv : Nat) (xss : List (List Int)) (hxv : LsAt w0 pv xss) (hvl : xss.length ≤ 1000000) (hvo : ∀ k, (xss.getD k []).length ≤ 1000000) :
    Calls Tryz.prog 158 #[hv p ls.length cp q gs.length cq, .slice pv xss.length cv] w0 (Post (X := Unit) (fun _ => .int .i64 (givI ls gs xss)) (fun _ => True) (fun _ => []) w0) := by
  refine calls Tryz.func158 rfl (n := 26) rfl (by simp) ?_
  refine zr (TL.box rfl rfl dc (fun b0 hb0 => ?_))
  refine za rfl (zn (TC.seq (zr (zq (PV.loadBox rfl Tb.agg_27 m9z rfl) rfl ?_))))
  refine TL.call rfl Tb.gofn_97 (fun a w hs => validate_ok w _ _ _ (hr.new hs.new) _ _ _ (hg.new hs.new) hlo) rfl dc (fun _ _ => ?_)
  refine za rfl (zk (zm rfl (zq (PV.neq rfl rfl) rfl (zn (TC.cd rfl (fun hbad => ?_) (fun hbad => ?_))))))
  refine zr (zm rfl (za rfl (zt (TQ.thenR (TQ.retE1 rfl rfl ?_)))))
  exact ⟨(), by rw [giv_bad hbad], trivial, nils⟩
  refine TC.skip (TQ.thenC (TC.seq (zr (zm rfl (zq (PV.len rfl Tb.sl_22) rfl (zm rfl (zn (TC.block (TC.loopG [2, 13, 14] (X := Nat) (fun k => k ≤ xss.length ∧ ∀ j, j < k → numB gs.length 30 (xss.getD j []) = true) (fun k => [(15, .int .i64 k)]) (fun k => xss.length - k) 0 ⟨Nat.zero_le _, fun j hj => absurd hj (Nat.not_lt_zero _)⟩ l9z ?_)))))))))
  intro k hk
  refine zr (zq (PV.lss rfl rfl) rfl (zn (TC.seq (TC.cd rfl (fun hlt => ?_) (fun hlt => ?_)))))
  refine TC.skip (TQ.thenC (TC.seq (TC.block (TC.seq ?_))))
  obtain ⟨q1, hq1p, p1, c1, hq1, hi1⟩ := hxv k (by omega)
  refine TC.region (zq (PV.indexA rfl hq1p rfl Tb.elm_22 rfl om) rfl (zq (PV.loadOld rfl Tb.one_25 hq1) rfl (za rfl (zk (zm rfl (zq (PV.fieldAddr rfl Tb.fo_27_1) rfl (zq (PV.load rfl Tb.one_25 m9z rfl) rfl ?_)))))))
  refine zq (PV.len rfl Tb.sl_25) rfl (TL.call rfl Tb.gofn_135 (fun a w hs => areNumbers_ok w _ _ _ (hi1.new hs.new) (hvo k) _ _) rfl dc (fun _ _ => ?_))
  refine zq ((by first | exact PV.notD rfl | exact PV.not rfl)) rfl ?_
  refine zn (TC.cd rfl (fun hno => ?_) (fun hno => ?_))
  refine zr (za rfl (zt (TQ.blkR (TQ.thenR (TQ.thenR (TQ.blkR (TQ.thenR (TQ.retE1 rfl rfl ?_))))))))
  exact ⟨(), by rw [giv_1 (k := k) hbad (by omega) (by simpa using hno)], trivial, nils⟩
  refine TC.skip (TQ.blkN (TQ.thenC (TC.region (zq (PV.add rfl rfl om) rfl (zm rfl (TL.nil (TQ.thenN (TQ.backK (k + 1) l9z l9z s9z ⟨by omega, fun j hj => if e : j < k then hk.2 j e else (show k = j by omega) ▸ (by simpa using hno)⟩ om))))))))
  refine TC.exit (TQ.thenE (TQ.thenE (TQ.blkS (TQ.thenC (zr (za rfl (zt (TQ.retE1 rfl rfl ?_))))))))
  exact ⟨(), by rw [giv_0 hbad (fun j hj => hk.2 j (by omega))], trivial, nils⟩
set_option maxHeartbeats 1000000 in
theorem given_ok (w0 : World) (p : Option Addr) (cp : Nat) (ls : List (List Int)) (hr : LsAt w0 p ls) (q : Option Addr) (cq : Nat) (gs : List Int) (hg : IntsAt w0 q gs) (hlo : ∀ k, (ls.getD k []).length ≤ 1000000) (pv : Option Addr) (cv : Nat) (xss : List (List Int)) (hxv : LsAt w0 pv xss) (hvl : xss.length ≤ 1000000) (hvo : ∀ k, (xss.getD k []).length ≤ 1000000) :
    Calls Tryz.prog 90 #[hv p ls.length cp q gs.length cq, .slice pv xss.length cv] w0 (Post (X := Unit) (fun _ => .int .i64 (givI ls gs xss)) (fun _ => True) (fun _ => []) w0) := by
  refine calls Tryz.func90 rfl (n := 25) rfl (by simp) ?_
  refine zr (TL.box rfl rfl dc (fun b0 hb0 => ?_))
  refine za rfl (zk (zq (PV.loadBox rfl Tb.agg_27 m9z rfl) rfl ?_))
  refine TL.call rfl Tb.gofn_87 (fun a w hs => rvalidate_ok w _ _ _ (hr.new hs.new) _ _ _ (hg.new hs.new)) rfl dc (fun _ _ => ?_)
  refine za rfl (zn (TC.seq (zr (zm rfl (zq (PV.neq rfl rfl) rfl (zn (TC.cd rfl (fun hbad => ?_) (fun hbad => ?_))))))))
  refine zr (zm rfl (za rfl (zt (TQ.thenR (TQ.retE1 rfl rfl ?_)))))
  exact ⟨(), by rw [giv_bad hbad], trivial, nils⟩
  refine TC.skip (TQ.thenC (TC.seq (zr (za rfl (zn (TC.block (TC.loopG [1, 2] (X := Nat) (fun k => k ≤ xss.length ∧ ∀ j, j < k → numB gs.length 30 (xss.getD j []) = true) (fun k => [(6, .int .i64 k)]) (fun k => xss.length - k) 0 ⟨Nat.zero_le _, fun j hj => absurd hj (Nat.not_lt_zero _)⟩ l9z ?_)))))))
  intro k hk
  refine TC.seq (zr (zm rfl (zm rfl (zq (PV.len rfl Tb.sl_22) rfl (zq (PV.lss rfl rfl) rfl (zn (TC.cd rfl (fun hlt => ?_) (fun hlt => ?_))))))))
  refine TC.skip (TQ.thenC (TC.seq (TC.block (TC.seq ?_))))
  obtain ⟨q1, hq1p, p1, c1, hq1, hi1⟩ := hxv k (by omega)
  refine TC.any Tb.mixed rfl rfl ?_
  refine TA.op (OpOK.pure (PV.loadBox rfl Tb.agg_27 m9z rfl) rfl dc) dc ?_
  refine TA.op (OpOK.pure (PV.move rfl) rfl dc) dc ?_
  refine TA.op (OpOK.pure (PV.move rfl) rfl dc) dc ?_
  refine TA.op (OpOK.pure (PV.indexA rfl hq1p rfl Tb.elm_22 rfl om) rfl dc) dc ?_
  refine TA.op (OpOK.pure (PV.loadOld rfl Tb.one_25 hq1) rfl dc) dc ?_
  refine TA.op (OpOK.call rfl Tb.gofn_129 (fun a w hs => heaping_ok w _ _ _ (hr.new hs.new) _ _ _ (hg.new hs.new) _ _ _ (hi1.new hs.new) (by have := (hb_of hbad).n; omega)) rfl dc) dc ?_
  refine TA.op (OpOK.pure (PV.neq rfl rfl) rfl dc) dc ?_
  show TQ _ _ _ _ _
  refine TQ.thenC (TC.cd rfl (fun hno => ?_) (fun hno => ?_))
  refine zr (za rfl (zt (TQ.blkR (TQ.thenR (TQ.thenR (TQ.blkR (TQ.thenR (TQ.retE1 rfl rfl ?_))))))))
  exact ⟨(), by rw [giv_1 (k := k) hbad (by omega) (by revert hno; split <;> simp_all)], trivial, nils⟩
  refine TC.skip (TQ.blkN (TQ.thenC (TC.region (zm rfl (zq (PV.add rfl rfl om) rfl (za rfl (TL.nil (TQ.thenN (TQ.backK (k + 1) l9z l9z s9z ⟨by omega, fun j hj => if e : j < k then hk.2 j e else (show k = j by omega) ▸ (by revert hno; split <;> simp_all)⟩ om)))))))))
  refine TC.exit (TQ.thenE (TQ.thenE (TQ.blkS (TQ.thenC (zr (za rfl (zt (TQ.retE1 rfl rfl ?_))))))))
  exact ⟨(), by rw [giv_0 hbad (fun j hj => hk.2 j (by omega))], trivial, nils⟩
theorem isHeap_ok (w0 : World) (p : Option Addr) (cp : Nat) (ls : List (List Int)) (hr : LsAt w0 p ls) (q : Option Addr) (cq : Nat) (gs : List Int) (hg : IntsAt w0 q gs) (i : Int) :
    Calls Tryz.prog 239 #[hv p ls.length cp q gs.length cq, .int .i64 i] w0 (Post (X := Unit) (fun _ => .bool (decide (0 ≤ i ∧ i < gs.length))) (fun _ => True) (fun _ => []) w0) := by
  refine calls Tryz.func239 rfl (n := 14) rfl (by simp) ?_
  refine zr (TL.box rfl rfl dc (fun b0 hb0 => ?_))
  refine za rfl (zk (zm rfl (zq (PV.geq rfl rfl) rfl (zm rfl (TL.sp 7 rfl (fun e1 => ?_) (fun e1 => ?_))))))
  refine zm rfl (zq (PV.fieldAddr rfl Tb.fo_27_1) rfl (zq (PV.load rfl Tb.one_25 m9z rfl) rfl ?_))
  refine zq (PV.len rfl Tb.sl_25) rfl (zq (PV.lss rfl rfl) rfl (zq (PV.pickT rfl rfl) rfl (za rfl (zt (TQ.retE1 rfl rfl ?_)))))
  first | exact ⟨(), by rw [decide_eq_false (by omega : ¬ (0 ≤ i ∧ i < gs.length))], trivial, nils⟩ | exact ⟨(), by congr 1; rw [decide_eq_decide]; omega, trivial, nils⟩
  refine zx rfl (zx rfl (zx rfl (zx rfl (zx rfl (zq (PV.pickF rfl rfl) rfl (za rfl (zt (TQ.retE1 rfl rfl ?_))))))))
  first | exact ⟨(), by rw [decide_eq_false (by omega : ¬ (0 ≤ i ∧ i < gs.length))], trivial, nils⟩ | exact ⟨(), by congr 1; rw [decide_eq_decide]; omega, trivial, nils⟩
theorem limit_ok (w0 : World) (p : Option Addr) (cp : Nat) (ls : List (List Int)) (hr : LsAt w0 p ls) (q : Option Addr) (cq : Nat) (gs : List Int) (hg : IntsAt w0 q gs) (hB : HB ls gs) (i : Nat) (hi : i < gs.length) :
    Calls Tryz.prog 219 #[hv p ls.length cp q gs.length cq, .int .i64 i] w0 (Post (X := Unit) (fun _ => .int .i64 (limI ls gs i)) (fun _ => True) (fun _ => []) w0) := by
  have hn9 := hB.n
  have hl9 := hB.len
  have hrk := hB.rowl (k := i) (by omega)
  have hga := hB.gat i
  refine calls Tryz.func219 rfl (n := 28) rfl (by simp) ?_
  refine zr (TL.box rfl rfl dc (fun b0 hb0 => ?_))
  refine za rfl (zn (TC.seq ?_))
  obtain ⟨q3, hq3p, hq3⟩ := hg i (by omega)
  obtain ⟨q1, hq1p, p1, c1, hq1, hi1⟩ := hr i (by omega)
  refine TC.region (zq (PV.fieldAddr rfl Tb.fo_27_1) rfl (zq (PV.load rfl Tb.one_25 m9z rfl) rfl ?_))
  refine zm rfl (zq (PV.indexA rfl hq3p rfl Tb.elm_25 rfl om) rfl (zq (PV.loadOld rfl Tb.one_3 hq3) rfl (za rfl (zn (TC.seq (zr (zq (PV.fieldAddr rfl Tb.fo_27_0) rfl (zq (PV.load rfl Tb.one_22 m9z rfl) rfl ?_))))))))
  refine zm rfl (zq (PV.indexA rfl hq1p rfl Tb.elm_22 rfl om) rfl (zq (PV.loadOld rfl Tb.one_25 hq1) rfl (zq (PV.len rfl Tb.sl_25) rfl (zm rfl (zn (TC.block (TC.loopG [4, 17, 18] (X := Nat) (fun k => k ≤ gs.length) (fun k => [(19, .int .i64 k), (5, .int .i64 (gs.getD i 0 + sm k (lk ls i)))]) (fun k => gs.length - k) 0 (Nat.zero_le _) (by refine And.intro rfl (And.intro ?_ True.intro); show some _ = some _; simp [sm]) ?_)))))))
  intro k hk
  refine zr (zq (PV.lss rfl rfl) rfl (zn (TC.seq (TC.cd rfl (fun h0 => ?_) (fun h0 => ?_)))))
  refine TC.skip (TQ.thenC (TC.seq (TC.block (TC.seq ?_))))
  obtain ⟨q2, hq2p, hq2⟩ := hi1 k (by omega)
  have hsm := sm_two hB.toShp i k
  have hen : 0 ≤ (ls.getD i []).getD k 0 ∧ (ls.getD i []).getD k 0 ≤ 2 := hB.ent i k
  refine TC.region (zq (PV.indexA rfl hq2p rfl Tb.elm_25 rfl (by omega)) rfl (zq (PV.loadOld rfl Tb.one_3 hq2) rfl (za rfl (zn (TC.region (zm rfl (zm rfl (zq (PV.add rfl rfl (by omega)) rfl (za rfl (TL.nil (TQ.blkN (TQ.thenC (TC.region (zq (PV.add rfl rfl (by omega)) rfl (zm rfl (TL.nil (TQ.thenN (TQ.backK (k + 1) (by refine And.intro rfl (And.intro ?_ True.intro); show some _ = some _; unfold lk getM; first | rfl | (rw [Int.add_assoc]; rfl)) l9z s9z (by omega) (by omega)))))))))))))))))))
  refine TC.exit (TQ.thenE (TQ.thenE (TQ.blkS (TQ.thenC (zr (zm rfl (za rfl (zt (TQ.retE1 rfl rfl ?_)))))))))
  exact ⟨(), by rw [show k = gs.length by omega]; rfl, trivial, nils⟩
theorem rlimit_ok (w0 : World) (p : Option Addr) (cp : Nat) (ls : List (List Int)) (hr : LsAt w0 p ls) (q : Option Addr) (cq : Nat) (gs : List Int) (hg : IntsAt w0 q gs) (hB : HB ls gs) (i : Nat) (hi : i < gs.length) :
    Calls Tryz.prog 130 #[hv p ls.length cp q gs.length cq, .int .i64 i] w0 (Post (X := Unit) (fun _ => .int .i64 (limI ls gs i)) (fun _ => True) (fun _ => []) w0) := by
  have hn9 := hB.n
  have hl9 := hB.len
  have hrk := hB.rowl (k := i) (by omega)
  have hga := hB.gat i
  refine calls Tryz.func130 rfl (n := 30) rfl (by simp) ?_
  refine zr (TL.box rfl rfl dc (fun b0 hb0 => ?_))
  refine za rfl (zn (TC.seq ?_))
  obtain ⟨q3, hq3p, hq3⟩ := hg i (by omega)
  obtain ⟨q1, hq1p, p1, c1, hq1, hi1⟩ := hr i (by omega)
  refine TC.region (zq (PV.fieldAddr rfl Tb.fo_27_1) rfl (zq (PV.load rfl Tb.one_25 m9z rfl) rfl ?_))
  refine zm rfl (zq (PV.indexA rfl hq3p rfl Tb.elm_25 rfl om) rfl (zq (PV.loadOld rfl Tb.one_3 hq3) rfl (za rfl (zn (TC.seq (zr (za rfl (zn (TC.block (TC.loopG [1, 2, 4] (X := Nat) (fun k => k ≤ gs.length) (fun k => [(6, .int .i64 k), (5, .int .i64 (gs.getD i 0 + sm k (lk ls i)))]) (fun k => gs.length - k) 0 (Nat.zero_le _) (by refine And.intro rfl (And.intro ?_ True.intro); show some _ = some _; simp [sm]) ?_))))))))))
  intro k hk
  refine TC.seq (zr (zm rfl (zq (PV.fieldAddr rfl Tb.fo_27_1) rfl (zq (PV.load rfl Tb.one_25 m9z rfl) rfl ?_))))
  refine zq (PV.len rfl Tb.sl_25) rfl (zq (PV.lss rfl rfl) rfl (zn (TC.cd rfl (fun h0 => ?_) (fun h0 => ?_))))
  refine TC.skip (TQ.thenC (TC.seq (TC.block ?_)))
  obtain ⟨q2, hq2p, hq2⟩ := hi1 k (by omega)
  have hsm := sm_two hB.toShp i k
  have hen : 0 ≤ (ls.getD i []).getD k 0 ∧ (ls.getD i []).getD k 0 ≤ 2 := hB.ent i k
  refine TC.region (zm rfl (zq (PV.fieldAddr rfl Tb.fo_27_0) rfl (zq (PV.load rfl Tb.one_22 m9z rfl) rfl ?_)))
  refine zm rfl (zq (PV.indexA rfl hq1p rfl Tb.elm_22 rfl (by omega)) rfl (zq (PV.loadOld rfl Tb.one_25 hq1) rfl (zm rfl (zq (PV.indexA rfl hq2p rfl Tb.elm_25 rfl (by omega)) rfl (zq (PV.loadOld rfl Tb.one_3 hq2) rfl (zq (PV.add rfl rfl (by omega)) rfl (za rfl (TL.nil (TQ.blkN (TQ.thenC (TC.region (zm rfl (zq (PV.add rfl rfl (by omega)) rfl (za rfl (TL.nil (TQ.thenN (TQ.backK (k + 1) (by refine And.intro rfl (And.intro ?_ True.intro); show some _ = some _; unfold lk getM; first | rfl | (rw [Int.add_assoc]; rfl)) l9z s9z (by omega) (by omega))))))))))))))))))
  refine TC.exit (TQ.thenE (TQ.thenE (TQ.blkS (TQ.thenC (zr (zm rfl (za rfl (zt (TQ.retE1 rfl rfl ?_)))))))))
  exact ⟨(), by rw [show k = gs.length by omega]; rfl, trivial, nils⟩
theorem canTopple_ok (w0 : World) (p : Option Addr) (cp : Nat) (ls : List (List Int)) (hr : LsAt w0 p ls) (q : Option Addr) (cq : Nat) (gs : List Int) (hg : IntsAt w0 q gs) (hB : HB ls gs) (pl : Option Addr) (cl : Nat) (xs : List Int) (hx : IntsAt w0 pl xs) (N : Nat) (hN : xs.length = N) (hn : xs.length = gs.length) (i : Nat) (hi : i < gs.length) :
    Calls Tryz.prog 189 #[hv p ls.length cp q gs.length cq, .slice pl N cl, .int .i64 i] w0 (Post (X := Unit) (fun _ => .bool (decide (limI ls gs i ≤ xs.getD i 0))) (fun _ => True) (fun _ => []) w0) := by
  refine calls Tryz.func189 rfl (n := 15) rfl (by simp) ?_
  refine zr (TL.box rfl rfl dc (fun b0 hb0 => ?_))
  refine za rfl (zn (TC.seq ?_))
  obtain ⟨q2, hq2p, hq2⟩ := hx i (by omega)
  refine TC.any Tb.mixed rfl rfl ?_
  refine TA.op (OpOK.pure (PV.move rfl) rfl dc) dc ?_
  refine TA.op (OpOK.pure (PV.move rfl) rfl dc) dc ?_
  refine TA.op (OpOK.pure (PV.indexA rfl hq2p rfl Tb.elm_25 rfl om) rfl dc) dc ?_
  refine TA.op (OpOK.pure (PV.loadOld rfl Tb.one_3 hq2) rfl dc) dc ?_
  refine TA.op (OpOK.pure (PV.loadBox rfl Tb.agg_27 m9z rfl) rfl dc) dc ?_
  refine TA.op (OpOK.pure (PV.move rfl) rfl dc) dc ?_
  refine TA.op (OpOK.call rfl Tb.gofn_219 (fun a w hs => limit_ok w _ _ _ (hr.new hs.new) _ _ _ (hg.new hs.new) hB i hi) rfl dc) dc ?_
  refine TA.op (OpOK.pure (PV.geq rfl rfl) rfl dc) dc ?_
  refine TA.op (OpOK.pure (PV.assign rfl) rfl dc) dc ?_
  show TQ _ _ _ _ _
  refine zc (TQ.retE1 rfl rfl ?_)
  exact ⟨(), rfl, trivial, nils⟩
theorem isCalm_ok (w0 : World) (p : Option Addr) (cp : Nat) (ls : List (List Int)) (hr : LsAt w0 p ls) (q : Option Addr) (cq : Nat) (gs : List Int) (hg : IntsAt w0 q gs) (hB : HB ls gs) (pl : Option Addr) (cl : Nat) (xs : List Int) (hx : IntsAt w0 pl xs) (N : Nat) (hN : xs.length = N) (hn : xs.length = gs.length) :
    Calls Tryz.prog 159 #[hv p ls.length cp q gs.length cq, .slice pl N cl] w0 (Post (X := Unit) (fun _ => .bool (calmB ls gs xs)) (fun _ => True) (fun _ => []) w0) := by
  have hn9 := hB.n
  refine calls Tryz.func159 rfl (n := 16) rfl (by simp) ?_
  refine zr (TL.box rfl rfl dc (fun b0 hb0 => ?_))
  refine za rfl (zn (TC.seq (zr (zm rfl (zq (PV.len rfl Tb.sl_25) rfl (zm rfl (zn (TC.block (TC.loopG [1, 2, 7] (X := Nat) (fun k => k ≤ N ∧ ∀ j, j < k → xs.getD j 0 < limI ls gs j) (fun k => [(8, .int .i64 k)]) (fun k => N - k) 0 ⟨Nat.zero_le _, fun j hj => absurd hj (Nat.not_lt_zero _)⟩ l9z ?_)))))))))
  intro k hk
  refine zr (zq (PV.lss rfl rfl) rfl (zn (TC.seq (TC.cd rfl (fun hlt => ?_) (fun hlt => ?_)))))
  refine TC.skip (TQ.thenC (TC.seq (TC.block (zr (zm rfl (za rfl (zk (zq (PV.loadBox rfl Tb.agg_27 m9z rfl) rfl ?_))))))))
  refine zm rfl (zm rfl (TL.call rfl Tb.gofn_189 (fun a w hs => canTopple_ok w _ _ _ (hr.new hs.new) _ _ _ (hg.new hs.new) hB _ _ _ (hx.new hs.new) _ hN hn k om) rfl dc (fun _ _ => ?_)))
  refine zn (TC.cd rfl (fun hno => ?_) (fun hno => ?_))
  refine zr (za rfl (zt (TQ.blkR (TQ.thenR (TQ.thenR (TQ.blkR (TQ.thenR (TQ.retE1 rfl rfl ?_))))))))
  exact ⟨(), by rw [calm_no (k := k) (by omega) (by omega)], trivial, nils⟩
  refine TC.skip (TQ.blkN (TQ.thenC (TC.region (zq (PV.add rfl rfl om) rfl (zm rfl (TL.nil (TQ.thenN (TQ.backK (k + 1) l9z l9z s9z ⟨by omega, fun j hj => if e : j < k then hk.2 j e else (show k = j by omega) ▸ om⟩ om))))))))
  refine TC.exit (TQ.thenE (TQ.thenE (TQ.blkS (TQ.thenC (zr (za rfl (zt (TQ.retE1 rfl rfl ?_))))))))
  exact ⟨(), by rw [calm_yes (fun j hj => hk.2 j (by omega))], trivial, nils⟩
theorem calm_ok (w0 : World) (p : Option Addr) (cp : Nat) (ls : List (List Int)) (hr : LsAt w0 p ls) (q : Option Addr) (cq : Nat) (gs : List Int) (hg : IntsAt w0 q gs) (hB : HB ls gs) (pl : Option Addr) (cl : Nat) (xs : List Int) (hx : IntsAt w0 pl xs) (N : Nat) (hN : xs.length = N) (hn : xs.length = gs.length) :
    Calls Tryz.prog 91 #[hv p ls.length cp q gs.length cq, .slice pl N cl] w0 (Post (X := Unit) (fun _ => .bool (calmB ls gs xs)) (fun _ => True) (fun _ => []) w0) := by
  have hn9 := hB.n
  refine calls Tryz.func91 rfl (n := 20) rfl (by simp) ?_
  refine zr (TL.box rfl rfl dc (fun b0 hb0 => ?_))
  refine za rfl (zn (TC.seq (zr (za rfl (zn (TC.block (TC.loopG [1, 2] (X := Nat) (fun k => k ≤ N ∧ ∀ j, j < k → xs.getD j 0 < limI ls gs j) (fun k => [(5, .int .i64 k)]) (fun k => N - k) 0 ⟨Nat.zero_le _, fun j hj => absurd hj (Nat.not_lt_zero _)⟩ l9z ?_)))))))
  intro k hk
  refine TC.seq (zr (zm rfl (zm rfl (zq (PV.len rfl Tb.sl_25) rfl (zq (PV.lss rfl rfl) rfl (zn (TC.cd rfl (fun hlt => ?_) (fun hlt => ?_))))))))
  refine TC.skip (TQ.thenC (TC.seq (TC.block (TC.seq ?_))))
  obtain ⟨q2, hq2p, hq2⟩ := hx k (by omega)
  refine TC.any Tb.mixed rfl rfl ?_
  refine TA.op (OpOK.pure (PV.move rfl) rfl dc) dc ?_
  refine TA.op (OpOK.pure (PV.move rfl) rfl dc) dc ?_
  refine TA.op (OpOK.pure (PV.indexA rfl hq2p rfl Tb.elm_25 rfl om) rfl dc) dc ?_
  refine TA.op (OpOK.pure (PV.loadOld rfl Tb.one_3 hq2) rfl dc) dc ?_
  refine TA.op (OpOK.pure (PV.loadBox rfl Tb.agg_27 m9z rfl) rfl dc) dc ?_
  refine TA.op (OpOK.pure (PV.move rfl) rfl dc) dc ?_
  refine TA.op (OpOK.call rfl Tb.gofn_130 (fun a w hs => rlimit_ok w _ _ _ (hr.new hs.new) _ _ _ (hg.new hs.new) hB k om) rfl dc) dc ?_
  refine TA.op (OpOK.pure (PV.geq rfl rfl) rfl dc) dc ?_
  show TQ _ _ _ _ _
  refine TQ.thenC (TC.cd rfl (fun hno => ?_) (fun hno => ?_))
  refine zr (za rfl (zt (TQ.blkR (TQ.thenR (TQ.thenR (TQ.blkR (TQ.thenR (TQ.retE1 rfl rfl ?_))))))))
  exact ⟨(), by rw [calm_no (k := k) (by omega) (by omega)], trivial, nils⟩
  refine TC.skip (TQ.blkN (TQ.thenC (TC.region (zm rfl (zq (PV.add rfl rfl om) rfl (za rfl (TL.nil (TQ.thenN (TQ.backK (k + 1) l9z l9z s9z ⟨by omega, fun j hj => if e : j < k then hk.2 j e else (show k = j by omega) ▸ om⟩ om)))))))))
  refine TC.exit (TQ.thenE (TQ.thenE (TQ.blkS (TQ.thenC (zr (za rfl (zt (TQ.retE1 rfl rfl ?_))))))))
  exact ⟨(), by rw [calm_yes (fun j hj => hk.2 j (by omega))], trivial, nils⟩
end Go.Proofs.YtbnjmkidbfmomaaGreatDoor.H
namespace Go.Proofs.YtbnjmkidbfmomaaGreatDoor.H
open Go.Sx Go.RowKit Go.Sand
section
variable {P : Program} {n : Nat} {w0 : World} {E : Env} {G : Heap} {ty : TypeId} {pos : String} {aft : Array Edge} {g : Option (Nat × Bool)} {ops : Array Oper} {Q : Exit → Act → World → Prop} {l : List Oper}
end
section
variable {P : Program} {n : Nat} {w0 : World} {E : Env} {G : Heap} {ty : TypeId} {pos : String} {aft : Array Edge} {g : Option (Nat × Bool)} {ops : Array Oper} {Q : Exit → Act → World → Prop} {l : List Oper} {d : Option Nat}
end
theorem mul_bd {t a T c : Int} (ht : -T ≤ t ∧ t ≤ T) (ha : 0 ≤ a ∧ a ≤ c) : -(T * c) ≤ t * a ∧ t * a ≤ T * c := by
  have hT : 0 ≤ T := by omega
  have h1 : T * a ≤ T * c := Int.mul_le_mul_of_nonneg_left ha.2 hT
  have h2 : t * a ≤ T * a := Int.mul_le_mul_of_nonneg_right ht.2 ha.1
  have h3 : -T * a ≤ t * a := Int.mul_le_mul_of_nonneg_right ht.1 ha.1
  have h4 : -T * a = -(T * a) := by grind
  omega
theorem put_all {xs ys : List Int} (h : ys.length = xs.length) : putA (intsA ys) 0 (xs.map (Value.int .i64)) = intsA xs := by
  have h1 := putA_list (xs.map (Value.int .i64)) 0 (ys.map (Value.int .i64)) (by simp; omega)
  refine Array.toList_inj.1 ?_
  show (putA (ys.map (Value.int .i64)).toArray 0 (xs.map (Value.int .i64))).toList = _
  rw [h1]
  unfold intsA
  simp only [List.take_zero, List.nil_append, List.length_map, Nat.zero_add]
  rw [List.drop_of_length_le (by simp; omega), List.append_nil]
def tpN (ls : List (List Int)) (gs : List Int) (xs : List Int) (i : Nat) (t : Int) : List Int := mk xs.length fun j => xs.getD j 0 + t * getM ls i j - (if j = i then t * limI ls gs i else 0)
theorem tp_len (ls : List (List Int)) (gs : List Int) (xs : List Int) (i : Nat) (t : Int) : (tpN ls gs xs i t).length = xs.length := mk_len _ _
end Go.Proofs.YtbnjmkidbfmomaaGreatDoor.H

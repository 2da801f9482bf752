/- Yf Yo -/
import Derived.Test.YtbnjmkidbfmomaaGreatDoorQ06
import Derived.Test.YtbnjmkidbfmomaaGreatDoorQ31
set_option linter.unusedVariables false
set_option linter.unusedSimpArgs false
set_option maxRecDepth 100000
namespace Go.Proofs.YtbnjmkidbfmomaaGreatDoor
open Go.Sx Go.RowKit Go.Bt Go.Lib Go.Sand
theorem rcs_str : ∀ L : List (List UInt8), rcs stR L = L.map str
  | [] => rfl
  | a :: L => by have ih := rcs_str L; show [str a] ++ rcs stR L = _; rw [ih]; rfl
theorem strs_src {P : Program} {t e : TypeId} (ht : P.underlying t = some (.slice e)) {w : World} {p : Option Addr} {L : List (List UInt8)} {c K : Nat} (hK : L.length = K) (h : StrsAt w p L) : Src P 1 t (.slice p K c) K (rcs stR L) w := by
  subst hK
  rw [rcs_str]
  cases p with
  | none =>
    have h0 : L = [] := by
      cases L with
      | nil => rfl
      | cons a l => obtain ⟨q, hq, _⟩ := h 0 (by simp); cases hq
    subst h0
    exact Src.ofNil w ht c
  | some q =>
    refine Src.ofSlice w ht q L.length c (L.map str) (by simp) (fun j u hu => ?_) (fun v hv => by obtain ⟨i, _, rfl⟩ := List.mem_map.1 hv; rfl)
    have hj : j < L.length := by have := (List.getElem?_eq_some_iff.1 hu).1; simpa using this
    obtain ⟨q', hq', hc⟩ := h j hj
    injection hq' with hq'
    subst hq'
    rw [Nat.mul_one] at hc
    rw [hc]
    have : u = str (L.getD j []) := by
      rw [List.getElem?_map, List.getElem?_eq_getElem hj] at hu
      simp only [Option.map_some, Option.some.injEq] at hu
      rw [← hu]; simp [List.getD, hj]
    rw [this]
theorem cutA_0 (p : Option Addr) (cap : Nat) : cutA p cap 0 1 = p := by
  unfold cutA
  split
  · rfl
  · cases p with
    | none => rfl
    | some a => cases a; simp [Addr.add]
theorem strs_now {w0 w : World} {Z : Heap} {p : Option Addr} {L : List (List UInt8)} (hT : ∀ w', New w0 w' Z → StrsAt w' p L) (hN : New w0 w Z) {k : Nat} (hk : k < L.length) : ∃ q, p = some q ∧ ∀ w', New w0 w' Z → w'.cell? (q.add (k * 1)) = some (str (L.getD k [])) := by
  obtain ⟨q, h1, _⟩ := hT w hN k hk
  refine ⟨q, h1, fun w' hn => ?_⟩
  obtain ⟨q', h2, h3⟩ := hT w' hn k hk
  rw [h1] at h2
  obtain rfl := Option.some.inj h2
  exact h3
theorem take_le {L : List (List UInt8)} {k : Nat} (h : ¬ k < L.length) : L.take k = L := List.take_of_length_le (by omega)
theorem few_ok (w0 : World) (p : Option Addr) (c : Nat) (L : List (List UInt8)) (hL : StrsAt w0 p L) (hc : L.length ≤ c) :
    Calls Tryz.prog 36 #[.slice p L.length c] w0 (Post (X := Option Addr × Nat × Heap) (fun y => .slice y.1 (L.take 30).length y.2.1) (fun y => ∀ w1 w9, StrsAt w1 p L → New w1 w9 y.2.2 → StrsAt w9 y.1 (L.take 30)) (fun y => y.2.2) w0) := by
  refine calls Tryz.func36 rfl (n := 11) rfl (by simp) ?_
  refine zr (za rfl (zn (TC.seq (zr (zm rfl (zq (PV.len rfl Tb.sl_43) rfl (zq (PV.gtr rfl rfl) rfl (zn (TC.cd rfl (fun h30 => ?_) (fun h30 => ?_))))))))))
  refine TC.seq ?_
  have hl30 : (L.take 30).length = 30 := by rw [List.length_take]; omega
  refine TC.region (TL.buildSlice0 Tb.sl_43 Tb.zi_9 rfl dc (fun bE hbE => ?_))
  refine zm rfl (zq (PV.sliceH (h := 30) rfl rfl Tb.elm_43 rfl om) rfl (TL.append0 (news := rcs stR (L.take 30)) rfl rfl Tb.sl_43 Tb.zi_9 rfl (Take.head _) (fun w' hN => strs_src Tb.sl_43 hl30 (by rw [cutA_0]; exact (hL.new hN).take 30)) om om rfl dc (fun h1 hh1 => ?_)))
  refine za rfl (zt (TQ.thenR (TQ.retE1 rfl rfl ?_)))
  have hg : goR stR h1 (L.take 30) := by show gok h1 (L.take 30).length 1 _; rw [hl30]; exact hh1
  exact ⟨(gp h1, gc h1, gbR stR 9 h1 (L.take 30)), by rw [← ords_len hg, hl30], fun w1 w9 _ hn => ords_at hn (fun y hy => hy) hg, List.sublist_append_left _ _⟩
  refine TC.skip (TQ.thenC (zr (zm rfl (za rfl (zt (TQ.retE1 rfl rfl ?_))))))
  exact ⟨(p, c, []), by rw [take_le (by omega : ¬ 30 < L.length)], fun w1 w9 h1 hn => by rw [take_le (by omega : ¬ 30 < L.length)]; exact h1.new hn, nils⟩
theorem few_w {w0 w : World} {A B R : Heap} (hN : New w0 w (A ++ (B ++ R))) (p : Option Addr) (c : Nat) (L : List (List UInt8)) (hL : StrsAt w0 p L) (hc : L.length ≤ c) :
    Calls Tryz.prog 36 #[.slice p L.length c] w (Post (X := Option Addr × Nat × Heap) (fun y => .slice y.1 (L.take 30).length y.2.1) (fun y => (∀ w9, New w0 w9 y.2.2 → StrsAt w9 y.1 (L.take 30)) ∧ ∀ k, k < (L.take 30).length → ∃ q, y.1 = some q ∧ ∀ w', New w0 w' y.2.2 → w'.cell? (q.add (k * 1)) = some (str ((L.take 30).getD k []))) (fun y => A ++ (B ++ (y.2.2 ++ R))) w0) :=
  (few_ok w p c L (hL.new hN) hc).mono fun _ w' ⟨y, e1, e2, e3⟩ => ⟨y, e1, ⟨fun w9 hn => e2 w0 w9 hL hn, fun k hk => strs_now (fun w9 hn => e2 w0 w9 hL hn) ((hN.trans e3).sub (List.sublist_append_left _ _)) hk⟩, (hN.trans e3).perm (perm_of fun c9 => by simp only [List.map_append, List.sum_append]; omega)⟩
set_option maxHeartbeats 1000000 in
theorem all_ok {w0 w : World} (hW : WAt w0) {s : St} (hv : SV s) {p0 : CP} (hk0 : CPk w0 s (co0 s) p0) {q0 : RQ} (hq0 : RQk w0 s (co0 s) q0) {b b2 : Nat} {R : Heap} (hN : New w0 w (hp0 s (co0 s) b p0 ++ (Proofs.YtbnjmkidbfmomaaGreatDoor.hq0 s (co0 s) b2 q0 ++ R))) (pl : Option Addr) (cl : Nat) (L : List (List UInt8)) (Rf : Heap) (hRf : List.Sublist Rf R) (hL : ∀ w9, New w0 w9 Rf → StrsAt w9 pl L) (hlo : ∀ j, (L.getD j []).length ≤ 400) (hll : L.length ≤ 300) :
    Calls Tryz.prog 39 #[pt b, pt b2, .slice pl L.length cl] w (Post (X := CP × RQ) (fun _ => .bool true) (fun y => CPk w0 s (stC s L L.length) y.1 ∧ RQk w0 s (stC s L L.length) y.2) (fun y => hp0 s (stC s L L.length) b y.1 ++ (Proofs.YtbnjmkidbfmomaaGreatDoor.hq0 s (stC s L L.length) b2 y.2 ++ R)) w0) := by
  have hNF : New w0 w Rf := hN.sub (hRf.trans ((List.sublist_append_right _ _).trans (List.sublist_append_right _ _)))
  refine callsM hN Tryz.func39 rfl (n := 27) rfl (by simp) ?_
  refine zr (za rfl (zn (TC.seq (zr (za rfl (zn (TC.block (TC.loopK [0, 1, 2] (X := Nat × CP × RQ) (fun x => x.1 ≤ L.length ∧ CPk w0 s (stC s L x.1) x.2.1 ∧ RQk w0 s (stC s L x.1) x.2.2) (fun x => [(7, .int .i64 (x.1 : Nat))]) (fun x => hp0 s (stC s L x.1) b x.2.1 ++ (Proofs.YtbnjmkidbfmomaaGreatDoor.hq0 s (stC s L x.1) b2 x.2.2 ++ R)) (fun x => L.length - x.1) (0, p0, q0) ⟨Nat.zero_le _, hk0, hq0⟩ l9z (List.Sublist.refl _) ?_))))))))
  intro x hx
  have hx1 := hx.1
  refine TC.seq (zr (zm rfl (zm rfl (zq (PV.len rfl Tb.sl_43) rfl (zq (PV.lss rfl rfl) rfl (zn (TC.cd rfl (fun hlt => ?_) (fun hlt => ?_))))))))
  refine TC.skip (TQ.thenC (TC.seq (TC.block (TC.seq ?_))))
  obtain ⟨q9, q9p, q9v⟩ := strs_now hL hNF (k := x.1) (by omega)
  have hix := stC_inv hv L x.1
  have hlo1 := hlo x.1
  refine TC.mixV [true, true, true, true, true, false, true, true, true, true, true, false, true] R 13 Tb.mixed rfl kr kr kr kr s9z ?_
  refine zv 0 rfl kr (PV.move rfl) rfl (zv 1 rfl kr (PV.move rfl) rfl (zv 2 rfl kr (PV.move rfl) rfl (zv 3 rfl kr (PV.indexA rfl q9p rfl Tb.elm_43 rfl om) rfl (zv 4 rfl kr (PV.loadN rfl Tb.one_9 hRf q9v) rfl (zv 6 rfl kr (PV.move rfl) rfl (zv 7 rfl kr (PV.move rfl) rfl (zv 8 rfl kr (PV.move rfl) rfl (zv 9 rfl kr (PV.indexA rfl q9p rfl Tb.elm_43 rfl om) rfl (zv 10 rfl kr (PV.loadN rfl Tb.one_9 hRf q9v) rfl (TV.step [5] kr dc rfl ⟨⟨_, rfl, ?_⟩, trivial⟩))))))))))
  refine TL.callW (X := CP) (fun _ => .int .i64 (doI s (stC s L x.1) (L.getD x.1 []))) (fun p1 => CPk w0 s (doC s (stC s L x.1) (L.getD x.1 [])) p1) (fun p1 => hp0 s (doC s (stC s L x.1) (L.getD x.1 [])) b p1 ++ (Proofs.YtbnjmkidbfmomaaGreatDoor.hq0 s (stC s L x.1) b2 x.2.2 ++ R)) rfl Tb.gofn_18 (fun a w hs => Do_p hW hv hix hx.2.1 hs.new _ om) rfl dc (fun p1 hp1 => ?_)
  refine TL.nil (TV.next (.inl s9z) ?_)
  refine TV.step [11] kr dc rfl ⟨⟨_, rfl, ?_⟩, trivial⟩
  refine TL.callW (X := RQ) (fun _ => .int .i64 (doI s (stC s L x.1) (L.getD x.1 []))) (fun q1 => RQk w0 s (doC s (stC s L x.1) (L.getD x.1 [])) q1) (fun q1 => hp0 s (doC s (stC s L x.1) (L.getD x.1 [])) b p1 ++ (Proofs.YtbnjmkidbfmomaaGreatDoor.hq0 s (doC s (stC s L x.1) (L.getD x.1 [])) b2 q1 ++ R)) rfl Tb.gofn_37 (fun a w hs => Do_q2 hW hv hix hx.2.2 hs.new _) rfl dc (fun q1 hq1 => ?_)
  refine TL.nil (TV.next (.inl s9z) ?_)
  refine zv 12 rfl kr (PV.no (PV.neq rfl rfl) (fun h9 => h9 rfl)) rfl ?_
  refine TV.done kr ?_
  refine TQ.thenC (TC.condF rfl (TC.skip (TQ.blkN (TQ.thenC (TC.region (zm rfl (zq (PV.add rfl rfl om) rfl (za rfl (TL.nil (TQ.thenN (TQ.backK (x.1 + 1, p1, q1) l9z l9z (by rw [stC_succ om]; exact List.Sublist.refl _) ⟨by simp only; omega, by rw [stC_succ om]; exact hp1, by rw [stC_succ om]; exact hq1⟩ (by simp only; omega))))))))))))
  refine TC.exit (TQ.thenE (TQ.thenE (TQ.blkS (TQ.thenC (zr (za rfl (zt (TQ.retE1 rfl rfl ?_))))))))
  have hke : x.1 = L.length := by omega
  rw [hke] at hx
  exact ⟨(x.2.1, x.2.2), rfl, hx.2, by rw [← hke]; exact List.Sublist.refl _⟩
end Go.Proofs.YtbnjmkidbfmomaaGreatDoor
namespace Go.Proofs.YtbnjmkidbfmomaaGreatDoor
open Go.Sx Go.RowKit Go.Bt Go.Lib Go.Sand
theorem Large_s {w : World} {s : St} {f : FV} (hf : FmAt w s f) (hw63 : s.W.length ≤ 9223372036854775807) (hk63 : s.K.length ≤ 9223372036854775807) :
    Calls Tryz.prog 30 #[.agg (fmL s f).toArray] w (Post (X := Unit) (fun _ => .bool s.large) (fun _ => True) (fun _ => []) w) :=
  Large_ok w f.p f.cp s.W hf.lw f.q f.cq s.K hf.lk f.r f.cr s.g s.need hw63 hk63
theorem few_400 {L : List (List UInt8)} (h : longB L = false) : (∀ j, ((L.take 30).getD j []).length ≤ 400) ∧ (L.take 30).length ≤ 30 ∧ L.length ≤ 300 ∧ ∀ j, (L.getD j []).length ≤ 400 := by
  obtain ⟨h1, h2⟩ := long_no (by rw [h]; decide)
  refine ⟨fun j => ?_, by rw [List.length_take]; omega, h1, h2⟩
  by_cases hj : j < 30
  · rw [getD_take hj]; exact h2 j
  · have e : (L.take 30).getD j [] = [] := by rw [List.getD_eq_getElem?_getD, List.getElem?_eq_none (by rw [List.length_take]; omega)]; rfl
    rw [e]; exact Nat.zero_le _
end Go.Proofs.YtbnjmkidbfmomaaGreatDoor

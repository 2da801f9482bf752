/- Yi Yj -/
import Derived.Test.YtbnjmkidbfmomaaGreatDoorV06
import Derived.Test.YtbnjmkidbfmomaaGreatDoorV32
set_option linter.unusedVariables false
set_option linter.unusedSimpArgs false
set_option maxRecDepth 100000
namespace Go.Proofs.YtbnjmkidbfmomaaGreatDoor
open Go.Sx Go.RowKit Go.Bt Go.Lib Go.Sand
theorem rch_v (w : World) {s : St} {c : Co} (hv : SV s) (hi : Inv s c) (p : Option Addr) (cap : Nat) (hr : LsAt w p s.W) (pl : Option Addr) (cl : Nat) (hx : IntsAt w pl c.hol) :
    Calls Tryz.prog 94 #[.agg #[.slice p s.W.length cap], .slice pl c.hol.length cl] w (Post (X := Unit) (fun _ => .int .i64 0) (fun _ => True) (fun _ => []) w) := by
  have h := C.rcheckHollow_ok w p cap s.W hr pl cl c.hol hx
  rw [hol_0 hv hi] at h
  exact h
theorem ch_v (w : World) {s : St} {c : Co} (hv : SV s) (hi : Inv s c) (p : Option Addr) (cap : Nat) (hr : LsAt w p s.W) (pl : Option Addr) (cl : Nat) (hx : IntsAt w pl c.hol) :
    Calls Tryz.prog 55 #[.agg #[.slice p s.W.length cap], .slice pl c.hol.length cl] w (Post (X := Unit) (fun _ => .int .i64 0) (fun _ => True) (fun _ => []) w) := by
  have h := C.checkHollow_ok w p cap s.W hr pl cl c.hol hx
  rw [hol_0 hv hi] at h
  exact h
theorem ic_v {s : St} {c : Co} (hv : SV s) (hi : Inv s c) : H.icB s.K s.g c.tur = true ∧ H.givI s.K s.g [c.tur] = 0 := by
  refine ⟨?_, Decidable.not_not.1 (hi.giv hv)⟩
  rw [H.icB_0 (hi.giv hv)]
  exact H.calm_yes fun k hk => hi.tc k (by rw [← hi.tl]; exact hk)
theorem rcalm_v (w : World) {s : St} {c : Co} (hv : SV s) (hi : Inv s c) (q : Option Addr) (cq : Nat) (hk : LsAt w q s.K) (r : Option Addr) (cr : Nat) (hg : IntsAt w r s.g) (pl : Option Addr) (cl : Nat) (hx : IntsAt w pl c.tur) :
    Calls Tryz.prog 54 #[.agg #[.slice q s.K.length cq, .slice r s.g.length cr], .slice pl c.tur.length cl] w (Post (X := Unit) (fun _ => .tuple #[.bool true, .int .i64 0]) (fun _ => True) (fun _ => []) w) := by
  have h := H.rIsCalm_ok w q cq s.K hk r cr s.g hg hv.kl pl cl c.tur hx (by have := hi.tl' hv; have := hv.n5; omega)
  rw [(ic_v hv hi).1, (ic_v hv hi).2] at h
  exact h
set_option maxHeartbeats 1000000 in
theorem dry_ok {w0 w : World} {s : St} (hv : SV s) {c : Co} (hi : Inv s c) {p : CP} (hk : CPk w0 s c p) {f : FV} (hf : FmAt w0 s f) {b : Nat} {R : Heap} (hN : New w0 w (hp0 s c b p ++ R)) :
    Calls Tryz.prog 56 #[pt b, .agg (fmL s f).toArray] w (Post (X := Unit) (fun _ => .bool true) (fun _ => True) (fun _ => hp0 s c b p ++ R) w0) := by
  have h5 := hv.n5
  have h4 := hv.d4
  have hhl := hi.hl
  have hNB := hi.ho.toNB
  have hwl := hi.wl
  have h63 := wet63 hv hwl
  refine callsM hN Tryz.func56 rfl (n := 50) rfl (by simp) ?_
  refine zr (TL.box rfl rfl dc (fun b0 hb0 => ?_))
  refine za rfl (zn (TC.seq (TC.perm (G' := hp0 s c b p ++ ((b0, Obj.cells (fmL s f).toArray 29 (0, 0)) :: R)) List.perm_middle ?_)))
  refine TC.region (zm rfl (TL.callW (X := HD) (fun h => .slice (gp h) c.hol.length (gc h)) (fun h => goI (h, c.hol)) (fun h => hp0 s c b p ++ (gbI (h, c.hol) ++ ((b0, Obj.cells (fmL s f).toArray 29 (0, 0)) :: R))) rfl Tb.gofn_25 (fun a w hs => calls_swap2 (Hollow_p hv hi hk hs.new)) rfl dc (fun h1 hh1 => ?_)))
  refine zm rfl (TL.callW (X := Unit) (fun _ => .int .i64 (c.wet : Nat)) (fun _ => True) (fun _ => hp0 s c b p ++ (gbI (h1, c.hol) ++ ((b0, Obj.cells (fmL s f).toArray 29 (0, 0)) :: R))) rfl Tb.gofn_20 (fun a w hs => Wet_p hv hs.new) rfl dc (fun _ _ => ?_))
  refine za rfl (za rfl (zn (TC.seq (zr (za rfl (zn (TC.block (TC.loopK [3, 5, 6] (X := Nat) (fun k => k ≤ c.hol.length) (fun k => [(7, .int .i64 (k : Nat))]) (fun k => hp0 s c b p ++ (gbI (h1, c.hol) ++ ((b0, Obj.cells (fmL s f).toArray 29 (0, 0)) :: R))) (fun k => c.hol.length - k) 0 (Nat.zero_le _) l9z (List.Sublist.refl _) ?_))))))))
  intro k hk9
  refine TC.seq (zr (zm rfl (zm rfl (zq (PV.len rfl Tb.sl_25) rfl (zq (PV.lss rfl rfl) rfl (zn (TC.cd rfl (fun hlt => ?_) (fun hlt => ?_))))))))
  refine TC.skip (TQ.thenC (TC.seq (TC.block (TC.seq ?_))))
  have hat := hNB.at_ k
  obtain ⟨q1, q1p, q1v⟩ := goI_now hh1 (k := k) (by omega)
  obtain ⟨m9, hm9⟩ := Int.eq_ofNat_of_zero_le hat.1
  have hvb := hv.vb
  have hrl := hvb.c k (by omega)
  obtain ⟨qw, qwp, pj, cj, qwc, qwi⟩ := hf.lw k (by omega)
  refine TC.region (zm rfl (zm rfl (zq (PV.indexA rfl q1p rfl Tb.elm_25 rfl om) rfl (zq (PV.loadGn (h := h1) (L := c.hol) (k := k) rfl Tb.one_3 r9z q1v) rfl ?_))))
  refine za rfl (zn (TC.block (TC.loopK [3, 5, 6, 7] (X := Nat) (fun r => m9 ≤ r ∧ r ≤ C.dep s.W) (fun r => [(8, .int .i64 (r : Nat))]) (fun r => hp0 s c b p ++ (gbI (h1, c.hol) ++ ((b0, Obj.cells (fmL s f).toArray 29 (0, 0)) :: R))) (fun r => C.dep s.W - r) m9 ⟨Nat.le_refl _, by omega⟩ (by rw [hm9]; exact ⟨rfl, trivial⟩) (List.Sublist.refl _) ?_)))
  intro r hr9
  have hr1 := hr9.1
  have hr2 := hr9.2
  refine TC.seq (zr (zm rfl (zq (PV.fieldAddr rfl Tb.fo_29_0) rfl (zq (PV.fieldAddr rfl Tb.fo_24_0) rfl (zq (PV.load (v := .slice f.p s.W.length f.cp) rfl Tb.one_22 m9z rfl) rfl ?_)))))
  refine zm rfl (zq (PV.indexA rfl qwp rfl Tb.elm_22 rfl om) rfl (zq (PV.loadOld rfl Tb.one_25 qwc) rfl (zq (PV.len rfl Tb.sl_25) rfl (zq (PV.lss rfl rfl) rfl (zn (TC.cd rfl (fun hlt2 => ?_) (fun hlt2 => ?_)))))))
  refine TC.skip (TQ.thenC (TC.seq (TC.block (TC.seq ?_))))
  have hq60 : s.sq (r : Int) (k : Int) ≤ 60 := sq_60 hv (by omega) (by omega)
  have hm0 : 0 ≤ (r : Int) * (c.hol.length : Int) := Int.mul_nonneg (by omega) (by omega)
  have hm1 : (r : Int) * (c.hol.length : Int) ≤ 4 * 5 := Int.mul_le_mul (by omega) (by omega) (by omega) (by omega)
  have hdn := dry_no hv hi (r := r) (k := k) (by omega) (by omega)
  refine TC.region (zm rfl (zm rfl (zm rfl (zq (PV.len rfl Tb.sl_25) rfl (zq (PV.mul rfl rfl om) rfl (zm rfl (zq (PV.add rfl rfl om) rfl (zq (PV.conv (v := ((s.sq (r : Int) (k : Int) : Nat) : Int)) Tb.int_3 Tb.int_55 rfl (by rw [hhl, sq_nat]; exact M.conv_u om)) rfl ?_))))))))
  refine zq (M.PV.shrK rfl rfl om (by show ((s.sq (r : Int) (k : Int) : Nat) : Int) ≤ 64; omega) (M.nat_shr _ _)) rfl ?_
  refine zq (M.PV.andK rfl rfl rfl) rfl (zq (PV.to (PV.eql rfl rfl) ((congrArg Value.bool (M.Has_eq h63)).trans (by rw [hdn]))) rfl ?_)
  refine zn (TC.condF rfl (TC.skip (TQ.blkN (TQ.thenC (TC.region (zm rfl (zq (PV.add rfl rfl om) rfl (za rfl (TL.nil (TQ.thenN (TQ.backK (r + 1) (by exact ⟨rfl, trivial⟩) l9z (List.Sublist.refl _) ⟨by omega, by omega⟩ om)))))))))))
  refine TC.exit (TQ.thenE (TQ.thenE (TQ.blkS (TQ.blkN (TQ.thenC (TC.region (zm rfl (zq (PV.add rfl rfl om) rfl (za rfl (TL.nil (TQ.thenN (TQ.backK (k + 1) l9z l9z (List.Sublist.refl _) om om))))))))))))
  refine TC.exit (TQ.thenE (TQ.thenE (TQ.blkS (TQ.thenC (zr (zq (PV.fieldAddr rfl Tb.fo_29_0) rfl (zq (PV.loadMid (cs := fmL s f) (off := 0) (k := 1) (vs := [.slice f.p s.W.length f.cp]) rfl Tb.agg_24 m9z rfl rfl) rfl ?_)))))))
  refine zm rfl (TL.call rfl Tb.gofn_94 (fun a w hs => rch_v w hv hi f.p f.cp (hf.new hs.new).lw _ _ (IntsAt.g (x := (h1, c.hol)) hs.new r9z hh1)) rfl dc (fun _ _ => ?_))
  refine zq (PV.yes (PV.eql rfl rfl) rfl) rfl (za rfl (zt (TQ.retE1 rfl rfl ?_)))
  exact ⟨(), rfl, trivial, List.Sublist.append_left ((List.sublist_cons_self _ _).trans (List.sublist_append_right _ _)) _⟩
end Go.Proofs.YtbnjmkidbfmomaaGreatDoor
namespace Go.Proofs.YtbnjmkidbfmomaaGreatDoor
open Go.Sx Go.RowKit Go.Bt Go.Lib Go.Sand
section
variable {n : Nat} {w0 : World} {E : Env} {G : Heap} {d : Option Nat} {ty : TypeId} {pos : String} {aft : Array Edge} {g : Option (Nat × Bool)}
end
section
variable {w0 w : World} {R : Heap} {s : St} {f : FV} {t : List UInt8}
abbrev fmA (s : St) (f : FV) : List Value := [.agg #[.slice f.p s.W.length f.cp], .agg #[.slice f.q s.K.length f.cq, .slice f.r s.g.length f.cr], .int .i64 s.need]
theorem rp_new (h : rpE s t = 0) : s.newI = 0 := by
  by_cases he : s.newI = 0
  · exact he
  · exact absurd ((rp_1 he).2.symm.trans h) he
theorem Replay_some (hN : New w0 w R) (hW : WAt w0) (hf : ∀ w9, New w0 w9 R → FmAt w9 s f) (hlg : s.large = false) (ht : t.length ≤ 1000000) (h0 : rpE s t = 0) :
    Calls Tryz.prog 40 (fmA s f ++ [str t]).toArray w (Post (X := Nat × CP) (fun y => .tuple #[pt y.1, .int .i64 ((readL t).1.length : Nat), .int .i64 0]) (fun y => CPk w0 s (stC s (readL t).1 (readL t).1.length) y.2) (fun y => hp0 s (stC s (readL t).1 (readL t).1.length) y.1 y.2 ++ R) w0) := by
  refine (Replay_y w0 w R hN hW s f hf hlg t ht (rp_new h0)).mono fun _ _ ⟨x, e1, e2, e3⟩ => ?_
  cases x with
  | none => exact absurd h0 e2
  | some y => exact ⟨y, e1, e2.2.2, e3⟩
end
end Go.Proofs.YtbnjmkidbfmomaaGreatDoor

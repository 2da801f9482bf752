/- Yc Ya Yb -/
import Derived.Test.YtbnjmkidbfmomaaGreatDoorV06
import Derived.Test.YtbnjmkidbfmomaaGreatDoorV19
import Derived.Test.YtbnjmkidbfmomaaGreatDoorV23
import Derived.Test.YtbnjmkidbfmomaaGreatDoorV24
import Derived.Test.YtbnjmkidbfmomaaGreatDoorV25
import Derived.Test.YtbnjmkidbfmomaaGreatDoorV26
import Derived.Test.YtbnjmkidbfmomaaGreatDoorV28
set_option linter.unusedVariables false
set_option linter.unusedSimpArgs false
set_option maxRecDepth 100000
namespace Go.Proofs.YtbnjmkidbfmomaaGreatDoor
open Go.Sx Go.RowKit Go.Bt Go.Lib Go.Sand
def undoneB (ops : Array Oper) (E : Env) : Option (Nat × Bool) → Bool
  | none => false
  | some (j, _) => match (ops[j]?).bind (·.dst) with
    | none => false
    | some s => match Sx.look s E with
      | some (.tuple _) => true
      | _ => false
section
variable {P : Program} {n : Nat} {w0 : World} {E : Env} {G : Heap} {a : Act} {w : World} {ops : Array Oper} {Q : Exit → Act → World → Prop} {l : List Oper}
theorem S_undone (h : S n w0 E G a w) {o : Oper} (hw : undoneB ops E o.guard = true) : Region.wanted o (yielded ops a.tmps) = false := by
  unfold Region.wanted
  cases hg : o.guard with
  | none => simp [undoneB, hg] at hw
  | some jw =>
    obtain ⟨j, want⟩ := jw
    simp only [undoneB, hg] at hw
    simp only [yielded]
    cases hs : (ops[j]?).bind (·.dst) with
    | none => simp [hs] at hw
    | some s =>
      simp only [hs] at hw
      cases hl : Sx.look s E with
      | none => simp [hl] at hw
      | some v =>
        have := h.env s v hl
        rw [hl] at hw
        cases v <;> first | (simp [this]; done) | simp at hw
theorem TL.skipU {d : Option Nat} {op : Op} {ty : TypeId} {pos : String} {aft : Array Edge} {g : Option (Nat × Bool)}
    (hg : undoneB ops E g = true) (hd : ∀ k, d = some k → k < n) (h : TL P n w0 ops Q l (match d with | some k => (k, undef) :: E | none => E) G) :
    TL P n w0 ops Q (⟨d, op, ty, pos, aft, g⟩ :: l) E G := by
  intro a w hs
  unfold wpList
  have := S_undone hs (o := ⟨d, op, ty, pos, aft, g⟩) hg
  rw [if_neg (by simp [this])]
  cases d with
  | none => exact h _ _ hs
  | some k => exact h _ _ (hs.put (hd k rfl) undef)
theorem SOK.skipU {o : Oper} {GJ : Heap} (hg : undoneB ops E o.guard = true) : SOK P n w0 ops GJ E o undef := by
  intro F' hF a w hs
  have := S_undone (hs.env_le hF) (o := o) hg
  rw [if_neg (by simp [this])]
end
theorem rstep_v (w : World) (s : St) (hv : SV s) (x : Nat) (hx : x < 2 ^ s.md.N) :
    Calls Tryz.prog 115 #[.agg [.int .i64 (C.dep s.W : Nat), .int .i64 (s.W.length : Nat), .int .i64 s.need].toArray, .int .i64 (x : Nat)] w (Post (X := Unit) (fun _ => .tuple #[.int .i64 (Mo.stp s.md x : Nat), .int .i64 0]) (fun _ => True) (fun _ => []) w) := by
  have h := M.rStep_ok w (C.dep s.W : Nat) (s.W.length : Nat) s.need (x : Nat)
  unfold M.zI at h
  rw [gI_s hv hx, if_pos rfl, md_eq, Int.toNat_natCast] at h
  exact h
theorem ropen_v (w : World) {s : St} {c : Co} (hv : SV s) (h : Inv s c) (p : Option Addr) (cap : Nat) (hr : LsAt w p s.W) (pl : Option Addr) (cl : Nat) (hx : IntsAt w pl c.hol) :
    Calls Tryz.prog 118 #[.agg #[.slice p s.W.length cap], .slice pl c.hol.length cl] w (Post (X := HD) (fun h => .tuple #[.slice (gp h) (opL s c).length (gc h), .int .i64 0]) (fun h => goI (h, opL s c)) (fun h => gbI (h, opL s c)) w) := by
  have h1 := C.rOpen_ok w p cap s.W hr pl cl c.hol hx
  rw [opn_l hv h, hol_0 hv h] at h1
  exact h1.mono fun _ _ ⟨y, e1, e2, e3⟩ => ⟨y, by rw [e1]; show Ending.returned (Value.tuple #[gval y (opL s c).length, _]) = _; rw [gvs e2], e2, e3⟩
abbrev wxN (s : St) (c : Co) (k j : Nat) : Nat := c.wet ||| (Mo.stp s.md c.wet &&& bareK s c.hol k j)
theorem wx_lt {s : St} {c : Co} (hwl : c.wet < 2 ^ s.md.N) (k j : Nat) : wxN s c k j < 2 ^ s.md.N := Nat.or_lt_two_pow hwl (Nat.and_lt_two_pow _ (bareK_lt s c.hol k j))
theorem wx_zero (s : St) (c : Co) : wxN s c 0 0 = c.wet := by unfold wxN; rw [bareK_zero, Nat.and_zero, Nat.or_zero]
theorem wx_yes {s : St} {c : Co} {k j : Nat} (hk : k < s.W.length) (hj : j < C.dep s.W) (ht : (Mo.stp s.md c.wet).testBit (s.sq j k) = true) : wxN s c k (j + 1) = wxN s c k j ||| 2 ^ s.sq j k := by
  unfold wxN
  rw [bareK_row hk hj]
  refine Nat.eq_of_testBit_eq fun i => ?_
  simp only [Nat.testBit_or, Nat.testBit_and, Nat.testBit_two_pow]
  by_cases h : s.sq j k = i
  · subst h; simp [ht]
  · simp [h]
theorem wx_no {s : St} {c : Co} {k j : Nat} (hk : k < s.W.length) (hj : j < C.dep s.W) (ht : (Mo.stp s.md c.wet).testBit (s.sq j k) = false) : wxN s c k (j + 1) = wxN s c k j := by
  unfold wxN
  rw [bareK_row hk hj]
  refine Nat.eq_of_testBit_eq fun i => ?_
  simp only [Nat.testBit_or, Nat.testBit_and, Nat.testBit_two_pow]
  by_cases h : s.sq j k = i
  · subst h; simp [ht]
  · simp [h]
theorem wx_end {s : St} {c : Co} (hv : SV s) (hi : Inv s c) : wxN s c s.W.length 0 = Mo.stp s.md c.wet &&& bare s c.hol := by
  unfold wxN
  rw [bareK_end hv]
  refine Nat.eq_of_testBit_eq fun i => ?_
  simp only [Nat.testBit_or, Nat.testBit_and]
  by_cases h : c.wet.testBit i = true
  · have h1 := hi.wb i h
    have h2 : (Mo.stp s.md c.wet).testBit i = true := Mo.sub_stp s.md c.wet i h
    rw [h, h1, h2]; rfl
  · simp [h]
set_option maxHeartbeats 1000000 in
theorem rday_ok (w0 w : World) (s : St) (hv : SV s) (u : SU) (c : Co) (v : RV) (hi : Inv s c) (b : Nat) (ho : HD) (hgt : goI (v.ht, c.tur)) (Z : Heap) (hN : New w0 w (rcB b s u c v ho :: rcH c v :: (gbI (v.ht, c.tur) ++ Z))) :
    Calls Tryz.prog 73 #[.pointer (some ⟨b, 0, none⟩)] w (Post (X := Unit) (fun _ => .tuple #[]) (fun _ => goI (v.ht, (chgC s c ⟨0, []⟩).tur)) (fun _ => rcB b s u (chgC s c ⟨0, []⟩) v ho :: rcH (chgC s c ⟨0, []⟩) v :: (gbI (v.ht, (chgC s c ⟨0, []⟩).tur) ++ Z)) w0) := by
  have hbn := hi.bnd hv
  have h5 := hv.n5
  have h4 := hv.d4
  have hhl := hi.hl
  have htl := hi.tl' hv
  have hbm := hbn.bm
  have hbl := hbn.bl
  have hbg := hbn.bg
  have hbd := hbn.bd
  have hbc := hbn.bc
  have hbt := hbn.bt
  have hbh := hbn.bh
  have hwl := hi.wl
  have h63 := wet63 hv hwl
  refine callsM hN Tryz.func73 rfl (n := 63) rfl (by simp) ?_
  refine zr (zm rfl (zq (PV.nilCheck rfl) rfl (zq (PV.fieldAddr rfl Tb.fo_54_3) rfl (zq (PV.load rfl Tb.one_3 m9z rfl) rfl ?_))))
  refine zq (PV.add (i := c.day) rfl rfl om) rfl (zq (PV.nilCheck rfl) rfl (zq (PV.fieldAddr rfl Tb.fo_54_3) rfl (TL.store rfl rfl Tb.cells_3 rfl u9z d9z rfl rfl ?_)))
  refine zn (TC.seq (TC.sub (G' := rcB b s u { c with day := c.day + 1 } v ho :: rcH c v :: (gbI (v.ht, c.tur) ++ Z)) (List.Sublist.refl _) ?_))
  refine TC.mixV [true, true, true, true, true, true, true, true, false, true, true, true, true, true] [rcB b s u { c with day := c.day + 1 } v ho] 14 Tb.mixed rfl kr kr kr kr s9z ?_
  refine zv 0 rfl kr (PV.move rfl) rfl (zv 1 rfl kr (PV.nilCheck rfl) rfl (zv 2 rfl kr (PV.fieldAddr rfl Tb.fo_54_2) rfl (zv 3 rfl kr (PV.loadMid (cs := rcL s u { c with day := c.day + 1 } v (gval ho c.ords.length)) (vs := [.int .i64 (C.dep s.W : Nat), .int .i64 (s.W.length : Nat), .int .i64 s.need]) rfl Tb.agg_52 m9z rfl rfl) rfl ?_)))
  refine zv 4 rfl kr (PV.move rfl) rfl (zv 5 rfl kr (PV.nilCheck rfl) rfl (zv 6 rfl kr (PV.fieldAddr rfl Tb.fo_54_4) rfl (zv 7 rfl kr (PV.load (v := .int .i64 (c.wet : Nat)) rfl Tb.one_3 m9z rfl) rfl ?_)))
  refine TV.step [8] kr dc rfl ⟨⟨_, rfl, ?_⟩, trivial⟩
  refine TL.call rfl Tb.gofn_115 (fun a w hs => rstep_v w s hv c.wet hwl) rfl dc (fun _ _ => ?_)
  refine TL.nil (TV.next (.inl s9z) ?_)
  refine zv 9 rfl kr (PV.move rfl) rfl (zv 10 rfl kr (PV.extract rfl rfl) rfl (zv 11 rfl kr (PV.extract rfl rfl) rfl (zv 12 rfl kr (PV.assign rfl) rfl (zv 13 rfl kr (PV.assign rfl) rfl (TV.done kr ?_)))))
  refine TQ.thenC (zr (za rfl (zn (TC.block (TC.lit [(0, _), (2, _), (4, _)] l9z ?_)))))
  refine TC.loopK [0, 2] (X := Nat) (fun k => k ≤ c.hol.length) (fun k => [(4, .int .i64 (k : Nat))]) (fun k => rcB b s u { c with day := c.day + 1, wet := wxN s c k 0 } v ho :: rcH c v :: (gbI (v.ht, c.tur) ++ Z)) (fun k => c.hol.length - k) 0 (Nat.zero_le _) l9z (by rw [wx_zero]; exact List.Sublist.refl _) ?_
  intro k hk
  refine TC.lit [(0, _), (2, _), (4, _)] l9z ?_
  refine TC.seq (zr (zm rfl (zm rfl (zq (PV.nilCheck rfl) rfl (zq (PV.fieldAddr rfl Tb.fo_54_9) rfl (zq (PV.load (v := .slice (some ⟨v.bh, 0, none⟩) c.hol.length c.hol.length) rfl Tb.one_25 m9z rfl) rfl ?_))))))
  refine zq (PV.len rfl Tb.sl_25) rfl (zq (PV.lss rfl rfl) rfl (zn (TC.cd rfl (fun hlt => ?_) (fun hlt => ?_))))
  refine TC.skip (TQ.thenC (TC.seq (TC.block (TC.seq ?_))))
  have hka := hi.ho.toNB.at_ k
  obtain ⟨m9, hm9⟩ := Int.eq_ofNat_of_zero_le hka.1
  refine TC.region (za rfl (zn (TC.block (TC.lit [(0, _), (2, _), (4, _), (5, _)] l9z ?_))))
  refine TC.loopK [0, 2, 4] (X := Nat) (fun j => (j : Int) ≤ c.hol.getD k 0) (fun j => [(5, .int .i64 (j : Nat))]) (fun j => rcB b s u { c with day := c.day + 1, wet := wxN s c k j } v ho :: rcH c v :: (gbI (v.ht, c.tur) ++ Z)) (fun j => m9 - j) 0 om l9z (List.Sublist.refl _) ?_
  intro j hj
  refine TC.lit [(0, _), (2, _), (4, _), (5, _)] l9z ?_
  refine TC.seq (zr (zm rfl (zm rfl (zq (PV.nilCheck rfl) rfl (zq (PV.fieldAddr rfl Tb.fo_54_9) rfl (zq (PV.load (v := .slice (some ⟨v.bh, 0, none⟩) c.hol.length c.hol.length) rfl Tb.one_25 m9z rfl) rfl ?_))))))
  refine zm rfl (zq (PV.index1 (j := k) rfl rfl Tb.elm_25 rfl om) rfl (zq (C.PV.loadIv (xs := c.hol) (j := k) (v := c.hol.getD k 0) rfl Tb.one_3 m9z om rfl) rfl ?_))
  refine zq (PV.lss rfl rfl) rfl (zn (TC.cd rfl (fun hlt2 => ?_) (fun hlt2 => ?_)))
  refine TC.skip (TQ.thenC (TC.seq (TC.block (TC.seq ?_))))
  have hq60 : s.sq (j : Int) (k : Int) ≤ 60 := sq_60 hv (by omega) (by omega)
  have hB := wet63 hv (wx_lt hwl k j)
  refine TC.region (zm rfl (zm rfl (zm rfl (TL.call rfl Tb.gofn_116 (fun a w hs => rsq_v w s hv b (j : Int) (k : Int) (hs.new.cell m9z rfl) om om) rfl dc (fun _ _ => ?_)))))
  refine za rfl (zk (zm rfl (zm rfl (TL.call rfl Tb.gofn_117 (fun a w hs => M.rHas_ok w (Mo.stp s.md c.wet) (s.sq (j : Int) (k : Int)) (wet63 hv (Mo.stp_lt hwl)) hq60) rfl dc (fun _ _ => ?_)))))
  refine zn (TC.cd rfl (fun ht => ?_) (fun ht => ?_))
  have hx := wx_yes (s := s) (c := c) (k := k) (j := j) (by omega) (by omega) ht
  refine TC.region (zm rfl (zq (PV.nilCheck rfl) rfl (zq (PV.fieldAddr rfl Tb.fo_54_4) rfl (zq (PV.load (v := .int .i64 (wxN s c k j : Nat)) rfl Tb.one_3 m9z rfl) rfl ?_))))
  refine zm rfl (zq (PV.conv (v := ((s.sq (j : Int) (k : Int) : Nat) : Int)) Tb.int_3 Tb.int_55 rfl (M.conv_u om)) rfl ?_)
  refine zq (M.PV.shlK rfl rfl om om (M.shl_nat hq60)) rfl (zq (M.PV.orK rfl rfl (M.or_nat hB (M.p63 om))) rfl (zq (PV.nilCheck rfl) rfl (zq (PV.fieldAddr rfl Tb.fo_54_4) rfl (TL.store rfl rfl Tb.cells_3 rfl u9z d9z rfl rfl ?_))))
  refine TL.nil (TQ.blkN (TQ.thenC (TC.region (zm rfl (zq (PV.add rfl rfl om) rfl (za rfl (TL.nil (TQ.thenN (TQ.backK (j + 1) l9z l9z (by rw [hx]; exact List.Sublist.refl _) om om)))))))))
  have hx := wx_no (s := s) (c := c) (k := k) (j := j) (by omega) (by omega) ht
  refine TC.skip (TQ.blkN (TQ.thenC (TC.region (zm rfl (zq (PV.add rfl rfl om) rfl (za rfl (TL.nil (TQ.thenN (TQ.backK (j + 1) l9z l9z (by rw [hx]; exact List.Sublist.refl _) om om)))))))))
  refine TC.exit (TQ.thenE (TQ.thenE (TQ.blkS (TQ.blkN (TQ.thenC ?_)))))
  have hcl := bareK_col (s := s) (hol := c.hol) (k := k) (j := j) (by omega)
  refine TC.region (zm rfl (zq (PV.add rfl rfl om) rfl (za rfl (TL.nil (TQ.thenN (TQ.backK (k + 1) l9z l9z (by unfold wxN; rw [← hcl]; exact List.Sublist.refl _) om om))))))
  refine TC.exit (TQ.thenE (TQ.thenE (TQ.blkS (TQ.retN rfl (Res.nil) ?_))))
  have hke : k = s.W.length := by omega
  subst hke
  exact ⟨(), rfl, by rw [day_c]; exact hgt, by rw [day_c, ← wx_end hv hi]; exact List.Sublist.refl _⟩
set_option maxHeartbeats 2000000 in
theorem rcut_ok (w0 w : World) (s : St) (hv : SV s) (u : SU) (c : Co) (v : RV) (hi : Inv s c) (b : Nat) (ho : HD) (hgt : goI (v.ht, c.tur)) (Z : Heap) (hN : New w0 w (rcB b s u c v ho :: rcH c v :: (gbI (v.ht, c.tur) ++ Z))) (Zf : Heap) (hZf : List.Sublist Zf Z) (hS : ∀ w9, New w0 w9 Zf → SiteAt w9 s u) (a : Int) (ha : 0 ≤ a ∧ a ≤ 999) :
    Calls Tryz.prog 74 #[.pointer (some ⟨b, 0, none⟩), .int .i64 a] w (Post (X := HD) (fun _ => .int .i64 (actI s c ⟨1, [a]⟩)) (fun h => goI (h, (chgC s c ⟨1, [a]⟩).tur)) (fun h => rcB b s u (chgC s c ⟨1, [a]⟩) { v with ht := h } ho :: rcH (chgC s c ⟨1, [a]⟩) { v with ht := h } :: (gbI (h, (chgC s c ⟨1, [a]⟩).tur) ++ Z)) w0) := by
  have hbn := hi.bnd hv
  have h5 := hv.n5
  have h4 := hv.d4
  have hhl := hi.hl
  have htl := hi.tl' hv
  have hbm := hbn.bm
  have hbl := hbn.bl
  have hbg := hbn.bg
  have hbd := hbn.bd
  have hbc := hbn.bc
  have hbt := hbn.bt
  have hbh := hbn.bh
  have hwl := hi.wl
  have h63 := wet63 hv hwl
  have hNZ : New w0 w Z := hN.sub s9z
  have hNF := hNZ.sub hZf
  refine callsM hN Tryz.func74 rfl (n := 134) rfl (by simp) ?_
  refine zr (za rfl (zn (TC.seq (zr (zm rfl (zm rfl (zq (PV.nilCheck rfl) rfl (zq (PV.fieldAddr rfl Tb.fo_54_9) rfl (zq (PV.load (v := .slice (some ⟨v.bh, 0, none⟩) c.hol.length c.hol.length) rfl Tb.one_25 m9z rfl) rfl ?_)))))))))
  refine zq (PV.len rfl Tb.sl_25) rfl (zq (PV.geq rfl rfl) rfl (zn (TC.cd rfl (fun g1 => ?_) (fun g1 => ?_))))
  refine zr (za rfl (zt (TQ.thenR (TQ.retE1 rfl rfl ?_))))
  have hE : actI s c ⟨1, [a]⟩ = 4 := by rw [cut_e, if_pos (by omega)]
  have hC := chg_no (s := s) (c := c) (o := ⟨1, [a]⟩) (by rw [hE]; decide)
  exact ⟨v.ht, by rw [hE], by rw [hC]; exact hgt, by rw [hC]; exact s9z⟩
  refine TC.skip (TQ.thenC (TC.seq (zr (zm rfl (zq (PV.nilCheck rfl) rfl (zq (PV.fieldAddr rfl Tb.fo_54_11) rfl (zq (PV.load rfl Tb.one_4 m9z rfl) rfl ?_)))))))
  refine zn (TC.cd rfl (fun g2 => ?_) (fun g2 => ?_))
  refine zr (za rfl (zt (TQ.thenR (TQ.retE1 rfl rfl ?_))))
  have hE : actI s c ⟨1, [a]⟩ = 8 := by rw [cut_e, if_neg (by omega), if_pos g2]
  have hC := chg_no (s := s) (c := c) (o := ⟨1, [a]⟩) (by rw [hE]; decide)
  exact ⟨v.ht, by rw [hE], by rw [hC]; exact hgt, by rw [hC]; exact s9z⟩
  refine TC.skip (TQ.thenC (TC.seq ?_))
  obtain ⟨k, rfl⟩ := Int.eq_ofNat_of_zero_le ha.1
  have hkW : k < s.W.length := by omega
  have hat := hi.ho.toNB.at_ k
  refine TC.mixV [true, true, true, true, true, true, true, true, false, true, true, true, true, true] [rcB b s u c v ho] 14 Tb.mixed rfl kr kr kr kr s9z ?_
  refine zv 0 rfl kr (PV.move rfl) rfl (zv 1 rfl kr (PV.nilCheck rfl) rfl (zv 2 rfl kr (PV.fieldAddr rfl Tb.fo_54_0) rfl (zv 3 rfl kr (PV.loadMid (cs := rcL s u c v (gval ho c.ords.length)) (vs := [.slice u.pw s.W.length u.cw]) rfl Tb.agg_24 m9z rfl rfl) rfl ?_)))
  refine zv 4 rfl kr (PV.move rfl) rfl (zv 5 rfl kr (PV.nilCheck rfl) rfl (zv 6 rfl kr (PV.fieldAddr rfl Tb.fo_54_9) rfl (zv 7 rfl kr (PV.load (v := .slice (some ⟨v.bh, 0, none⟩) c.hol.length c.hol.length) rfl Tb.one_25 m9z rfl) rfl ?_)))
  refine TV.step [8] kr dc rfl ⟨⟨_, rfl, ?_⟩, trivial⟩
  refine TL.call rfl Tb.gofn_118 (fun a w hs => ropen_v w hv hi _ _ (hS w (hs.new.sub (hZf.trans s9z))).ls _ _ (IntsAt.arr hs.new m9z)) rfl dc (fun h5o hh5 => ?_)
  refine TL.nil (TV.next (.inl s9z) ?_)
  refine zv 9 rfl kr (PV.move rfl) rfl (zv 10 rfl kr (PV.extract rfl rfl) rfl (zv 11 rfl kr (PV.extract rfl rfl) rfl (zv 12 rfl kr (PV.assign rfl) rfl (zv 13 rfl kr (PV.assign rfl) rfl (TV.done kr ?_)))))
  refine TQ.thenC (zr (zm rfl (zq (PV.nilCheck rfl) rfl (zq (PV.fieldAddr rfl Tb.fo_54_9) rfl (zq (PV.load (v := .slice (some ⟨v.bh, 0, none⟩) c.hol.length c.hol.length) rfl Tb.one_25 m9z rfl) rfl ?_)))))
  refine zm rfl (zq (PV.index1 (j := k) rfl rfl Tb.elm_25 rfl om) rfl (zq (C.PV.loadIv (xs := c.hol) (j := k) (v := c.hol.getD k 0) rfl Tb.one_3 m9z om rfl) rfl ?_))
  refine za rfl (zn (TC.seqK [0, 1, 4, 7] (X := Unit) (fun x => actI s c ⟨1, [(k : Int)]⟩ = 0) (fun x => []) (fun x => rcB b s u c v ho :: rcH c v :: (gbI (v.ht, c.tur) ++ Z)) ?_ ?_))
  refine TC.seq ?_
  have hmem := pad_hol (s := s) (c := c) hkW
  refine TC.mixV [true, true, false, true, true, true, true, true, true, true, true, true, true, true, true, true, false, false, true, true] [rcB b s u c v ho] 20 Tb.mixed rfl kr kr kr kr s9z ?_
  refine zv 0 rfl kr (PV.move rfl) rfl (zv 1 rfl kr (PV.move rfl) rfl (TV.step [2] kr dc rfl ⟨⟨_, rfl, ?_⟩, trivial⟩))
  refine TL.call rfl Tb.gofn_119 (fun a w hs => C.has_ok w _ _ (opL s c) (IntsAt.g hs.new r9z hh5) (by have := C.op_len s.W (C.pad6 c.hol) s.W.length; show (C.opN s.W (C.pad6 c.hol) s.W.length).length ≤ _; omega) (k : Int)) rfl dc (fun _ _ => ?_)
  refine TL.nil (TV.next (.inl s9z) ?_)
  refine TV.v 3 rfl rfl rfl rfl (by kernel_rfl) ((by first | exact PV.notD rfl | exact PV.not rfl)) rfl ?_
  refine zv 4 rfl kr (PV.move rfl) rfl ?_
  first | refine TV.splitD 46 rfl (fun g3 => ?_) (fun g3 => ?_) | refine TV.split 46 rfl (fun g3 => ?_) (fun g3 => ?_)
  refine TV.virt 5 rfl rfl dc rfl kr (SOK.skip rfl) ?_
  refine TV.virt 6 rfl rfl dc rfl kr (SOK.skip rfl) ?_
  refine TV.virt 7 rfl rfl dc rfl kr (SOK.skip rfl) ?_
  refine TV.virt 8 rfl rfl dc rfl kr (SOK.skipU rfl) ?_
  refine TV.virt 9 rfl rfl dc rfl kr (SOK.skipU rfl) ?_
  refine TV.virt 10 rfl rfl dc rfl kr (SOK.skipU rfl) ?_
  refine TV.virt 11 rfl rfl dc rfl kr (SOK.skipU rfl) ?_
  refine TV.virt 12 rfl rfl dc rfl kr (SOK.skipU rfl) ?_
  refine TV.virt 13 rfl rfl dc rfl kr (SOK.skipU rfl) ?_
  refine TV.virt 14 rfl rfl dc rfl kr (SOK.skipU rfl) ?_
  refine TV.virt 15 rfl rfl dc rfl kr (SOK.skipU rfl) ?_
  refine TV.step [16] kr dc rfl ⟨⟨_, rfl, ?_⟩, trivial⟩
  refine TL.skipU rfl (fun k hk => by cases hk; decide) ?_
  refine TL.nil (TV.next (.inl s9z) ?_)
  refine TV.step [17] kr dc rfl ⟨⟨_, rfl, ?_⟩, trivial⟩
  refine TL.skipU rfl (fun k hk => by cases hk; decide) ?_
  refine TL.nil (TV.next (.inl s9z) ?_)
  refine TV.virt 18 rfl rfl dc rfl kr (SOK.skip rfl) ?_
  refine zv 19 rfl kr (PV.pickT rfl rfl) rfl (TV.done kr ?_)
  refine TQ.thenC (TC.condT rfl (zr (za rfl (zt (TQ.thenR (TQ.retE1 rfl rfl ?_))))))
  have hE : actI s c ⟨1, [(k : Int)]⟩ = 6 := by rw [cut_e, if_neg (by omega), if_neg (by rw [g2]; decide), Int.toNat_natCast, if_pos (.inl (by cases h9 : C.opB s.W (C.pad6 c.hol) k with | false => rfl | true => exact absurd (hmem.2 h9) g3))]
  have hC := chg_no (s := s) (c := c) (o := ⟨1, [(k : Int)]⟩) (by rw [hE]; decide)
  exact ⟨v.ht, by rw [hE], by rw [hC]; exact hgt, by rw [hC]; exact s9z⟩
  refine zv 5 rfl kr (PV.move rfl) rfl (zv 6 rfl kr (PV.gtr rfl rfl) rfl (zv 7 rfl kr (PV.move rfl) rfl ?_))
  first | refine TV.splitD 49 rfl (fun g4 => ?_) (fun g4 => ?_) | refine TV.split 49 rfl (fun g4 => ?_) (fun g4 => ?_)
  refine zv 8 rfl kr (PV.move rfl) rfl (zv 9 rfl kr (PV.nilCheck rfl) rfl (zv 10 rfl kr (PV.fieldAddr rfl Tb.fo_54_4) rfl (zv 11 rfl kr (PV.load (v := .int .i64 (c.wet : Nat)) rfl Tb.one_3 m9z rfl) rfl ?_)))
  refine zv 12 rfl kr (PV.move rfl) rfl (zv 13 rfl kr (PV.move rfl) rfl (zv 14 rfl kr (PV.sub rfl rfl om) rfl (zv 15 rfl kr (PV.move rfl) rfl (TV.step [16] kr dc rfl ⟨⟨_, rfl, ?_⟩, trivial⟩))))
  refine TL.call rfl Tb.gofn_116 (fun a w hs => rsq_v w s hv b (c.hol.getD k 0 - 1) (k : Int) (hs.new.cell m9z rfl) om om) rfl dc (fun _ _ => ?_)
  refine TL.nil (TV.next (.inl s9z) ?_)
  refine TV.step [17] kr dc rfl ⟨⟨_, rfl, ?_⟩, trivial⟩
  refine TL.call rfl Tb.gofn_117 (fun a w hs => M.rHas_ok w c.wet (s.sq (c.hol.getD k 0 - 1) (k : Int)) h63 (sq_60 hv om om)) rfl dc (fun _ _ => ?_)
  refine TL.nil (TV.next (.inl s9z) ?_)
  refine zv 18 rfl kr (PV.pickT rfl rfl) rfl (zv 19 rfl kr (PV.pickF rfl rfl) rfl (TV.done kr ?_))
  refine TQ.thenC (TC.cd rfl (fun g5 => ?_) (fun g5 => ?_))
  refine zr (za rfl (zt (TQ.thenR (TQ.retE1 rfl rfl ?_))))
  have hE : actI s c ⟨1, [(k : Int)]⟩ = 6 := by rw [cut_e, if_neg (by omega), if_neg (by rw [g2]; decide), Int.toNat_natCast, if_pos (.inr ⟨g4, g5⟩)]
  have hC := chg_no (s := s) (c := c) (o := ⟨1, [(k : Int)]⟩) (by rw [hE]; decide)
  exact ⟨v.ht, by rw [hE], by rw [hC]; exact hgt, by rw [hC]; exact s9z⟩
  refine TC.skip (TQ.thenN (TQ.midK () l9z l9z (List.sublist_append_right _ _) (by rw [cut_e, if_neg (by omega), if_neg (by rw [g2]; decide), Int.toNat_natCast]; refine if_neg ?_; rintro (h | h); (rw [hmem.1 (Decidable.not_not.1 g3)] at h; cases h); (first | (rw [g5] at h; exact absurd h.2 (by decide)) | exact absurd h.1 g4))))
  refine TV.virt 8 rfl rfl dc rfl kr (SOK.skip rfl) ?_
  refine TV.virt 9 rfl rfl dc rfl kr (SOK.skip rfl) ?_
  refine TV.virt 10 rfl rfl dc rfl kr (SOK.skip rfl) ?_
  refine TV.virt 11 rfl rfl dc rfl kr (SOK.skip rfl) ?_
  refine TV.virt 12 rfl rfl dc rfl kr (SOK.skip rfl) ?_
  refine TV.virt 13 rfl rfl dc rfl kr (SOK.skip rfl) ?_
  refine TV.virt 14 rfl rfl dc rfl kr (SOK.skip rfl) ?_
  refine TV.virt 15 rfl rfl dc rfl kr (SOK.skip rfl) ?_
  refine TV.step [16] kr dc rfl ⟨⟨_, rfl, ?_⟩, trivial⟩
  refine zx rfl (TL.nil (TV.next (.inl s9z) ?_))
  refine TV.step [17] kr dc rfl ⟨⟨_, rfl, ?_⟩, trivial⟩
  refine zx rfl (TL.nil (TV.next (.inl s9z) ?_))
  refine zv 18 rfl kr (PV.pickF rfl rfl) rfl (zv 19 rfl kr (PV.pickF rfl rfl) rfl (TV.done kr ?_))
  refine TQ.thenC (TC.condF rfl (TC.skip (TQ.thenN (TQ.midK () l9z l9z (List.sublist_append_right _ _) (by rw [cut_e, if_neg (by omega), if_neg (by rw [g2]; decide), Int.toNat_natCast]; refine if_neg ?_; rintro (h | h); (rw [hmem.1 (Decidable.not_not.1 g3)] at h; cases h); (first | (rw [g5] at h; exact absurd h.2 (by decide)) | exact absurd h.1 g4))))))
  intro x hE
  refine zr (zm rfl (zq (PV.nilCheck rfl) rfl (zq (PV.fieldAddr rfl Tb.fo_54_10) rfl (zq (PV.load (v := .slice (gp v.ht) c.tur.length (gc v.ht)) rfl Tb.one_25 m9z rfl) rfl ?_))))
  refine TL.call rfl Tb.gofn_120 (fun a w hs => total_ok w _ _ c.tur (IntsAt.g (x := (v.ht, c.tur)) hs.new r9z hgt) om (fun j => by have := hi.tb hv j; omega)) rfl dc (fun _ _ => ?_)
  refine za rfl (zn (TC.seq (TC.mixV [true, true, true, true, true, true, true, true, true, false, true, true, true, true, true, true, true] [rcB b s u c v ho] 17 Tb.mixed rfl kr kr kr kr s9z ?_)))
  refine zv 0 rfl kr (PV.move rfl) rfl (zv 1 rfl kr (PV.nilCheck rfl) rfl (zv 2 rfl kr (PV.fieldAddr rfl Tb.fo_54_1) rfl (zv 3 rfl kr (PV.loadMid (cs := rcL s u c v (gval ho c.ords.length)) (vs := [.slice u.pk s.K.length u.ck, .slice u.pg s.g.length u.cg]) rfl Tb.agg_27 m9z rfl rfl) rfl ?_)))
  refine zv 4 rfl kr (PV.move rfl) rfl (zv 5 rfl kr (PV.nilCheck rfl) rfl (zv 6 rfl kr (PV.fieldAddr rfl Tb.fo_54_10) rfl (zv 7 rfl kr (PV.load (v := .slice (gp v.ht) c.tur.length (gc v.ht)) rfl Tb.one_25 m9z rfl) rfl ?_)))
  refine zv 8 rfl kr (PV.move rfl) rfl (TV.step [9] kr dc rfl ⟨⟨_, rfl, ?_⟩, trivial⟩)
  refine TL.call rfl Tb.gofn_121 (fun a w hs => rdrop_v w hv hi _ _ (hS w (hs.new.sub (hZf.trans s9z))).ak _ _ (hS w (hs.new.sub (hZf.trans s9z))).ag _ _ (IntsAt.g (x := (v.ht, c.tur)) hs.new r9z hgt) k hkW) rfl dc (fun y hy => ?_)
  refine TL.nil (TV.next (.inl s9z) ?_)
  refine zv 10 rfl kr (PV.move rfl) rfl (zv 11 rfl kr (PV.extract rfl rfl) rfl (zv 12 rfl kr (PV.extract rfl rfl) rfl (zv 13 rfl kr (PV.extract rfl rfl) rfl (zv 14 rfl kr (PV.assign rfl) rfl (zv 15 rfl kr (PV.assign rfl) rfl (zv 16 rfl kr (PV.assign rfl) rfl (TV.done kr ?_)))))))
  refine TQ.thenC (TC.seq (TC.seq ?_))
  have hdr := dr_facts hv hi hkW
  have hs1 := sL_5 hdr.len hv.hb.n.2 (hdr.bd hv)
  refine TC.region (zm rfl (zq (PV.no (PV.neq rfl rfl) (fun h9 => h9 rfl)) rfl ?_))
  refine zn (TC.condF rfl (TC.skip (TQ.thenC (TC.seq (TC.sub (G' := gbI (y.1, drT s.K s.g c.tur (k : Int)) ++ (rcB b s u c v ho :: rcH c v :: (gbI (v.ht, c.tur) ++ Z))) (List.Sublist.refl _) ?_)))))
  refine TC.region (zm rfl (zq (PV.nilCheck rfl) rfl (zq (PV.fieldAddr rfl Tb.fo_54_9) rfl (zq (PV.load (v := .slice (some ⟨v.bh, 0, none⟩) c.hol.length c.hol.length) rfl Tb.one_25 m9z rfl) rfl ?_))))
  refine zm rfl (zq (PV.index1 (j := k) rfl rfl Tb.elm_25 rfl om) rfl (zq (C.PV.loadIv (xs := c.hol) (j := k) (v := c.hol.getD k 0) rfl Tb.one_3 m9z om rfl) rfl ?_))
  refine zq (PV.add rfl rfl om) rfl (zq (PV.index1 (j := k) rfl rfl Tb.elm_25 rfl om) rfl (TL.storeIv (j := k) (xs' := c.hol.set k (c.hol.getD k 0 + 1)) rfl rfl Tb.cells_3 rfl u9z om rfl rfl ?_))
  refine zn (TC.seq (TC.sub (G' := gbI (y.1, drT s.K s.g c.tur (k : Int)) ++ (rcB b s u { c with hol := c.hol.set k (c.hol.getD k 0 + 1) } v ho :: rcH { c with hol := c.hol.set k (c.hol.getD k 0 + 1) } v :: (gbI (v.ht, c.tur) ++ Z))) (by simp only [rcB, rcL, rcH, List.length_set]; exact List.Sublist.refl _) ?_))
  obtain ⟨q5, q5p, q5v⟩ := rows_now hS hNF hkW
  obtain ⟨r9, hr9⟩ := Int.eq_ofNat_of_zero_le hat.1
  have htn : (c.hol.getD k 0).toNat = r9 := by omega
  have holt := op_lt hi (cut_0 hE)
  have hvb := hv.vb
  have hrl := hvb.c k hkW
  have hrw := hvb.w k r9
  obtain ⟨q6, q6p, q6v⟩ := ints_now (row_now hS hkW) hNF (k := r9) (by omega)
  refine TC.region (zm rfl (zq (PV.nilCheck rfl) rfl (zq (PV.fieldAddr rfl Tb.fo_54_6) rfl (zq (PV.load rfl Tb.one_3 m9z rfl) rfl ?_))))
  refine zq (PV.add (i := c.cut) rfl rfl om) rfl (zq (PV.nilCheck rfl) rfl (zq (PV.fieldAddr rfl Tb.fo_54_6) rfl (TL.store rfl rfl Tb.cells_3 rfl u9z d9z rfl rfl ?_)))
  refine zn (TC.seqK [0, 4, 8, 9] (X := Unit) (fun x => True) (fun x => []) (fun x => gbI (y.1, drT s.K s.g c.tur (k : Int)) ++ (rcB b s u { c with hol := c.hol.set k (c.hol.getD k 0 + 1), cut := c.cut + 1, money := c.money + (s.W.getD k []).getD r9 0 } v ho :: rcH { c with hol := c.hol.set k (c.hol.getD k 0 + 1), cut := c.cut + 1, money := c.money + (s.W.getD k []).getD r9 0 } v :: (gbI (v.ht, c.tur) ++ Z))) ?_ ?_)
  refine TC.sub (G' := gbI (y.1, drT s.K s.g c.tur (k : Int)) ++ (rcB b s u { c with hol := c.hol.set k (c.hol.getD k 0 + 1), cut := c.cut + 1 } v ho :: rcH { c with hol := c.hol.set k (c.hol.getD k 0 + 1), cut := c.cut + 1 } v :: (gbI (v.ht, c.tur) ++ Z))) (List.Sublist.refl _) ?_
  refine TC.mixV [true, true, true, false, true, true, true, true, false, true, true, true, true, true, true, true, true, true, false] Z 19 Tb.mixed rfl kr kr kr kr s9z ?_
  refine zv 0 rfl kr (PV.move rfl) rfl (zv 1 rfl kr (PV.nilCheck rfl) rfl (zv 2 rfl kr (PV.fieldAddr rfl Tb.fo_54_5) rfl (zv 4 rfl kr (PV.move rfl) rfl (zv 5 rfl kr (PV.nilCheck rfl) rfl (zv 6 rfl kr (PV.fieldAddr rfl Tb.fo_54_0) rfl (zv 7 rfl kr (PV.fieldAddr rfl Tb.fo_24_0) rfl (zv 9 rfl kr (PV.move rfl) rfl (zv 12 rfl kr (PV.move rfl) rfl (TV.step [3, 8] kr dc rfl ⟨⟨_, rfl, ?_⟩, ⟨_, rfl, ?_⟩, trivial⟩)))))))))
  refine zq (PV.load rfl Tb.one_3 m9z rfl) rfl ?_
  refine TL.nil (TV.next (.inl s9z) ?_)
  refine TV.step [8] kr dc rfl ⟨⟨_, rfl, ?_⟩, trivial⟩
  refine zq (PV.load (v := .slice u.pw s.W.length u.cw) rfl Tb.one_22 m9z rfl) rfl ?_
  refine TL.nil (TV.next (.inl s9z) ?_)
  refine zv 10 rfl kr (PV.indexA rfl q5p rfl Tb.elm_22 rfl om) rfl (zv 11 rfl kr (PV.loadN rfl Tb.one_25 hZf q5v) rfl (zv 13 rfl kr (PV.indexA (j := r9) rfl q6p rfl Tb.elm_25 hr9 om) rfl (zv 14 rfl kr (PV.loadN rfl Tb.one_3 hZf q6v) rfl (zv 15 rfl kr (PV.add (i := c.money) rfl rfl om) rfl (zv 16 rfl kr (PV.nilCheck rfl) rfl (zv 17 rfl kr (PV.fieldAddr rfl Tb.fo_54_5) rfl (TV.step [18] kr dc rfl ⟨⟨_, rfl, ?_⟩, trivial⟩)))))))
  refine TL.store rfl rfl Tb.cells_3 rfl u9z d9z rfl rfl ?_
  refine TL.nil (TV.next (.inl s9z) ?_)
  refine TV.done kr ?_
  refine TQ.thenN (TQ.midK () l9z l9z (List.Sublist.refl _) (by first | trivial | omega))
  refine zq (PV.load (v := .slice u.pw s.W.length u.cw) rfl Tb.one_22 m9z rfl) rfl ?_
  refine TL.nil (TV.next (.inl s9z) ?_)
  refine zv 10 rfl kr (PV.indexA rfl q5p rfl Tb.elm_22 rfl om) rfl (zv 11 rfl kr (PV.loadN rfl Tb.one_25 hZf q5v) rfl (zv 13 rfl kr (PV.indexA (j := r9) rfl q6p rfl Tb.elm_25 hr9 om) rfl (zv 14 rfl kr (PV.loadN rfl Tb.one_3 hZf q6v) rfl (TV.step [3] kr dc rfl ⟨⟨_, rfl, ?_⟩, trivial⟩))))
  refine zq (PV.load rfl Tb.one_3 m9z rfl) rfl ?_
  refine TL.nil (TV.next (.inl s9z) ?_)
  refine zv 15 rfl kr (PV.add (i := c.money) rfl rfl om) rfl (zv 16 rfl kr (PV.nilCheck rfl) rfl (zv 17 rfl kr (PV.fieldAddr rfl Tb.fo_54_5) rfl (TV.step [18] kr dc rfl ⟨⟨_, rfl, ?_⟩, trivial⟩)))
  refine TL.store rfl rfl Tb.cells_3 rfl u9z d9z rfl rfl ?_
  refine TL.nil (TV.next (.inl s9z) ?_)
  refine TV.done kr ?_
  refine TQ.thenN (TQ.midK () l9z l9z (List.Sublist.refl _) (by first | trivial | omega))
  intro x hx9
  refine TC.seq (TC.sub (G' := gbI (y.1, drT s.K s.g c.tur (k : Int)) ++ (rcB b s u { c with hol := c.hol.set k (c.hol.getD k 0 + 1), cut := c.cut + 1, money := c.money + (s.W.getD k []).getD r9 0 } v ho :: rcH { c with hol := c.hol.set k (c.hol.getD k 0 + 1), cut := c.cut + 1, money := c.money + (s.W.getD k []).getD r9 0 } v :: (gbI (v.ht, c.tur) ++ Z))) (List.Sublist.refl _) ?_)
  refine TC.region (zm rfl (zm rfl (zq (PV.nilCheck rfl) rfl (zq (PV.fieldAddr rfl Tb.fo_54_10) rfl (TL.store rfl rfl Tb.cells_25 rfl u9z d9z rfl rfl ?_)))))
  refine zn (TC.seqK [4] (X := Unit) (fun x => True) (fun x => []) (fun x => gbI (y.1, drT s.K s.g c.tur (k : Int)) ++ (rcB b s u { c with hol := c.hol.set k (c.hol.getD k 0 + 1), cut := c.cut + 1, money := c.money + (s.W.getD k []).getD r9 0, tur := drT s.K s.g c.tur (k : Int), grd := c.grd + (sL c.tur + 1 - sL (drT s.K s.g c.tur (k : Int))) } { v with ht := y.1 } ho :: rcH { c with hol := c.hol.set k (c.hol.getD k 0 + 1), cut := c.cut + 1, money := c.money + (s.W.getD k []).getD r9 0, tur := drT s.K s.g c.tur (k : Int), grd := c.grd + (sL c.tur + 1 - sL (drT s.K s.g c.tur (k : Int))) } { v with ht := y.1 } :: (gbI (v.ht, c.tur) ++ Z))) ?_ ?_)
  refine TC.sub (G' := gbI (y.1, drT s.K s.g c.tur (k : Int)) ++ (rcB b s u { c with hol := c.hol.set k (c.hol.getD k 0 + 1), cut := c.cut + 1, money := c.money + (s.W.getD k []).getD r9 0, tur := drT s.K s.g c.tur (k : Int) } { v with ht := y.1 } ho :: rcH { c with hol := c.hol.set k (c.hol.getD k 0 + 1), cut := c.cut + 1, money := c.money + (s.W.getD k []).getD r9 0, tur := drT s.K s.g c.tur (k : Int) } { v with ht := y.1 } :: (gbI (v.ht, c.tur) ++ Z))) (List.Sublist.refl _) ?_
  refine TC.mixV [true, true, true, false, true, true, true, false, true, true, true, true, false] [] 13 Tb.mixed rfl kr kr kr kr s9z ?_
  refine zv 0 rfl kr (PV.move rfl) rfl (zv 1 rfl kr (PV.nilCheck rfl) rfl (zv 2 rfl kr (PV.fieldAddr rfl Tb.fo_54_8) rfl (zv 4 rfl kr (PV.move rfl) rfl (zv 5 rfl kr (PV.add (i := sL c.tur) (j := 1) rfl rfl om) rfl (zv 6 rfl kr (PV.move rfl) rfl (TV.step [3, 7] kr dc rfl ⟨⟨_, rfl, ?_⟩, ⟨_, rfl, ?_⟩, trivial⟩))))))
  refine zq (PV.load rfl Tb.one_3 m9z rfl) rfl ?_
  refine TL.nil (TV.next (.inl s9z) ?_)
  refine TV.step [7] kr dc rfl ⟨⟨_, rfl, ?_⟩, trivial⟩
  refine TL.call rfl Tb.gofn_120 (fun a w hs => total_ok w _ _ (drT s.K s.g c.tur (k : Int)) (IntsAt.g (x := (y.1, drT s.K s.g c.tur (k : Int))) hs.new r9z hy) (by have := hdr.len; have := hv.len; omega) (fun j => by have := hdr.bd hv j; omega)) rfl dc (fun _ _ => ?_)
  refine TL.nil (TV.next (.inl s9z) ?_)
  refine zv 8 rfl kr (PV.sub (i := sL c.tur + 1) (j := sL (drT s.K s.g c.tur (k : Int))) rfl rfl om) rfl ?_
  refine zv 9 rfl kr (PV.add (i := c.grd) (j := sL c.tur + 1 - sL (drT s.K s.g c.tur (k : Int))) rfl rfl om) rfl ?_
  refine zv 10 rfl kr (PV.nilCheck rfl) rfl (zv 11 rfl kr (PV.fieldAddr rfl Tb.fo_54_8) rfl (TV.step [12] kr dc rfl ⟨⟨_, rfl, ?_⟩, trivial⟩))
  refine TL.store rfl rfl Tb.cells_3 rfl u9z d9z rfl rfl ?_
  refine TL.nil (TV.next (.inl s9z) ?_)
  refine TV.done kr ?_
  refine TQ.thenN (TQ.midK () l9z l9z (List.Sublist.refl _) (by first | trivial | omega))
  refine TL.call rfl Tb.gofn_120 (fun a w hs => total_ok w _ _ (drT s.K s.g c.tur (k : Int)) (IntsAt.g (x := (y.1, drT s.K s.g c.tur (k : Int))) hs.new r9z hy) (by have := hdr.len; have := hv.len; omega) (fun j => by have := hdr.bd hv j; omega)) rfl dc (fun _ _ => ?_)
  refine TL.nil (TV.next (.inl s9z) ?_)
  refine zv 8 rfl kr (PV.sub (i := sL c.tur + 1) (j := sL (drT s.K s.g c.tur (k : Int))) rfl rfl om) rfl ?_
  refine TV.step [3] kr dc rfl ⟨⟨_, rfl, ?_⟩, trivial⟩
  refine zq (PV.load rfl Tb.one_3 m9z rfl) rfl ?_
  refine TL.nil (TV.next (.inl s9z) ?_)
  refine zv 9 rfl kr (PV.add (i := c.grd) (j := sL c.tur + 1 - sL (drT s.K s.g c.tur (k : Int))) rfl rfl om) rfl ?_
  refine zv 10 rfl kr (PV.nilCheck rfl) rfl (zv 11 rfl kr (PV.fieldAddr rfl Tb.fo_54_8) rfl (TV.step [12] kr dc rfl ⟨⟨_, rfl, ?_⟩, trivial⟩))
  refine TL.store rfl rfl Tb.cells_3 rfl u9z d9z rfl rfl ?_
  refine TL.nil (TV.next (.inl s9z) ?_)
  refine TV.done kr ?_
  refine TQ.thenN (TQ.midK () l9z l9z (List.Sublist.refl _) (by first | trivial | omega))
  intro x hx8
  refine TC.seq (TC.sub (G' := gbI (y.1, drT s.K s.g c.tur (k : Int)) ++ (rcB b s u { c with hol := c.hol.set k (c.hol.getD k 0 + 1), cut := c.cut + 1, money := c.money + (s.W.getD k []).getD r9 0, tur := drT s.K s.g c.tur (k : Int), grd := c.grd + (sL c.tur + 1 - sL (drT s.K s.g c.tur (k : Int))) } { v with ht := y.1 } ho :: rcH { c with hol := c.hol.set k (c.hol.getD k 0 + 1), cut := c.cut + 1, money := c.money + (s.W.getD k []).getD r9 0, tur := drT s.K s.g c.tur (k : Int), grd := c.grd + (sL c.tur + 1 - sL (drT s.K s.g c.tur (k : Int))) } { v with ht := y.1 } :: (gbI (v.ht, c.tur) ++ Z))) (List.Sublist.refl _) ?_)
  refine TC.sub (G' := gbI (y.1, drT s.K s.g c.tur (k : Int)) ++ (rcB b s u { c with hol := c.hol.set k (c.hol.getD k 0 + 1), cut := c.cut + 1, money := c.money + (s.W.getD k []).getD r9 0, tur := drT s.K s.g c.tur (k : Int), grd := c.grd + (sL c.tur + 1 - sL (drT s.K s.g c.tur (k : Int))) } { v with ht := y.1 } ho :: rcH { c with hol := c.hol.set k (c.hol.getD k 0 + 1), cut := c.cut + 1, money := c.money + (s.W.getD k []).getD r9 0, tur := drT s.K s.g c.tur (k : Int), grd := c.grd + (sL c.tur + 1 - sL (drT s.K s.g c.tur (k : Int))) } { v with ht := y.1 } :: Z)) (List.Sublist.append_left (List.Sublist.cons_cons _ (List.Sublist.cons_cons _ (List.sublist_append_right _ _))) _) ?_
  refine TC.perm (G' := rcB b s u { c with hol := c.hol.set k (c.hol.getD k 0 + 1), cut := c.cut + 1, money := c.money + (s.W.getD k []).getD r9 0, tur := drT s.K s.g c.tur (k : Int), grd := c.grd + (sL c.tur + 1 - sL (drT s.K s.g c.tur (k : Int))) } { v with ht := y.1 } ho :: rcH { c with hol := c.hol.set k (c.hol.getD k 0 + 1), cut := c.cut + 1, money := c.money + (s.W.getD k []).getD r9 0, tur := drT s.K s.g c.tur (k : Int), grd := c.grd + (sL c.tur + 1 - sL (drT s.K s.g c.tur (k : Int))) } { v with ht := y.1 } :: (gbI (y.1, drT s.K s.g c.tur (k : Int)) ++ Z)) ((List.Perm.cons _ List.perm_middle.symm).trans List.perm_middle.symm) ?_
  refine TC.region (za rfl (zt (TQ.retE1 rfl rfl ?_)))
  have hC := chg_yes (s := s) (c := c) (o := ⟨1, [(k : Int)]⟩) hE
  rw [cut_c, Int.toNat_natCast, htn] at hC
  exact ⟨y.1, by rw [hE], by rw [hC]; exact hy, by rw [hC]; simp only [rcB, rcL, rcH, List.length_set]; exact List.Sublist.refl _⟩
end Go.Proofs.YtbnjmkidbfmomaaGreatDoor
namespace Go.Proofs.YtbnjmkidbfmomaaGreatDoor
open Go.Sx Go.RowKit Go.Bt Go.Lib Go.Sand
noncomputable def stC (s : St) (os : List (List UInt8)) (k : Nat) : Co := (os.take k).foldl (doC s) (co0 s)
theorem stC_zero (s : St) (os : List (List UInt8)) : stC s os 0 = co0 s := rfl
theorem stC_succ {s : St} {os : List (List UInt8)} {k : Nat} (hk : k < os.length) : stC s os (k + 1) = doC s (stC s os k) (os.getD k []) := by
  unfold stC
  rw [List.take_succ_eq_append_getElem hk, List.foldl_append]
  simp [List.getD, hk]
theorem fold_inv {s : St} (hv : SV s) : ∀ (l : List (List UInt8)) (c : Co), Inv s c → Inv s (l.foldl (doC s) c)
  | [], _, h => h
  | t :: l, c, h => fold_inv hv l _ (h.any t hv)
theorem stC_inv {s : St} (hv : SV s) (os : List (List UInt8)) (k : Nat) : Inv s (stC s os k) := fold_inv hv _ _ (Inv.zero hv)
theorem stC_app {s : St} {os : List (List UInt8)} {r : List (List UInt8)} {k : Nat} (hk : k ≤ os.length) : stC s (os ++ r) k = stC s os k := by
  unfold stC
  rw [List.take_append_of_le_length hk]
theorem getD_app {os r : List (List UInt8)} {k : Nat} (hk : k < os.length) : (os ++ r).getD k [] = os.getD k [] := by
  simp [List.getD, List.getElem?_append_left hk]
theorem getD_last {os : List (List UInt8)} {t : List UInt8} : (os ++ [t]).getD os.length [] = t := by
  simp [List.getD]
theorem getD_take {os : List (List UInt8)} {j k : Nat} (hk : k < j) : (os.take j).getD k [] = os.getD k [] := by
  simp [List.getD, List.getElem?_take, hk]
theorem doC_ords {s : St} {c : Co} {t : List UInt8} (h : doI s c t = 0) : (doC s c t).ords = c.ords ++ [t] := by
  obtain ⟨o, hp, hl, ha, e⟩ := doC_yes h
  rw [e]
structure Rc (s : St) (c : Co) : Prop where
  ok : ∀ k, k < c.ords.length → doI s (stC s c.ords k) (c.ords.getD k []) = 0
  fin : stC s c.ords c.ords.length = c
theorem Rc.zero (s : St) : Rc s (co0 s) := ⟨fun k hk => absurd hk (Nat.not_lt_zero _), rfl⟩
theorem Rc.any {s : St} {c : Co} (t : List UInt8) (h : Rc s c) : Rc s (doC s c t) := by
  by_cases he : doI s c t = 0
  · have e := doC_ords he
    have h1 : stC s (c.ords ++ [t]) c.ords.length = c := by rw [stC_app (Nat.le_refl _), h.fin]
    refine ⟨fun k hk => ?_, ?_⟩
    · rw [e] at hk ⊢
      rw [List.length_append] at hk
      by_cases hk2 : k < c.ords.length
      · rw [stC_app (by omega), getD_app hk2]; exact h.ok k hk2
      · have : k = c.ords.length := by simp at hk; omega
        subst this
        rw [h1, getD_last]; exact he
    · rw [e]
      have h2 : (c.ords ++ [t]).length = c.ords.length + 1 := by simp
      rw [h2, stC_succ (by omega), h1, getD_last]
  · rw [doC_no he]; exact h
theorem fold_rc {s : St} : ∀ (l : List (List UInt8)) (c : Co), Rc s c → Rc s (l.foldl (doC s) c)
  | [], _, h => h
  | t :: l, c, h => fold_rc l _ (h.any t)
theorem stC_rc (s : St) (os : List (List UInt8)) (k : Nat) : Rc s (stC s os k) := fold_rc _ _ (Rc.zero s)
noncomputable def rpK (s : St) : Co → List (List UInt8) → Nat
  | _, [] => 0
  | c, t :: os => if doI s c t = 0 then rpK s (doC s c t) os + 1 else 0
theorem rpK_step {s : St} {os : List (List UInt8)} : ∀ {k : Nat}, k ≤ os.length → (∀ j, j < k → doI s (stC s os j) (os.getD j []) = 0) → rpK s (co0 s) os = k + rpK s (stC s os k) (os.drop k)
  | 0, _, _ => by rw [stC_zero, List.drop_zero, Nat.zero_add]
  | k + 1, hk, h => by
    rw [rpK_step (k := k) (by omega) (fun j hj => h j (by omega)), stC_succ (by omega)]
    have e : os.drop k = os.getD k [] :: os.drop (k + 1) := by
      rw [List.drop_eq_getElem_cons (by omega)]
      simp [List.getD, show k < os.length by omega]
    rw [e]
    conv => lhs; unfold rpK
    rw [if_pos (h k (by omega))]
    omega
theorem rpK_stop {s : St} {os : List (List UInt8)} {k : Nat} (hk : k < os.length) (h : ∀ j, j < k → doI s (stC s os j) (os.getD j []) = 0) (he : doI s (stC s os k) (os.getD k []) ≠ 0) : rpK s (co0 s) os = k := by
  rw [rpK_step (by omega) h]
  have e : os.drop k = os.getD k [] :: os.drop (k + 1) := by
    rw [List.drop_eq_getElem_cons hk]
    simp [List.getD, hk]
  rw [e]
  unfold rpK
  rw [if_neg he]; rfl
theorem rpK_end {s : St} {os : List (List UInt8)} (h : ∀ j, j < os.length → doI s (stC s os j) (os.getD j []) = 0) : rpK s (co0 s) os = os.length := by
  rw [rpK_step (Nat.le_refl _) h, List.drop_length]; rfl
noncomputable def rpO (t : List UInt8) (s : St) : Nat := rpK s (co0 s) (readL t).1
noncomputable def rpN (s : St) (t : List UInt8) : Nat := if newI s.W s.K s.g s.need ≠ 0 then 0 else if (readL t).2 ≠ [] then 0 else rpO t s
noncomputable def rpE (s : St) (t : List UInt8) : Int := if newI s.W s.K s.g s.need ≠ 0 then newI s.W s.K s.g s.need else if (readL t).2 ≠ [] then 12 else
  if rpO t s < (readL t).1.length then doI s (stC s (readL t).1 (rpO t s)) ((readL t).1.getD (rpO t s) []) else 0
theorem rp_1 {s : St} {t : List UInt8} (h : newI s.W s.K s.g s.need ≠ 0) : rpN s t = 0 ∧ rpE s t = newI s.W s.K s.g s.need := ⟨by unfold rpN; rw [if_pos h], by unfold rpE; rw [if_pos h]⟩
theorem rp_2 {s : St} {t : List UInt8} (h : ¬ newI s.W s.K s.g s.need ≠ 0) (h2 : (readL t).2 ≠ []) : rpN s t = 0 ∧ rpE s t = 12 := ⟨by unfold rpN; rw [if_neg h, if_pos h2], by unfold rpE; rw [if_neg h, if_pos h2]⟩
theorem rp_3 {s : St} {t : List UInt8} {k : Nat} (h : ¬ newI s.W s.K s.g s.need ≠ 0) (h2 : ¬ (readL t).2 ≠ []) (hk : k < (readL t).1.length) (ha : ∀ j, j < k → doI s (stC s (readL t).1 j) ((readL t).1.getD j []) = 0) (he : doI s (stC s (readL t).1 k) ((readL t).1.getD k []) ≠ 0) : rpN s t = k ∧ rpE s t = doI s (stC s (readL t).1 k) ((readL t).1.getD k []) := by
  have e : rpO t s = k := rpK_stop hk ha he
  refine ⟨by unfold rpN; rw [if_neg h, if_neg h2, e], by unfold rpE; rw [if_neg h, if_neg h2, e, if_pos hk]⟩
theorem rp_4 {s : St} {t : List UInt8} (h : ¬ newI s.W s.K s.g s.need ≠ 0) (h2 : ¬ (readL t).2 ≠ []) (ha : ∀ j, j < (readL t).1.length → doI s (stC s (readL t).1 j) ((readL t).1.getD j []) = 0) : rpN s t = (readL t).1.length ∧ rpE s t = 0 := by
  have e : rpO t s = (readL t).1.length := rpK_end ha
  refine ⟨by unfold rpN; rw [if_neg h, if_neg h2, e], by unfold rpE; rw [if_neg h, if_neg h2, e, if_neg (Nat.lt_irrefl _)]⟩
theorem Inv.read {s : St} {c : Co} (h : Inv s c) : readL (bookL dI c.ords).2 = (c.ords, []) := by rw [book_bk]; exact rd_book c.ords 100 0 h.ol h.rt
end Go.Proofs.YtbnjmkidbfmomaaGreatDoor
namespace Go.Proofs.YtbnjmkidbfmomaaGreatDoor
open Go.Sx Go.RowKit Go.Bt Go.Lib Go.Sand
theorem calls_swap {f : FuncId} {args : Array Value} {w0 w : World} {X : Type} {V : X → Value} {F : X → Prop} {A R : Heap} {B : X → Heap} (h : Calls Tryz.prog f args w (Post V F (fun x => B x ++ (A ++ R)) w0)) : Calls Tryz.prog f args w (Post V F (fun x => A ++ (B x ++ R)) w0) :=
  h.mono fun _ _ ⟨x, e1, e2, e3⟩ => ⟨x, e1, e2, e3.perm (List.perm_append_comm_assoc _ _ _)⟩
theorem New.swap {w0 w : World} {A B R : Heap} (h : New w0 w (A ++ (B ++ R))) : New w0 w (B ++ (A ++ R)) := h.perm (List.perm_append_comm_assoc _ _ _)
structure CP where
  u : SU
  v : TV
  ho : HD
  Z : Heap
def hp0 (s : St) (c : Co) (b : Nat) (p : CP) : Heap := coB b s p.u 0 c p.v p.ho :: (gbR stR 9 p.ho c.ords ++ p.Z)
structure CPk (w0 : World) (s : St) (c : Co) (p : CP) : Prop where
  go : goR stR p.ho c.ords
  site : ∀ w9, New w0 w9 p.Z → SiteAt w9 s p.u
  tur : ∀ w9, New w0 w9 p.Z → TurAt w9 c p.v
abbrev pt (b : Nat) : Value := .pointer (some ⟨b, 0, none⟩)
theorem hp0_r (s : St) (c : Co) (b : Nat) (p : CP) (R : Heap) : hp0 s c b p ++ R = coB b s p.u 0 c p.v p.ho :: (gbR stR 9 p.ho c.ords ++ (p.Z ++ R)) := by
  simp only [hp0, List.cons_append, List.append_assoc]
theorem Z_sub {p : CP} {l R : Heap} : List.Sublist p.Z (l ++ (p.Z ++ R)) := (List.sublist_append_left _ _).trans (List.sublist_append_right _ _)
theorem New_p (w0 w : World) (G : Heap) (hN : New w0 w G) (p : Option Addr) (cp : Nat) (W : List (List Int)) (hr : LsAt w p W) (q : Option Addr) (cq : Nat) (K : List (List Int)) (hk : LsAt w q K) (hkl : ∀ k, (K.getD k []).length ≤ 1000000) (r : Option Addr) (cr : Nat) (g : List Int) (hg : IntsAt w r g) (hgl : g.length ≤ 1000000) (need : Int) (he : newI W K g need = 0) :
    Calls Tryz.prog 59 #[.agg #[.slice p W.length cp], .agg #[.slice q K.length cq, .slice r g.length cr], .int .i64 need] w (Post (X := Nat × CP) (fun y => .tuple #[pt y.1, .int .i64 0]) (fun y => CPk w0 ⟨W, K, g, need⟩ (co0 ⟨W, K, g, need⟩) y.2) (fun y => hp0 ⟨W, K, g, need⟩ (co0 ⟨W, K, g, need⟩) y.1 y.2 ++ G) w0) :=
  (New_y w p cp W hr q cq K hk hkl r cr g hg hgl need he).mono fun _ _ ⟨y, e1, e2, e3⟩ => ⟨(y.1, ⟨y.2.1, y.2.2.1, none, y.2.2.2⟩), e1, ⟨⟨rfl, rfl⟩, fun w9 hn => (e2 w0 w9 hn).1, fun w9 hn => (e2 w0 w9 hn).2⟩, hN.trans e3⟩
variable {w0 w : World} {s : St} {c : Co} {b : Nat} {p : CP} {R : Heap}
theorem Do_p (hW : WAt w0) (hv : SV s) (hi : Inv s c) (hk : CPk w0 s c p) (hN : New w0 w (hp0 s c b p ++ R)) (t : List UInt8) (ht : t.length ≤ 1000000) :
    Calls Tryz.prog 18 #[pt b, str t] w (Post (X := CP) (fun _ => .int .i64 (doI s c t)) (fun p' => CPk w0 s (doC s c t) p') (fun p' => hp0 s (doC s c t) b p' ++ R) w0) :=
  (Do_ok w0 w hW s hv p.u c p.v hi b p.ho hk.go (p.Z ++ R) (by rw [hp0_r] at hN; exact hN) p.Z (List.sublist_append_left _ _) hk.site hk.tur t ht).mono fun _ _ ⟨y, e1, e2, e3⟩ =>
    ⟨⟨p.u, y.1, y.2.1, y.2.2 ++ p.Z⟩, e1, ⟨e2.1, fun w9 hn => hk.site w9 (hn.sub (List.sublist_append_right _ _)), e2.2⟩, by show New w0 _ (hp0 s (doC s c t) b ⟨p.u, y.1, y.2.1, y.2.2 ++ p.Z⟩ ++ R); rw [hp0_r, List.append_assoc]; exact e3⟩
theorem Day_p (hv : SV s) (hN : New w0 w (hp0 s c b p ++ R)) : Calls Tryz.prog 19 #[pt b] w (Post (X := Unit) (fun _ => .int .i64 c.day) (fun _ => True) (fun _ => hp0 s c b p ++ R) w0) := by
  rw [hp0_r] at hN ⊢; exact Day_ok w0 w s hv p.u c p.v b p.ho _ hN
theorem Wet_p (hv : SV s) (hN : New w0 w (hp0 s c b p ++ R)) : Calls Tryz.prog 20 #[pt b] w (Post (X := Unit) (fun _ => .int .i64 (c.wet : Nat)) (fun _ => True) (fun _ => hp0 s c b p ++ R) w0) := by
  rw [hp0_r] at hN ⊢; exact Wet_ok w0 w s hv p.u c p.v b p.ho _ hN
theorem Money_p (hv : SV s) (hN : New w0 w (hp0 s c b p ++ R)) : Calls Tryz.prog 21 #[pt b] w (Post (X := Unit) (fun _ => .int .i64 c.money) (fun _ => True) (fun _ => hp0 s c b p ++ R) w0) := by
  rw [hp0_r] at hN ⊢; exact Money_ok w0 w s hv p.u c p.v b p.ho _ hN
theorem Cut_p (hv : SV s) (hN : New w0 w (hp0 s c b p ++ R)) : Calls Tryz.prog 22 #[pt b] w (Post (X := Unit) (fun _ => .int .i64 c.cut) (fun _ => True) (fun _ => hp0 s c b p ++ R) w0) := by
  rw [hp0_r] at hN ⊢; exact Cut_ok w0 w s hv p.u c p.v b p.ho _ hN
theorem Loaded_p (hv : SV s) (hN : New w0 w (hp0 s c b p ++ R)) : Calls Tryz.prog 23 #[pt b] w (Post (X := Unit) (fun _ => .int .i64 c.load) (fun _ => True) (fun _ => hp0 s c b p ++ R) w0) := by
  rw [hp0_r] at hN ⊢; exact Loaded_ok w0 w s hv p.u c p.v b p.ho _ hN
theorem Ground_p (hv : SV s) (hN : New w0 w (hp0 s c b p ++ R)) : Calls Tryz.prog 24 #[pt b] w (Post (X := Unit) (fun _ => .int .i64 c.grd) (fun _ => True) (fun _ => hp0 s c b p ++ R) w0) := by
  rw [hp0_r] at hN ⊢; exact Ground_ok w0 w s hv p.u c p.v b p.ho _ hN
theorem Shut_p (hv : SV s) (hN : New w0 w (hp0 s c b p ++ R)) : Calls Tryz.prog 27 #[pt b] w (Post (X := Unit) (fun _ => .bool c.shut) (fun _ => True) (fun _ => hp0 s c b p ++ R) w0) := by
  rw [hp0_r] at hN ⊢; exact Shut_ok w0 w s hv p.u c p.v b p.ho _ hN
theorem Hollow_p (hv : SV s) (hi : Inv s c) (hk : CPk w0 s c p) (hN : New w0 w (hp0 s c b p ++ R)) : Calls Tryz.prog 25 #[pt b] w (Post (X := HD) (fun h => .slice (gp h) c.hol.length (gc h)) (fun h => goI (h, c.hol)) (fun h => gbI (h, c.hol) ++ (hp0 s c b p ++ R)) w0) := by
  rw [hp0_r] at hN ⊢; exact Hollow_ok w0 w s hv p.u c p.v b p.ho _ p.Z Z_sub hk.tur (by have := hi.hl; have := hv.n5; omega) hN
theorem Turves_p (hv : SV s) (hi : Inv s c) (hk : CPk w0 s c p) (hN : New w0 w (hp0 s c b p ++ R)) : Calls Tryz.prog 26 #[pt b] w (Post (X := HD) (fun h => .slice (gp h) c.tur.length (gc h)) (fun h => goI (h, c.tur)) (fun h => gbI (h, c.tur) ++ (hp0 s c b p ++ R)) w0) := by
  rw [hp0_r] at hN ⊢; exact Turves_ok w0 w s hv p.u c p.v b p.ho _ p.Z Z_sub hk.tur (by have := hi.tl' hv; have := hv.n5; omega) hN
theorem Book_p (hW : WAt w0) (hv : SV s) (hi : Inv s c) (hk : CPk w0 s c p) (hN : New w0 w (hp0 s c b p ++ R)) : Calls Tryz.prog 28 #[pt b] w (Post (X := Unit) (fun _ => str (bookL dI c.ords).2) (fun _ => True) (fun _ => hp0 s c b p ++ R) w0) := by
  rw [hp0_r] at hN ⊢; exact Book_ok w0 w hW s hv p.u c hi p.v b p.ho hk.go _ hN
theorem Inv.bl {s : St} {c : Co} (h : Inv s c) : (bookL dI c.ords).2.length ≤ 1000000 := by
  have h2 : ∀ (L : List (List UInt8)) (sum : Int), L.all rightS = true → (bkN sum L).length ≤ 50 * L.length := fun L => by
    induction L with
    | nil => exact fun _ _ => Nat.zero_le _
    | cons a L ih =>
      intro sum h
      rw [List.all_cons, Bool.and_eq_true] at h
      have ih := ih (smV sum a) h.2
      have h1 := right_of h.1
      have h2 := dI_len (smV_bd sum a).1 (smV_bd sum a).2
      show (pageL dI (smV sum a) a ++ bkN (smV sum a) L).length ≤ _
      unfold pageL
      simp only [List.length_append, List.length_cons, List.length_nil]
      omega
  have := h2 c.ords 0 h.rt
  have := h.ol
  rw [book_bk]; omega
end Go.Proofs.YtbnjmkidbfmomaaGreatDoor

/- Xp Xq Xr Xs Xt -/
import Derived.Test.YtbnjmkidbfmomaaGreatDoorV06
import Derived.Test.YtbnjmkidbfmomaaGreatDoorV23
import Derived.Test.YtbnjmkidbfmomaaGreatDoorV24
import Derived.Test.YtbnjmkidbfmomaaGreatDoorV25
set_option linter.unusedVariables false
set_option linter.unusedSimpArgs false
set_option maxRecDepth 100000
namespace Go.Proofs.YtbnjmkidbfmomaaGreatDoor
open Go.Sx Go.RowKit Go.Bt Go.Lib Go.Sand
def saS : St := ⟨[[1, 2], [3, 4]], [[0, 1], [1, 0]], [1, 1], 2⟩
theorem sa_new : newI [[1, 2], [3, 4]] [[0, 1], [1, 0]] [1, 1] 2 = 0 := by
  have h1 : C.validI [[1, 2], [3, 4]] = 0 := by decide
  have hs : H.Shp [[0, 1], [1, 0]] [1, 1] := by
    refine ⟨by decide, rfl, ?_, by decide, ?_⟩
    · intro k hk
      have : k = 0 ∨ k = 1 := by simp at hk; omega
      rcases this with rfl | rfl <;> decide
    · intro i j hi hj
      have a : i = 0 ∨ i = 1 := by simp at hi; omega
      have b : j = 0 ∨ j = 1 := by simp at hj; omega
      rcases a with rfl | rfl <;> rcases b with rfl | rfl <;> decide
  have hj : H.JoiP [[0, 1], [1, 0]] [1, 1] := by
    intro i hi
    refine .gr i hi ?_
    have a : i = 0 ∨ i = 1 := by simp at hi; omega
    rcases a with rfl | rfl <;> decide
  have h2 : H.validI [[0, 1], [1, 0]] [1, 1] = 0 := H.valid_0 hs hj
  rw [new_4 (by rw [h1]; decide) (by rw [h2]; decide) (by decide)]
  exact M.vI_yes (by unfold M.vB; decide)
theorem sa_sv : SV saS := sv_of sa_new
def tW : List UInt8 := [119, 101, 116, 32, 48, 32, 48]
def tC0 : List UInt8 := [99, 117, 116, 32, 48]
def tC1 : List UInt8 := [99, 117, 116, 32, 49]
theorem nf_0 : numF [48] = some 0 := by
  have e : decDigits 0 = [48] := by unfold decDigits; rfl
  rw [← e]; exact numF_dec (by decide)
theorem nf_1 : numF [49] = some 1 := by
  have e : decDigits 1 = [49] := by unfold decDigits; rfl
  rw [← e]; exact numF_dec (by decide)
theorem spl_W : spl 32 tW = [[119, 101, 116], [48], [48]] := by decide
theorem spl_0 : spl 32 tC0 = [[99, 117, 116], [48]] := by decide
theorem spl_1 : spl 32 tC1 = [[99, 117, 116], [49]] := by decide
theorem prs_W : prsO tW = some ⟨3, [0, 0]⟩ := by
  unfold prsO
  rw [spl_W]
  show (match kdF [119, 101, 116] with | none => none | some (k, c) => if _ then some _ else none) = _
  rw [show kdF [119, 101, 116] = some (3, 2) by decide]
  simp [isNum, nv, nf_0]
theorem prs_0 : prsO tC0 = some ⟨1, [0]⟩ := by
  unfold prsO
  rw [spl_0]
  show (match kdF [99, 117, 116] with | none => none | some (k, c) => if _ then some _ else none) = _
  rw [show kdF [99, 117, 116] = some (1, 1) by decide]
  simp [isNum, nv, nf_0]
theorem prs_1 : prsO tC1 = some ⟨1, [1]⟩ := by
  unfold prsO
  rw [spl_1]
  show (match kdF [99, 117, 116] with | none => none | some (k, c) => if _ then some _ else none) = _
  rw [show kdF [99, 117, 116] = some (1, 1) by decide]
  simp [isNum, nv, nf_1]
structure Kn (c : Co) (m k : Int) (hol : List Int) (n : Nat) : Prop where
  mn : c.money = m
  ct : c.cut = k
  ho : c.hol = hol
  sh : c.shut = false
  we : c.wet = 0
  ol : c.ords.length = n
theorem kn_0 : Kn (co0 saS) 0 0 [0, 0] 0 := ⟨rfl, rfl, rfl, rfl, rfl, rfl⟩
theorem do_cut {c : Co} {m k a : Int} {hol : List Int} {n : Nat} {t : List UInt8} (h : Kn c m k hol n) (hn : n < 100) (hp : prsO t = some ⟨1, [a]⟩) (ha : ¬ (saS.W.length : Int) ≤ a) (ho : C.opB saS.W (C.pad6 hol) a.toNat = true) :
    doI saS c t = 0 ∧ Kn (doC saS c t) (m + (saS.W.getD a.toNat []).getD (hol.getD a.toNat 0).toNat 0) (k + 1) (hol.set a.toNat (hol.getD a.toNat 0 + 1)) (n + 1) := by
  have hl := h.ol
  have h0 : actI saS c ⟨1, [a]⟩ = 0 := by
    rw [cut_e, if_neg ha, if_neg (by rw [h.sh]; decide), h.ho, ho, h.we, if_neg]
    rintro (h9 | ⟨_, h9⟩)
    · cases h9
    · simp at h9
  have e1 : doI saS c t = 0 := by rw [do_some hp (by omega)]; exact h0
  refine ⟨e1, ?_⟩
  have e2 : doC saS c t = { actC saS c ⟨1, [a]⟩ with ords := c.ords ++ [t] } := by
    unfold doC
    rw [hp]
    simp only
    rw [if_neg (by omega), if_pos h0]
  rw [e2, cut_c]
  exact ⟨by simp only [h.mn, h.ho], by simp only [h.ct], by simp only [h.ho], h.sh, h.we, by simp only [List.length_append, List.length_cons, List.length_nil, hl]⟩
theorem sa_1 : doI saS (co0 saS) tW = 8 := by
  rw [do_some prs_W (by decide), wet_e]
  decide
theorem sa_1c : doC saS (co0 saS) tW = co0 saS := doC_no (by rw [sa_1]; decide)
noncomputable abbrev sa1 : Co := doC saS (co0 saS) tW
noncomputable abbrev sa2 : Co := doC saS sa1 tC0
noncomputable abbrev sa3 : Co := doC saS sa2 tC0
noncomputable abbrev sa4 : Co := doC saS sa3 tC1
noncomputable abbrev sa5 : Co := doC saS sa4 tC0
theorem kn_1 : Kn sa1 0 0 [0, 0] 0 := by
  show Kn (doC saS (co0 saS) tW) 0 0 [0, 0] 0
  rw [sa_1c]; exact kn_0
theorem kn_2 : doI saS sa1 tC0 = 0 ∧ Kn sa2 1 1 [1, 0] 1 := do_cut kn_1 (by decide) prs_0 (by decide) (by decide)
theorem sa_3 : doI saS sa2 tC0 = 6 := by
  have h := kn_2.2
  rw [do_some prs_0 (by rw [h.ol]; decide), cut_e, if_neg (by decide), if_neg (by rw [h.sh]; decide), h.ho, if_pos (.inl (by decide))]
theorem kn_3 : Kn sa3 1 1 [1, 0] 1 := by
  have : sa3 = sa2 := doC_no (by rw [sa_3]; decide)
  rw [this]; exact kn_2.2
theorem kn_4 : doI saS sa3 tC1 = 0 ∧ Kn sa4 4 2 [1, 1] 2 := do_cut kn_3 (by decide) prs_1 (by decide) (by decide)
theorem kn_5 : doI saS sa4 tC0 = 0 ∧ Kn sa5 6 3 [2, 1] 3 := do_cut kn_4.2 (by decide) prs_0 (by decide) (by decide)
theorem in_1 : Inv saS sa1 := (Inv.zero sa_sv).any _ sa_sv
theorem in_2 : Inv saS sa2 := in_1.any _ sa_sv
theorem in_3 : Inv saS sa3 := in_2.any _ sa_sv
theorem in_4 : Inv saS sa4 := in_3.any _ sa_sv
theorem it_day : dI 696239 = [54, 57, 54, 50, 51, 57] := by
  show itoa ((696239 : Nat) : Int) = _
  rw [itoa_nat]
  repeat (unfold decDigits; simp)
theorem wr_day : wrI [[100, 97, 121]] = 0 ∧ wrL dI [[100, 97, 121]] = [54, 57, 54, 50, 51, 57, 32, 100, 97, 121, 10] := by
  have h0 : wrI [[100, 97, 121]] = 0 := by decide
  refine ⟨h0, ?_⟩
  unfold wrL
  rw [h0, if_pos rfl]
  show (bookF dI (0, []) [100, 97, 121]).2 = _
  unfold bookF pageL
  simp only
  rw [show smV 0 [100, 97, 121] = 696239 by decide, it_day]; rfl
end Go.Proofs.YtbnjmkidbfmomaaGreatDoor
namespace Go.Proofs.YtbnjmkidbfmomaaGreatDoor
open Go.Sx Go.RowKit Go.Bt Go.Lib Go.Sand
theorem fill_i2 (a b : Int) : Instr.fill (fun i => some (i * 1, 1)) ((Array.range (2 * 1)).map ((Value.int .i64 0).cells[· % (Value.int .i64 0).cells.size]!)) [(0, .int .i64 a), (1, .int .i64 b)] = some #[.int .i64 a, .int .i64 b] := by kernel_rfl
theorem fill_s2 (p q : Option Addr) (k l m n : Nat) : Instr.fill (fun i => some (i * 1, 1)) ((Array.range (2 * 1)).map ((Value.slice none 0 0).cells[· % (Value.slice none 0 0).cells.size]!)) [(0, .slice p k l), (1, .slice q m n)] = some #[.slice p k l, .slice q m n] := by kernel_rfl
theorem fill_29 (a b c : Value) : Instr.fill ([(0, 1), (1, 2), (3, 1)][·]?) #[.slice none 0 0, .slice none 0 0, .slice none 0 0, .int .i64 0] [(0, .agg #[a]), (1, .agg #[b, c]), (2, .int .i64 2)] = some #[a, b, c, .int .i64 2] := by kernel_rfl
structure TwB where
  w1 : Nat
  w2 : Nat
  w : Nat
  k1 : Nat
  k2 : Nat
  k : Nat
  g : Nat
abbrev sl2 (b : Nat) : Value := .slice (some ⟨b, 0, none⟩) 2 2
def twD (y : TwB) : Heap := [(y.g, .cells #[.int .i64 1, .int .i64 1] 3 (0, 0)), (y.k, .cells #[sl2 y.k1, sl2 y.k2] 25 (0, 0)), (y.k2, .cells #[.int .i64 1, .int .i64 0] 3 (0, 0)), (y.k1, .cells #[.int .i64 0, .int .i64 1] 3 (0, 0)), (y.w, .cells #[sl2 y.w1, sl2 y.w2] 25 (0, 0)), (y.w2, .cells #[.int .i64 3, .int .i64 4] 3 (0, 0)), (y.w1, .cells #[.int .i64 1, .int .i64 2] 3 (0, 0))]
theorem tw_w {w0 w : World} {G : Heap} {y : TwB} (hn : New w0 w G) (hm : ∀ x ∈ twD y, x ∈ G) : LsAt w (some ⟨y.w, 0, none⟩) [[1, 2], [3, 4]] :=
  H.LsAt.two (xs := [1, 2]) (ys := [3, 4]) hn (hm _ (.tail _ (.tail _ (.tail _ (.tail _ (.head _)))))) (IntsAt.arr hn (hm _ (.tail _ (.tail _ (.tail _ (.tail _ (.tail _ (.tail _ (.head _))))))))) (IntsAt.arr hn (hm _ (.tail _ (.tail _ (.tail _ (.tail _ (.tail _ (.head _))))))))
theorem tw_k {w0 w : World} {G : Heap} {y : TwB} (hn : New w0 w G) (hm : ∀ x ∈ twD y, x ∈ G) : LsAt w (some ⟨y.k, 0, none⟩) [[0, 1], [1, 0]] :=
  H.LsAt.two (xs := [0, 1]) (ys := [1, 0]) hn (hm _ (.tail _ (.head _))) (IntsAt.arr hn (hm _ (.tail _ (.tail _ (.tail _ (.head _)))))) (IntsAt.arr hn (hm _ (.tail _ (.tail _ (.head _)))))
theorem tw_g {w0 w : World} {G : Heap} {y : TwB} (hn : New w0 w G) (hm : ∀ x ∈ twD y, x ∈ G) : IntsAt w (some ⟨y.g, 0, none⟩) [1, 1] :=
  IntsAt.arr hn (hm _ (.head _))
theorem sa_kl (k : Nat) : (([[0, 1], [1, 0]] : List (List Int)).getD k []).length ≤ 1000000 := by
  rcases k with _ | _ | k <;> simp [List.getD]
theorem Do_is (w0 w : World) (hW : WAt w0) (s : St) (hv : SV s) (u : SU) (c : Co) (v : TV) (hi : Inv s c) (b : Nat) (ho : HD) (hgo : goR stR ho c.ords) (Z : Heap) (hN : New w0 w (coB b s u 0 c v ho :: (gbR stR 9 ho c.ords ++ Z))) (Zf : Heap) (hZf : List.Sublist Zf Z) (hS : ∀ w9, New w0 w9 Zf → SiteAt w9 s u) (hT : ∀ w9, New w0 w9 Zf → TurAt w9 c v) (t : List UInt8) (ht : t.length ≤ 1000000) (e : Int) (he : doI s c t = e) :
    Calls Tryz.prog 18 #[.pointer (some ⟨b, 0, none⟩), str t] w (Post (X := TV × HD × Heap) (fun _ => .int .i64 e) (fun y => goR stR y.2.1 (doC s c t).ords ∧ ∀ w9, New w0 w9 (y.2.2 ++ Zf) → TurAt w9 (doC s c t) y.1) (fun y => coB b s u 0 (doC s c t) y.1 y.2.1 :: (gbR stR 9 y.2.1 (doC s c t).ords ++ (y.2.2 ++ Z))) w0) := by
  subst he
  exact Do_ok w0 w hW s hv u c v hi b ho hgo Z hN Zf hZf hS hT t ht
theorem strs_one {w0 w : World} {G : Heap} {b : Nat} {t : List UInt8} (hn : New w0 w G) (hm : (b, Obj.cells #[str t] 9 (0, 0)) ∈ G) : StrsAt w (some ⟨b, 0, none⟩) [t] := fun j hj => by
  have : j = 0 := by simp at hj; omega
  subst this
  exact ⟨_, rfl, hn.cell hm rfl⟩
theorem Write_day (w0 : World) (hW : WAt w0) (p : Option Addr) (c : Nat) (hL : StrsAt w0 p [[100, 97, 121]]) :
    Calls Tryz.prog 48 #[.slice p 1 c] w0 (Post (X := Unit) (fun _ => .tuple #[str [54, 57, 54, 50, 51, 57, 32, 100, 97, 121, 10], .int .i64 0]) (fun _ => True) (fun _ => []) w0) := by
  have h := Write_ok w0 hW p c [[100, 97, 121]] hL (by decide) (fun j => by rcases j with _ | j <;> simp [List.getD])
  rw [wr_day.1, wr_day.2] at h
  exact h
theorem two_ok (w0 : World) :
    Calls Tryz.prog 71 #[] w0 (Post (X := TwB) (fun y => .agg #[sl2 y.w, sl2 y.k, sl2 y.g, .int .i64 2]) (fun _ => True) (twD) w0) := by
  refine calls Tryz.func71 rfl (n := 11) rfl (by simp) ?_
  refine zr (TL.alloc Tb.zero_29 rfl dc (fun b0 hb0 => ?_))
  refine zk (TL.buildSlice rfl Tb.sl_25 Tb.zi_3 dc (fill_i2 _ _) dc rfl dc (fun bw1 hbw1 => ?_))
  refine TL.buildSlice rfl Tb.sl_25 Tb.zi_3 dc (fill_i2 _ _) dc rfl dc (fun bw2 hbw2 => ?_)
  refine TL.buildSlice rfl Tb.sl_22 Tb.zi_25 dc (fill_s2 _ _ _ _ _ _) dc rfl dc (fun bw hbw => ?_)
  refine zq (PV.build rfl Tb.zero_24 Tb.pl_24 (fill_241 _ _ _)) rfl ?_
  refine TL.buildSlice rfl Tb.sl_25 Tb.zi_3 dc (fill_i2 _ _) dc rfl dc (fun bk1 hbk1 => ?_)
  refine TL.buildSlice rfl Tb.sl_25 Tb.zi_3 dc (fill_i2 _ _) dc rfl dc (fun bk2 hbk2 => ?_)
  refine TL.buildSlice rfl Tb.sl_22 Tb.zi_25 dc (fill_s2 _ _ _ _ _ _) dc rfl dc (fun bk hbk => ?_)
  refine TL.buildSlice rfl Tb.sl_25 Tb.zi_3 dc (fill_i2 _ _) dc rfl dc (fun bg hbg => ?_)
  refine zq (PV.build rfl Tb.zero_27 Tb.pl_27 (fill_27 _ _ _ _ _ _)) rfl ?_
  refine zq (PV.build rfl Tb.zero_29 Tb.pl_29 (fill_29 _ _ _)) rfl ?_
  refine TL.storeAgg (vs := [sl2 bw, sl2 bk, sl2 bg, .int .i64 2]) rfl rfl Tb.cells_29 u9z rfl rfl rfl rfl rfl ?_
  refine zt (TQ.retR rfl (Res.agg rfl Tb.agg_29 m9z rfl Res.nil) ?_)
  simp only [tup]
  exact ⟨⟨bw1, bw2, bw, bk1, bk2, bk, bg⟩, rfl, trivial, by unfold twD; repeat (first | exact List.Sublist.slnil | exact List.nil_sublist _ | exact List.Sublist.refl _ | refine List.Sublist.cons_cons _ ?_ | refine List.Sublist.cons _ ?_ | refine List.Sublist.trans ?_ (List.sublist_append_right _ _))⟩
set_option maxHeartbeats 4000000 in
theorem sane_ok (w0 : World) (hW : WAt w0) :
    Calls Tryz.prog 31 #[] w0 (Post (X := Unit) (fun _ => .bool true) (fun _ => True) (fun _ => []) w0) := by
  refine calls Tryz.func31 rfl (n := 67) rfl (by simp) ?_
  refine zr (za rfl (zk (TL.call rfl Tb.gofn_71 (fun a w hs => two_ok w) rfl dc (fun y _ => ?_))))
  refine TL.alloc Tb.zero_29 rfl dc (fun b0 hb0 => ?_)
  refine TL.storeAgg (vs := [sl2 y.w, sl2 y.k, sl2 y.g, .int .i64 2]) rfl rfl Tb.cells_29 u9z rfl rfl rfl rfl rfl ?_
  refine zk (zq (PV.fieldAddr rfl Tb.fo_29_0) rfl (zq (PV.loadMid (cs := [sl2 y.w, sl2 y.k, sl2 y.g, .int .i64 2]) (off := 0) (k := 1) (vs := [sl2 y.w]) rfl Tb.agg_24 m9z rfl rfl) rfl ?_))
  refine zq (PV.fieldAddr rfl Tb.fo_29_1) rfl (zq (PV.loadMid (cs := [sl2 y.w, sl2 y.k, sl2 y.g, .int .i64 2]) (off := 1) (k := 2) (vs := [sl2 y.k, sl2 y.g]) rfl Tb.agg_27 m9z rfl rfl) rfl ?_)
  refine zq (PV.fieldAddr rfl Tb.fo_29_2) rfl (zq (PV.load (v := .int .i64 2) rfl Tb.one_3 m9z rfl) rfl ?_)
  refine TL.call rfl Tb.gofn_59 (fun a w hs => New_y w (some ⟨y.w, 0, none⟩) 2 [[1, 2], [3, 4]] (tw_w hs.new (fun x hx => by first | exact List.mem_append_left _ hx | exact .tail _ (List.mem_append_left _ hx) | exact .tail _ (.tail _ (List.mem_append_left _ hx)) | exact .tail _ hx | exact hx)) (some ⟨y.k, 0, none⟩) 2 [[0, 1], [1, 0]] (tw_k hs.new (fun x hx => by first | exact List.mem_append_left _ hx | exact .tail _ (List.mem_append_left _ hx) | exact .tail _ (.tail _ (List.mem_append_left _ hx)) | exact .tail _ hx | exact hx)) sa_kl (some ⟨y.g, 0, none⟩) 2 [1, 1] (tw_g hs.new (fun x hx => by first | exact List.mem_append_left _ hx | exact .tail _ (List.mem_append_left _ hx) | exact .tail _ (.tail _ (List.mem_append_left _ hx)) | exact .tail _ hx | exact hx)) (by decide) 2 sa_new) rfl (by decide) (fun yn hyn => ?_)
  refine zm rfl (zq (PV.extract rfl rfl) rfl (zq (PV.extract rfl rfl) rfl (za rfl (za rfl (zn (TC.seq (zr (zm rfl (zq (PV.neq rfl rfl) rfl (zm rfl (zm rfl (zq (PV.eqPtr rfl) rfl (zq (PV.pickF rfl rfl) rfl (zn (TC.condF rfl (TC.skip (TQ.thenC (TC.seq (zr (zm rfl (TL.callW (X := TV × HD × Heap) (fun _ => .int .i64 8) (fun y9 => goR stR y9.2.1 (doC saS (co0 saS) tW).ords ∧ ∀ w9, New w0 w9 (y9.2.2 ++ yn.2.2.2) → TurAt w9 (doC saS (co0 saS) tW) y9.1) (fun y9 => coB yn.1 saS yn.2.1 0 (doC saS (co0 saS) tW) y9.1 y9.2.1 :: (gbR stR 9 y9.2.1 (doC saS (co0 saS) tW).ords ++ (y9.2.2 ++ (yn.2.2.2 ++ ((b0, Obj.cells #[sl2 y.w, sl2 y.k, sl2 y.g, .int .i64 2] 29 (0, 0)) :: (twD y ++ [])))))) rfl Tb.gofn_18 (fun a w hs => Do_is w0 w (hW) saS sa_sv yn.2.1 (co0 saS) yn.2.2.1 (Inv.zero sa_sv) yn.1 none ⟨rfl, rfl⟩ (yn.2.2.2 ++ ((b0, Obj.cells #[sl2 y.w, sl2 y.k, sl2 y.g, .int .i64 2] 29 (0, 0)) :: (twD y ++ []))) hs.new yn.2.2.2 (List.sublist_append_left _ _) (fun w9 h9 => (hyn w0 w9 h9).1) (fun w9 h9 => (hyn w0 w9 h9).2) tW dc 8 sa_1) rfl dc (fun d1 hd1 => ?_))))))))))))))))))))))
  have hZ1 : List.Sublist yn.2.2.2 (yn.2.2.2 ++ ((b0, Obj.cells #[sl2 y.w, sl2 y.k, sl2 y.g, .int .i64 2] 29 (0, 0)) :: (twD y ++ []))) := List.sublist_append_left _ _
  have hY1 : List.Sublist yn.2.2.2 (d1.2.2 ++ yn.2.2.2) := List.sublist_append_right _ _
  refine zq (PV.neq rfl rfl) rfl (zm rfl (zm rfl (TL.callW (X := TV × HD × Heap) (fun _ => .int .i64 0) (fun y9 => goR stR y9.2.1 (doC saS sa1 tC0).ords ∧ ∀ w9, New w0 w9 (y9.2.2 ++ (d1.2.2 ++ yn.2.2.2)) → TurAt w9 (doC saS sa1 tC0) y9.1) (fun y9 => coB yn.1 saS yn.2.1 0 (doC saS sa1 tC0) y9.1 y9.2.1 :: (gbR stR 9 y9.2.1 (doC saS sa1 tC0).ords ++ (y9.2.2 ++ (d1.2.2 ++ (yn.2.2.2 ++ ((b0, Obj.cells #[sl2 y.w, sl2 y.k, sl2 y.g, .int .i64 2] 29 (0, 0)) :: (twD y ++ []))))))) rfl Tb.gofn_18 (fun a w hs => Do_is w0 w (hW) saS sa_sv yn.2.1 sa1 d1.1 in_1 yn.1 d1.2.1 hd1.1 (d1.2.2 ++ (yn.2.2.2 ++ ((b0, Obj.cells #[sl2 y.w, sl2 y.k, sl2 y.g, .int .i64 2] 29 (0, 0)) :: (twD y ++ [])))) hs.new (d1.2.2 ++ yn.2.2.2) (List.Sublist.append_left (hZ1) _) (fun w9 h9 => (hyn w0 w9 (h9.sub (hY1))).1) hd1.2 tC0 dc 0 kn_2.1) rfl dc (fun d2 hd2 => ?_))))
  have hZ2 : List.Sublist (d1.2.2 ++ yn.2.2.2) (d1.2.2 ++ (yn.2.2.2 ++ ((b0, Obj.cells #[sl2 y.w, sl2 y.k, sl2 y.g, .int .i64 2] 29 (0, 0)) :: (twD y ++ [])))) := List.Sublist.append_left hZ1 _
  have hY2 : List.Sublist yn.2.2.2 (d2.2.2 ++ (d1.2.2 ++ yn.2.2.2)) := hY1.trans (List.sublist_append_right _ _)
  refine zq (PV.neq rfl rfl) rfl (zq (PV.pickF rfl rfl) rfl (zm rfl (zm rfl (TL.callW (X := TV × HD × Heap) (fun _ => .int .i64 6) (fun y9 => goR stR y9.2.1 (doC saS sa2 tC0).ords ∧ ∀ w9, New w0 w9 (y9.2.2 ++ (d2.2.2 ++ (d1.2.2 ++ yn.2.2.2))) → TurAt w9 (doC saS sa2 tC0) y9.1) (fun y9 => coB yn.1 saS yn.2.1 0 (doC saS sa2 tC0) y9.1 y9.2.1 :: (gbR stR 9 y9.2.1 (doC saS sa2 tC0).ords ++ (y9.2.2 ++ (d2.2.2 ++ (d1.2.2 ++ (yn.2.2.2 ++ ((b0, Obj.cells #[sl2 y.w, sl2 y.k, sl2 y.g, .int .i64 2] 29 (0, 0)) :: (twD y ++ [])))))))) rfl Tb.gofn_18 (fun a w hs => Do_is w0 w (hW) saS sa_sv yn.2.1 sa2 d2.1 in_2 yn.1 d2.2.1 hd2.1 (d2.2.2 ++ (d1.2.2 ++ (yn.2.2.2 ++ ((b0, Obj.cells #[sl2 y.w, sl2 y.k, sl2 y.g, .int .i64 2] 29 (0, 0)) :: (twD y ++ []))))) hs.new (d2.2.2 ++ (d1.2.2 ++ yn.2.2.2)) (List.Sublist.append_left (hZ2) _) (fun w9 h9 => (hyn w0 w9 (h9.sub (hY2))).1) hd2.2 tC0 dc 6 sa_3) rfl dc (fun d3 hd3 => ?_)))))
  have hZ3 : List.Sublist (d2.2.2 ++ (d1.2.2 ++ yn.2.2.2)) (d2.2.2 ++ (d1.2.2 ++ (yn.2.2.2 ++ ((b0, Obj.cells #[sl2 y.w, sl2 y.k, sl2 y.g, .int .i64 2] 29 (0, 0)) :: (twD y ++ []))))) := List.Sublist.append_left hZ2 _
  have hY3 : List.Sublist yn.2.2.2 (d3.2.2 ++ (d2.2.2 ++ (d1.2.2 ++ yn.2.2.2))) := hY2.trans (List.sublist_append_right _ _)
  refine zq (PV.neq rfl rfl) rfl (zq (PV.pickF rfl rfl) rfl (zm rfl (zm rfl (TL.callW (X := TV × HD × Heap) (fun _ => .int .i64 0) (fun y9 => goR stR y9.2.1 (doC saS sa3 tC1).ords ∧ ∀ w9, New w0 w9 (y9.2.2 ++ (d3.2.2 ++ (d2.2.2 ++ (d1.2.2 ++ yn.2.2.2)))) → TurAt w9 (doC saS sa3 tC1) y9.1) (fun y9 => coB yn.1 saS yn.2.1 0 (doC saS sa3 tC1) y9.1 y9.2.1 :: (gbR stR 9 y9.2.1 (doC saS sa3 tC1).ords ++ (y9.2.2 ++ (d3.2.2 ++ (d2.2.2 ++ (d1.2.2 ++ (yn.2.2.2 ++ ((b0, Obj.cells #[sl2 y.w, sl2 y.k, sl2 y.g, .int .i64 2] 29 (0, 0)) :: (twD y ++ []))))))))) rfl Tb.gofn_18 (fun a w hs => Do_is w0 w (hW) saS sa_sv yn.2.1 sa3 d3.1 in_3 yn.1 d3.2.1 hd3.1 (d3.2.2 ++ (d2.2.2 ++ (d1.2.2 ++ (yn.2.2.2 ++ ((b0, Obj.cells #[sl2 y.w, sl2 y.k, sl2 y.g, .int .i64 2] 29 (0, 0)) :: (twD y ++ [])))))) hs.new (d3.2.2 ++ (d2.2.2 ++ (d1.2.2 ++ yn.2.2.2))) (List.Sublist.append_left (hZ3) _) (fun w9 h9 => (hyn w0 w9 (h9.sub (hY3))).1) hd3.2 tC1 dc 0 kn_4.1) rfl dc (fun d4 hd4 => ?_)))))
  have hZ4 : List.Sublist (d3.2.2 ++ (d2.2.2 ++ (d1.2.2 ++ yn.2.2.2))) (d3.2.2 ++ (d2.2.2 ++ (d1.2.2 ++ (yn.2.2.2 ++ ((b0, Obj.cells #[sl2 y.w, sl2 y.k, sl2 y.g, .int .i64 2] 29 (0, 0)) :: (twD y ++ [])))))) := List.Sublist.append_left hZ3 _
  have hY4 : List.Sublist yn.2.2.2 (d4.2.2 ++ (d3.2.2 ++ (d2.2.2 ++ (d1.2.2 ++ yn.2.2.2)))) := hY3.trans (List.sublist_append_right _ _)
  refine zq (PV.neq rfl rfl) rfl (zq (PV.pickF rfl rfl) rfl (zm rfl (zm rfl (TL.callW (X := TV × HD × Heap) (fun _ => .int .i64 0) (fun y9 => goR stR y9.2.1 (doC saS sa4 tC0).ords ∧ ∀ w9, New w0 w9 (y9.2.2 ++ (d4.2.2 ++ (d3.2.2 ++ (d2.2.2 ++ (d1.2.2 ++ yn.2.2.2))))) → TurAt w9 (doC saS sa4 tC0) y9.1) (fun y9 => coB yn.1 saS yn.2.1 0 (doC saS sa4 tC0) y9.1 y9.2.1 :: (gbR stR 9 y9.2.1 (doC saS sa4 tC0).ords ++ (y9.2.2 ++ (d4.2.2 ++ (d3.2.2 ++ (d2.2.2 ++ (d1.2.2 ++ (yn.2.2.2 ++ ((b0, Obj.cells #[sl2 y.w, sl2 y.k, sl2 y.g, .int .i64 2] 29 (0, 0)) :: (twD y ++ [])))))))))) rfl Tb.gofn_18 (fun a w hs => Do_is w0 w (hW) saS sa_sv yn.2.1 sa4 d4.1 in_4 yn.1 d4.2.1 hd4.1 (d4.2.2 ++ (d3.2.2 ++ (d2.2.2 ++ (d1.2.2 ++ (yn.2.2.2 ++ ((b0, Obj.cells #[sl2 y.w, sl2 y.k, sl2 y.g, .int .i64 2] 29 (0, 0)) :: (twD y ++ []))))))) hs.new (d4.2.2 ++ (d3.2.2 ++ (d2.2.2 ++ (d1.2.2 ++ yn.2.2.2)))) (List.Sublist.append_left (hZ4) _) (fun w9 h9 => (hyn w0 w9 (h9.sub (hY4))).1) hd4.2 tC0 dc 0 kn_5.1) rfl dc (fun d5 hd5 => ?_)))))
  have hZ5 : List.Sublist (d4.2.2 ++ (d3.2.2 ++ (d2.2.2 ++ (d1.2.2 ++ yn.2.2.2)))) (d4.2.2 ++ (d3.2.2 ++ (d2.2.2 ++ (d1.2.2 ++ (yn.2.2.2 ++ ((b0, Obj.cells #[sl2 y.w, sl2 y.k, sl2 y.g, .int .i64 2] 29 (0, 0)) :: (twD y ++ []))))))) := List.Sublist.append_left hZ4 _
  have hY5 : List.Sublist yn.2.2.2 (d5.2.2 ++ (d4.2.2 ++ (d3.2.2 ++ (d2.2.2 ++ (d1.2.2 ++ yn.2.2.2))))) := hY4.trans (List.sublist_append_right _ _)
  refine zq (PV.neq rfl rfl) rfl (zq (PV.pickF rfl rfl) rfl (zn (TC.condF rfl (TC.skip (TQ.thenC (zr (TL.buildSlice (cs := #[str [100, 97, 121]]) rfl Tb.sl_43 Tb.zi_9 dc (fill_s [100, 97, 121]) dc rfl dc (fun bI hbI => ?_))))))))
  refine TL.call rfl Tb.gofn_48 (fun a w hs => Write_day w (hW.new hs.new) (some ⟨bI, 0, none⟩) 1 (strs_one hs.new m9z)) rfl dc (fun _ _ => ?_)
  refine zm rfl (zq (PV.extract rfl rfl) rfl (zq (PV.extract rfl rfl) rfl (za rfl (za rfl (zn (TC.seq (TC.sub (G' := coB yn.1 saS yn.2.1 0 sa5 d5.1 d5.2.1 :: (gbR stR 9 d5.2.1 sa5.ords ++ (d5.2.2 ++ (d4.2.2 ++ (d3.2.2 ++ (d2.2.2 ++ (d1.2.2 ++ (yn.2.2.2 ++ ((b0, Obj.cells #[sl2 y.w, sl2 y.k, sl2 y.g, .int .i64 2] 29 (0, 0)) :: (twD y ++ [])))))))))) (List.Sublist.cons _ (List.Sublist.refl _)) ?_)))))))
  refine TC.region (zm rfl (TL.callW (X := Unit) (fun _ => .int .i64 6) (fun _ => True) (fun _ => coB yn.1 saS yn.2.1 0 sa5 d5.1 d5.2.1 :: (gbR stR 9 d5.2.1 sa5.ords ++ (d5.2.2 ++ (d4.2.2 ++ (d3.2.2 ++ (d2.2.2 ++ (d1.2.2 ++ (yn.2.2.2 ++ ((b0, Obj.cells #[sl2 y.w, sl2 y.k, sl2 y.g, .int .i64 2] 29 (0, 0)) :: (twD y ++ [])))))))))) rfl Tb.gofn_21 (fun a w hs => (Money_ok w0 w saS sa_sv yn.2.1 sa5 d5.1 yn.1 d5.2.1 (gbR stR 9 d5.2.1 sa5.ords ++ (d5.2.2 ++ (d4.2.2 ++ (d3.2.2 ++ (d2.2.2 ++ (d1.2.2 ++ (yn.2.2.2 ++ ((b0, Obj.cells #[sl2 y.w, sl2 y.k, sl2 y.g, .int .i64 2] 29 (0, 0)) :: (twD y ++ []))))))))) hs.new).mono fun _ _ ⟨y9, e1, e2, e3⟩ => ⟨y9, by rw [e1]; exact congrArg (fun m => Ending.returned (Value.int .i64 m)) kn_5.2.mn, e2, e3⟩) rfl dc (fun _ _ => ?_)))
  refine zq (PV.eql rfl rfl) rfl (zm rfl (zm rfl (TL.callW (X := Unit) (fun _ => .int .i64 3) (fun _ => True) (fun _ => coB yn.1 saS yn.2.1 0 sa5 d5.1 d5.2.1 :: (gbR stR 9 d5.2.1 sa5.ords ++ (d5.2.2 ++ (d4.2.2 ++ (d3.2.2 ++ (d2.2.2 ++ (d1.2.2 ++ (yn.2.2.2 ++ ((b0, Obj.cells #[sl2 y.w, sl2 y.k, sl2 y.g, .int .i64 2] 29 (0, 0)) :: (twD y ++ [])))))))))) rfl Tb.gofn_22 (fun a w hs => (Cut_ok w0 w saS sa_sv yn.2.1 sa5 d5.1 yn.1 d5.2.1 (gbR stR 9 d5.2.1 sa5.ords ++ (d5.2.2 ++ (d4.2.2 ++ (d3.2.2 ++ (d2.2.2 ++ (d1.2.2 ++ (yn.2.2.2 ++ ((b0, Obj.cells #[sl2 y.w, sl2 y.k, sl2 y.g, .int .i64 2] 29 (0, 0)) :: (twD y ++ []))))))))) hs.new).mono fun _ _ ⟨y9, e1, e2, e3⟩ => ⟨y9, by rw [e1]; exact congrArg (fun m => Ending.returned (Value.int .i64 m)) kn_5.2.ct, e2, e3⟩) rfl dc (fun _ _ => ?_))))
  refine zq (PV.eql rfl rfl) rfl (zq (PV.pickT rfl rfl) rfl (zm rfl (zm rfl (zq (PV.eql rfl rfl) rfl (zq (PV.pickT rfl rfl) rfl (zm rfl (zm rfl (zq (PV.eqS rfl rfl) rfl (zq (PV.pickT rfl rfl) rfl (za rfl (zt (TQ.retE1 rfl rfl ?_))))))))))))
  exact ⟨(), rfl, trivial, nils⟩
end Go.Proofs.YtbnjmkidbfmomaaGreatDoor
namespace Go.Proofs.YtbnjmkidbfmomaaGreatDoor
open Go.Sx Go.RowKit Go.Bt Go.Lib Go.Sand
section
variable {P : Program} {n : Nat} {w0 : World} {E : Env} {G : Heap} {d : Option Nat} {ty : TypeId} {pos : String} {aft : Array Edge} {g : Option (Nat × Bool)} {o : Oper}
theorem PV.to {v v' : Value} (h : PV P n w0 E G o v) (e : v = v') : PV P n w0 E G o v' := e ▸ h
theorem PV.yes {p : Prop} [Decidable p] (h : PV P n w0 E G o (.bool (decide p))) (e : p) : PV P n w0 E G o (.bool true) := PV.to h (congrArg Value.bool (decide_eq_true e))
theorem PV.no {p : Prop} [Decidable p] (h : PV P n w0 E G o (.bool (decide p))) (e : ¬ p) : PV P n w0 E G o (.bool false) := PV.to h (congrArg Value.bool (decide_eq_false e))
end
theorem rd_100 (t : List UInt8) : (readL t).1.length ≤ 100 := (rd_sound 100 0 t).2.1
theorem long_no {L : List (List UInt8)} (h : ¬ longB L = true) : L.length ≤ 300 ∧ ∀ j, (L.getD j []).length ≤ 400 := by
  unfold longB at h
  rw [Bool.not_eq_true, Bool.or_eq_false_iff] at h
  have h2 := of_decide_eq_false h.2
  refine ⟨by omega, fun j => ?_⟩
  by_cases hj : j < L.length
  · have h3 := List.any_eq_false.1 h.1 L[j] (List.getElem_mem hj)
    have e : L.getD j [] = L[j] := by simp [List.getD, hj]
    rw [e]; simpa using h3
  · have e : L.getD j [] = [] := by rw [List.getD_eq_getElem?_getD, List.getElem?_eq_none (by omega)]; rfl
    rw [e]; exact Nat.zero_le _
theorem StrsAt.take {w : World} {p : Option Addr} {L : List (List UInt8)} (h : StrsAt w p L) (j : Nat) : StrsAt w p (L.take j) := fun k hk => by
  rw [List.length_take] at hk
  obtain ⟨q, h1, h2⟩ := h k (by omega)
  refine ⟨q, h1, ?_⟩
  rw [show (L.take j).getD k [] = L.getD k [] by simp [List.getD, List.getElem?_take, show k < j by omega]]
  exact h2
end Go.Proofs.YtbnjmkidbfmomaaGreatDoor
namespace Go.Proofs.YtbnjmkidbfmomaaGreatDoor
open Go.Sx Go.RowKit Go.Bt Go.Lib Go.Sand
def largeB (W K : List (List Int)) (g : List Int) : Bool := W.any (fun l => decide (50 < l.length)) || K.any (fun l => decide (50 < l.length)) || decide (50 < W.length) || decide (50 < K.length) || decide (50 < g.length)
theorem large_no {W K : List (List Int)} {g : List Int} (h : largeB W K g = false) : W.length ≤ 50 ∧ K.length ≤ 50 ∧ g.length ≤ 50 ∧ (∀ k, (W.getD k []).length ≤ 50) ∧ ∀ k, (K.getD k []).length ≤ 50 := by
  unfold largeB at h
  simp only [Bool.or_eq_false_iff, decide_eq_false_iff_not] at h
  obtain ⟨⟨⟨⟨h1, h2⟩, h3⟩, h4⟩, h5⟩ := h
  have row : ∀ (M : List (List Int)), M.any (fun l => decide (50 < l.length)) = false → ∀ k, (M.getD k []).length ≤ 50 := fun M hM k => by
    by_cases hk : k < M.length
    · have h9 := List.any_eq_false.1 hM M[k] (List.getElem_mem hk)
      have e : M.getD k [] = M[k] := by simp [List.getD, hk]
      rw [e]; simpa using h9
    · have e : M.getD k [] = [] := by rw [List.getD_eq_getElem?_getD, List.getElem?_eq_none (by omega)]; rfl
      rw [e]; exact Nat.zero_le _
  exact ⟨by omega, by omega, by omega, row W h1, row K h2⟩
theorem lg_1 {W K : List (List Int)} {g : List Int} {k : Nat} (hk : k < W.length) (h : 50 < (W.getD k []).length) : largeB W K g = true := by
  unfold largeB
  rw [any_yes (d := []) hk (decide_eq_true h)]; rfl
theorem lg_2 {W K : List (List Int)} {g : List Int} {k : Nat} (hk : k < K.length) (h : 50 < (K.getD k []).length) : largeB W K g = true := by
  unfold largeB
  rw [any_yes (L := K) (d := []) hk (decide_eq_true h), Bool.or_true]; rfl
theorem lg_3 {W K : List (List Int)} {g : List Int} (h1 : (W.take W.length).any (fun l => decide (50 < l.length)) = false) (h2 : (K.take K.length).any (fun l => decide (50 < l.length)) = false) : largeB W K g = (decide (50 < W.length) || decide (50 < K.length) || decide (50 < g.length)) := by
  rw [List.take_length] at h1 h2
  unfold largeB
  rw [h1, h2]; rfl
def cntI (h : List UInt8) : Int := match kdF h with | none => -1 | some (_, c) => (c : Int)
theorem num_of {a : List UInt8} {n : Nat} (hn : n < 1000) (h : itoa (n : Int) = a) : isNum a = true ∧ nv a = n := by
  rw [itoa_nat] at h
  subst h
  unfold isNum nv
  rw [numF_dec hn]; exact ⟨rfl, rfl⟩
theorem num_no {a : List UInt8} (h : ∀ n : Nat, n < 1000 → itoa (n : Int) ≠ a) : isNum a = false := by
  unfold isNum
  cases hf : numF a with
  | none => rfl
  | some n =>
    obtain ⟨h1, h2⟩ := numF_some hf
    exact absurd (by rw [itoa_nat]; exact h2.symm) (h n h1)
theorem nv_no {a : List UInt8} (h : isNum a = false) : nv a = 0 := by
  unfold isNum at h
  unfold nv
  cases hf : numF a with
  | none => rfl
  | some n => rw [hf] at h; cases h
theorem num_long {a : List UInt8} (h : 3 < a.length) : isNum a = false := by
  cases h9 : isNum a with
  | false => rfl
  | true => have := (num_word h9).1; omega
set_option maxHeartbeats 1000000 in
theorem Large_ok (w0 : World) (p : Option Addr) (cp : Nat) (W : List (List Int)) (hr : LsAt w0 p W) (q : Option Addr) (cq : Nat) (K : List (List Int)) (hk : LsAt w0 q K) (r : Option Addr) (cr : Nat) (g : List Int) (need : Int) (hW : W.length ≤ 9223372036854775807) (hK : K.length ≤ 9223372036854775807) :
    Calls Tryz.prog 30 #[.agg #[.slice p W.length cp, .slice q K.length cq, .slice r g.length cr, .int .i64 need]] w0 (Post (X := Unit) (fun _ => .bool (largeB W K g)) (fun _ => True) (fun _ => []) w0) := by
  refine calls Tryz.func30 rfl (n := 56) rfl (by simp) ?_
  refine zr (TL.box rfl rfl dc (fun b0 hb0 => ?_))
  refine za rfl (zn (TC.seq (zr (za rfl (zn (TC.block (TC.loopK [1] (X := Nat) (fun k => k ≤ W.length ∧ (W.take k).any (fun l => decide (50 < l.length)) = false) (fun k => [(3, .int .i64 (k : Nat))]) (fun k => [(b0, Obj.cells #[.slice p W.length cp, .slice q K.length cq, .slice r g.length cr, .int .i64 need] 29 (0, 0))]) (fun k => W.length - k) 0 ⟨Nat.zero_le _, rfl⟩ l9z (List.Sublist.refl _) ?_)))))))
  intro k hk9
  have hk1 := hk9.1
  refine TC.seq (zr (zm rfl (zq (PV.fieldAddr rfl Tb.fo_29_0) rfl (zq (PV.fieldAddr rfl Tb.fo_24_0) rfl (zq (PV.load rfl Tb.one_22 m9z rfl) rfl ?_)))))
  refine zq (PV.len rfl Tb.sl_22) rfl (zq (PV.lss rfl rfl) rfl (zn (TC.cd rfl (fun hlt => ?_) (fun hlt => ?_))))
  refine TC.skip (TQ.thenC (TC.seq (TC.block (TC.seq ?_))))
  obtain ⟨q1, q1p, pj, cj, q1c, q1i⟩ := hr k (by omega)
  refine TC.region (zq (PV.fieldAddr rfl Tb.fo_29_0) rfl (zq (PV.fieldAddr rfl Tb.fo_24_0) rfl (zq (PV.load rfl Tb.one_22 m9z rfl) rfl ?_)))
  refine zm rfl (zq (PV.indexA rfl q1p rfl Tb.elm_22 rfl om) rfl (zq (PV.loadOld rfl Tb.one_25 q1c) rfl (zq (PV.len rfl Tb.sl_25) rfl (zq (PV.gtr rfl rfl) rfl (zn (TC.cd rfl (fun hb => ?_) (fun hb => ?_)))))))
  refine zr (za rfl (zt (TQ.blkR (TQ.thenR (TQ.thenR (TQ.blkR (TQ.thenR (TQ.retE1 rfl rfl ?_))))))))
  exact ⟨(), by rw [lg_1 (k := k) (by omega) (by omega)], trivial, nils⟩
  refine TC.skip (TQ.blkN (TQ.thenC (TC.region (zm rfl (zq (PV.add rfl rfl om) rfl (za rfl (TL.nil (TQ.thenN (TQ.backK (k + 1) l9z l9z (List.Sublist.refl _) ⟨by omega, any_take_next (d := []) om hk9.2 (decide_eq_false om)⟩ om)))))))))
  refine TC.exit (TQ.thenE (TQ.thenE (TQ.blkS (TQ.thenC (TC.seq (TC.seq ?_))))))
  have hA := hk9.2
  have hAe : k = W.length := by omega
  rw [hAe] at hA
  clear hAe
  refine TC.region (za rfl (zn (TC.block (TC.loopK [1] (X := Nat) (fun k => k ≤ K.length ∧ (K.take k).any (fun l => decide (50 < l.length)) = false) (fun k => [(4, .int .i64 (k : Nat))]) (fun k => [(b0, Obj.cells #[.slice p W.length cp, .slice q K.length cq, .slice r g.length cr, .int .i64 need] 29 (0, 0))]) (fun k => K.length - k) 0 ⟨Nat.zero_le _, rfl⟩ l9z (List.Sublist.refl _) ?_))))
  intro k hk9
  have hk1 := hk9.1
  refine TC.seq (zr (zm rfl (zq (PV.fieldAddr rfl Tb.fo_29_1) rfl (zq (PV.fieldAddr rfl Tb.fo_27_0) rfl (zq (PV.load rfl Tb.one_22 m9z rfl) rfl ?_)))))
  refine zq (PV.len rfl Tb.sl_22) rfl (zq (PV.lss rfl rfl) rfl (zn (TC.cd rfl (fun hlt2 => ?_) (fun hlt2 => ?_))))
  refine TC.skip (TQ.thenC (TC.seq (TC.block (TC.seq ?_))))
  obtain ⟨q2, q2p, pj, cj, q2c, q2i⟩ := hk k (by omega)
  refine TC.region (zq (PV.fieldAddr rfl Tb.fo_29_1) rfl (zq (PV.fieldAddr rfl Tb.fo_27_0) rfl (zq (PV.load rfl Tb.one_22 m9z rfl) rfl ?_)))
  refine zm rfl (zq (PV.indexA rfl q2p rfl Tb.elm_22 rfl om) rfl (zq (PV.loadOld rfl Tb.one_25 q2c) rfl (zq (PV.len rfl Tb.sl_25) rfl (zq (PV.gtr rfl rfl) rfl (zn (TC.cd rfl (fun hb2 => ?_) (fun hb2 => ?_)))))))
  refine zr (za rfl (zt (TQ.blkR (TQ.thenR (TQ.thenR (TQ.blkR (TQ.thenR (TQ.retE1 rfl rfl ?_))))))))
  exact ⟨(), by rw [lg_2 (k := k) (by omega) (by omega)], trivial, nils⟩
  refine TC.skip (TQ.blkN (TQ.thenC (TC.region (zm rfl (zq (PV.add rfl rfl om) rfl (za rfl (TL.nil (TQ.thenN (TQ.backK (k + 1) l9z l9z (List.Sublist.refl _) ⟨by omega, any_take_next (d := []) om hk9.2 (decide_eq_false om)⟩ om)))))))))
  refine TC.exit (TQ.thenE (TQ.thenE (TQ.blkS (TQ.thenC (TC.seq ?_)))))
  have hB := hk9.2
  have hBe : k = K.length := by omega
  rw [hBe] at hB
  refine TC.region (zq (PV.fieldAddr rfl Tb.fo_29_0) rfl (zq (PV.fieldAddr rfl Tb.fo_24_0) rfl (zq (PV.load rfl Tb.one_22 m9z rfl) rfl ?_)))
  refine zq (PV.len rfl Tb.sl_22) rfl (zq (PV.gtr rfl rfl) rfl (zm rfl (TL.sp 42 rfl (fun g1 => ?_) (fun g1 => ?_))))
  refine zx rfl (zx rfl (zx rfl (zx rfl (zx rfl (zq (PV.pickT rfl rfl) rfl (zm rfl (zx rfl (zx rfl (zx rfl (zx rfl (zx rfl (zq (PV.pickT rfl rfl) rfl (za rfl (zt (TQ.retE1 rfl rfl ?_)))))))))))))))
  exact ⟨(), congrArg Value.bool (by rw [lg_3 hA hB, decide_eq_true (show 50 < W.length by omega)]; rfl), trivial, nils⟩
  refine zq (PV.fieldAddr rfl Tb.fo_29_1) rfl (zq (PV.fieldAddr rfl Tb.fo_27_0) rfl (zq (PV.load rfl Tb.one_22 m9z rfl) rfl ?_))
  refine zq (PV.len rfl Tb.sl_22) rfl (zq (PV.gtr rfl rfl) rfl (zq (PV.pickF rfl rfl) rfl (zm rfl (TL.sp 49 rfl (fun g2 => ?_) (fun g2 => ?_)))))
  refine zx rfl (zx rfl (zx rfl (zx rfl (zx rfl (zq (PV.pickT rfl rfl) rfl (za rfl (zt (TQ.retE1 rfl rfl ?_))))))))
  exact ⟨(), congrArg Value.bool (by rw [lg_3 hA hB, decide_eq_true (show 50 < K.length by omega), Bool.or_true]; rfl), trivial, nils⟩
  refine zq (PV.fieldAddr rfl Tb.fo_29_1) rfl (zq (PV.fieldAddr rfl Tb.fo_27_1) rfl (zq (PV.load rfl Tb.one_25 m9z rfl) rfl ?_))
  refine zq (PV.len rfl Tb.sl_25) rfl (zq (PV.gtr rfl rfl) rfl (zq (PV.pickF rfl rfl) rfl (za rfl (zt (TQ.retE1 rfl rfl ?_)))))
  exact ⟨(), congrArg Value.bool (by rw [lg_3 hA hB, decide_eq_false (show ¬ 50 < W.length by omega), decide_eq_false (show ¬ 50 < K.length by omega)]; show _ = (false || decide (50 < g.length)); rw [Bool.false_or]; exact decide_eq_decide.2 (by omega)), trivial, nils⟩
theorem count_ok (w0 : World) (L : List UInt8) :
    Calls Tryz.prog 113 #[str L] w0 (Post (X := Unit) (fun _ => .int .i64 (cntI L)) (fun _ => True) (fun _ => []) w0) := by
  refine calls Tryz.func113 rfl (n := 12) rfl (by simp) ?_
  refine zr (za rfl (zn (TC.seq (zr (zm rfl (zn (TC.block (TC.seq (zr (zq (PV.eqS (M := dayB) rfl rfl) rfl (za rfl (zn (TC.cd rfl (fun a1 => ?_) (fun a1 => ?_))))))))))))))
  refine TC.skip (TQ.thenC (TC.cd rfl (fun a1 => ?_) (fun a1 => ?_)))
  refine zr (za rfl (zt (TQ.blkR (TQ.thenR (TQ.retE1 rfl rfl ?_)))))
  exact ⟨(), congrArg (Value.int .i64) (by first | (subst_vars; decide) | (unfold cntI kdF; simp_all)), trivial, nils⟩
  refine zr (zq (PV.eqS (M := cutB) rfl rfl) rfl (za rfl (zn (TC.cd rfl (fun a2 => ?_) (fun a2 => ?_)))))
  refine zr (za rfl (zt (TQ.blkR (TQ.thenR (TQ.retE1 rfl rfl ?_)))))
  exact ⟨(), congrArg (Value.int .i64) (by first | (subst_vars; decide) | (unfold cntI kdF; simp_all)), trivial, nils⟩
  refine TC.seq (zr (zq (PV.eqS (M := loadB) rfl rfl) rfl (za rfl (zn (TC.cd rfl (fun a3 => ?_) (fun a3 => ?_))))))
  refine TC.skip (TQ.thenC (TC.cd rfl (fun a3 => ?_) (fun a3 => ?_)))
  refine zr (za rfl (zt (TQ.blkR (TQ.thenR (TQ.retE1 rfl rfl ?_)))))
  exact ⟨(), congrArg (Value.int .i64) (by first | (subst_vars; decide) | (unfold cntI kdF; simp_all)), trivial, nils⟩
  refine TC.skip (TQ.blkN (TQ.thenC (zr (za rfl (zt (TQ.retE1 rfl rfl ?_))))))
  exact ⟨(), congrArg (Value.int .i64) (by first | (subst_vars; decide) | (unfold cntI kdF; simp_all)), trivial, nils⟩
  refine TC.region (zq (PV.eqS (M := wetB) rfl rfl) rfl (za rfl (zn (TC.cd rfl (fun a3 => ?_) (fun a3 => ?_)))))
  refine zr (za rfl (zt (TQ.blkR (TQ.thenR (TQ.retE1 rfl rfl ?_)))))
  exact ⟨(), congrArg (Value.int .i64) (by first | (subst_vars; decide) | (unfold cntI kdF; simp_all)), trivial, nils⟩
  refine TC.skip (TQ.blkN (TQ.thenC (zr (za rfl (zt (TQ.retE1 rfl rfl ?_))))))
  exact ⟨(), congrArg (Value.int .i64) (by first | (subst_vars; decide) | (unfold cntI kdF; simp_all)), trivial, nils⟩
  refine TC.region (zq (PV.eqS (M := shutB) rfl rfl) rfl (za rfl (zn (TC.cd rfl (fun a1 => ?_) (fun a1 => ?_)))))
  refine zr (za rfl (zt (TQ.blkR (TQ.thenR (TQ.retE1 rfl rfl ?_)))))
  exact ⟨(), congrArg (Value.int .i64) (by first | (subst_vars; decide) | (unfold cntI kdF; simp_all)), trivial, nils⟩
  refine zr (zq (PV.eqS (M := cutB) rfl rfl) rfl (za rfl (zn (TC.cd rfl (fun a2 => ?_) (fun a2 => ?_)))))
  refine zr (za rfl (zt (TQ.blkR (TQ.thenR (TQ.retE1 rfl rfl ?_)))))
  exact ⟨(), congrArg (Value.int .i64) (by first | (subst_vars; decide) | (unfold cntI kdF; simp_all)), trivial, nils⟩
  refine TC.seq (zr (zq (PV.eqS (M := loadB) rfl rfl) rfl (za rfl (zn (TC.cd rfl (fun a3 => ?_) (fun a3 => ?_))))))
  refine TC.skip (TQ.thenC (TC.cd rfl (fun a3 => ?_) (fun a3 => ?_)))
  refine zr (za rfl (zt (TQ.blkR (TQ.thenR (TQ.retE1 rfl rfl ?_)))))
  exact ⟨(), congrArg (Value.int .i64) (by first | (subst_vars; decide) | (unfold cntI kdF; simp_all)), trivial, nils⟩
  refine TC.skip (TQ.blkN (TQ.thenC (zr (za rfl (zt (TQ.retE1 rfl rfl ?_))))))
  exact ⟨(), congrArg (Value.int .i64) (by first | (subst_vars; decide) | (unfold cntI kdF; simp_all)), trivial, nils⟩
  refine TC.region (zq (PV.eqS (M := wetB) rfl rfl) rfl (za rfl (zn (TC.cd rfl (fun a3 => ?_) (fun a3 => ?_)))))
  refine zr (za rfl (zt (TQ.blkR (TQ.thenR (TQ.retE1 rfl rfl ?_)))))
  exact ⟨(), congrArg (Value.int .i64) (by first | (subst_vars; decide) | (unfold cntI kdF; simp_all)), trivial, nils⟩
  refine TC.skip (TQ.blkN (TQ.thenC (zr (za rfl (zt (TQ.retE1 rfl rfl ?_))))))
  exact ⟨(), congrArg (Value.int .i64) (by first | (subst_vars; decide) | (unfold cntI kdF; simp_all)), trivial, nils⟩
theorem number_ok (w0 : World) (hW : WAt w0) (L : List UInt8) :
    Calls Tryz.prog 114 #[str L] w0 (Post (X := Unit) (fun _ => .tuple #[.int .i64 (nv L), .bool (isNum L)]) (fun _ => True) (fun _ => []) w0) := by
  refine calls Tryz.func114 rfl (n := 19) rfl (by simp) ?_
  refine zr (za rfl (za rfl (zn (TC.seq (zr (za rfl (zn (TC.block (TC.loopK [0] (X := Nat) (fun k => k ≤ 1000 ∧ ∀ n : Nat, n < k → itoa (n : Int) ≠ L) (fun k => [(4, .int .i64 (k : Nat))]) (fun k => []) (fun k => 1000 - k) 0 ⟨Nat.zero_le _, fun j hj => absurd hj (Nat.not_lt_zero _)⟩ l9z s9z ?_)))))))))
  intro k hk
  have hk1 := hk.1
  refine TC.seq (zr (zm rfl (zq (PV.leq rfl rfl) rfl (zm rfl (TL.sp 7 rfl (fun h9 => ?_) (fun h9 => ?_))))))
  refine zm rfl (zq (PV.lenS rfl Tb.str_9) rfl (zq (PV.leq rfl rfl) rfl (zq (PV.pickT rfl rfl) rfl (zn (TC.cd rfl (fun h3 => ?_) (fun h3 => ?_))))))
  refine TC.skip (TQ.thenC (TC.seq (TC.block (zr (zm rfl (TL.call rfl Tb.gofn_78 (fun a w hs => itoa_ok w (hW.new hs.new) (k : Int) om om) rfl dc (fun _ _ => ?_)))))))
  refine zm rfl (zq (PV.eqS rfl rfl) rfl (zn (TC.cd rfl (fun he => ?_) (fun he => ?_))))
  refine zr (zm rfl (za rfl (za rfl (zt (TQ.blkR (TQ.thenR (TQ.thenR (TQ.blkR (TQ.thenR (TQ.retE2 rfl rfl rfl ?_))))))))))
  exact ⟨(), by rw [(num_of (n := k) (by omega) he).1, (num_of (n := k) (by omega) he).2], trivial, nils⟩
  refine TC.skip (TQ.blkN (TQ.thenC (TC.region (zm rfl (zq (PV.add rfl rfl om) rfl (za rfl (TL.nil (TQ.thenN (TQ.backK (k + 1) l9z l9z s9z ⟨by omega, fun j hj => if e : j < k then hk.2 j e else (show k = j by omega) ▸ he⟩ om)))))))))
  refine TC.exit (TQ.thenE (TQ.thenE (TQ.blkS (TQ.thenC (zr (za rfl (za rfl (zt (TQ.retE2 rfl rfl rfl ?_)))))))))
  have hN : isNum L = false := by first | exact num_long (by omega) | exact num_no (fun n hn => hk.2 n (by omega))
  exact ⟨(), by rw [hN, nv_no hN], trivial, nils⟩
  refine zx rfl (zx rfl (zx rfl (zq (PV.pickF rfl rfl) rfl (zn (TC.condF rfl (TC.exit (TQ.thenE (TQ.thenE (TQ.blkS (TQ.thenC (zr (za rfl (za rfl (zt (TQ.retE2 rfl rfl rfl ?_)))))))))))))))
  have hN : isNum L = false := by first | exact num_long (by omega) | exact num_no (fun n hn => hk.2 n (by omega))
  exact ⟨(), by rw [hN, nv_no hN], trivial, nils⟩
end Go.Proofs.YtbnjmkidbfmomaaGreatDoor
namespace Go.Proofs.YtbnjmkidbfmomaaGreatDoor
open Go.Sx Go.RowKit Go.Bt Go.Lib Go.Sand
theorem CpA.next {m : List (List Int)} {k : Nat} {rs : List RW} (hk : k < m.length) (h : rs.map RW.l = m.take k) {hh : HD} : (rs ++ [(⟨hh, m.getD k []⟩ : RW)]).map RW.l = m.take (k + 1) := by
  rw [List.map_append, h, List.take_succ_eq_append_getElem hk]
  simp [List.getD, hk]
theorem rwB_one (r : RW) : rwB [r] = gbI (r.h, r.l) := by simp [rwB]
theorem fill_gv (h : HD) (n : Nat) : Instr.fill (fun i => some (i * 1, 1)) ((Array.range (1 * 1)).map ((Value.slice none 0 0).cells[· % (Value.slice none 0 0).cells.size]!)) [(0, gval h n)] = some #[gval h n] := by
  cases h with
  | none => kernel_rfl
  | some x => obtain ⟨b, c, sp⟩ := x; kernel_rfl
theorem rwOk.app {rs : List RW} (h : rwOk rs) {r : RW} (hr : goI (r.h, r.l)) : rwOk (rs ++ [r]) := fun x hx => by
  rcases List.mem_append.1 hx with h1 | h1
  · exact h x h1
  · rw [List.mem_singleton.1 h1]; exact hr
theorem total_ok (w0 : World) (p : Option Addr) (c : Nat) (xs : List Int) (hx : IntsAt w0 p xs) (hl : xs.length ≤ 1000000) (hb : ∀ k, -1000000 ≤ xs.getD k 0 ∧ xs.getD k 0 ≤ 1000000) :
    Calls Tryz.prog 120 #[.slice p xs.length c] w0 (Post (X := Unit) (fun _ => .int .i64 (sL xs)) (fun _ => True) (fun _ => []) w0) := by
  refine calls Tryz.func120 rfl (n := 18) rfl (by simp) ?_
  refine zr (za rfl (zk (za rfl (zn (TC.seq (zr (za rfl (zn (TC.block (TC.loopK [0, 2] (X := Nat) (fun k => k ≤ xs.length ∧ -1000000 * (k : Int) ≤ (sm k fun j => xs.getD j 0) ∧ (sm k fun j => xs.getD j 0) ≤ 1000000 * (k : Int)) (fun k => [(4, .int .i64 (k : Nat)), (3, .int .i64 (sm k fun j => xs.getD j 0))]) (fun k => []) (fun k => xs.length - k) 0 ⟨Nat.zero_le _, by simp [Sand.sm], by simp [Sand.sm]⟩ l9z s9z ?_))))))))))
  intro k hk
  have hk1 := hk.1
  have hk2 := hk.2.1
  have hk3 := hk.2.2
  refine TC.seq (zr (zm rfl (zm rfl (zq (PV.len rfl Tb.sl_25) rfl (zq (PV.lss rfl rfl) rfl (zn (TC.cd rfl (fun hlt => ?_) (fun hlt => ?_))))))))
  refine TC.skip (TQ.thenC (TC.seq (TC.block ?_)))
  obtain ⟨q, qp, qv⟩ := hx k (by omega)
  have h1 := hb k
  refine TC.region (zm rfl (zm rfl (zm rfl (zq (PV.indexA rfl qp rfl Tb.elm_25 rfl om) rfl (zq (PV.loadOld rfl Tb.one_3 qv) rfl (zq (PV.add rfl rfl om) rfl (za rfl (TL.nil (TQ.blkN (TQ.thenC (TC.region (zm rfl (zq (PV.add rfl rfl om) rfl (za rfl (TL.nil (TQ.thenN (TQ.backK (k + 1) l9z l9z s9z ⟨by omega, by show _ ≤ (sm k fun j => xs.getD j 0) + xs.getD k 0; push_cast; omega, by show (sm k fun j => xs.getD j 0) + xs.getD k 0 ≤ _; push_cast; omega⟩ om)))))))))))))))))
  refine TC.exit (TQ.thenE (TQ.thenE (TQ.blkS (TQ.thenC (zr (zm rfl (za rfl (zt (TQ.retE1 rfl rfl ?_)))))))))
  have hke : k = xs.length := by omega
  exact ⟨(), by unfold sL; rw [hke], trivial, nils⟩
set_option maxHeartbeats 1000000 in
theorem Copy_ok (w0 : World) (p : Option Addr) (cp : Nat) (m : List (List Int)) (hr : LsAt w0 p m) (hml : m.length ≤ 1000) (hM : ∀ k, (m.getD k []).length ≤ 1000000) :
    Calls Tryz.prog 89 #[.agg #[.slice p m.length cp]] w0 (Post (X := HD × List RW) (fun y => .agg #[gval y.1 m.length]) (fun y => goR rwR y.1 y.2 ∧ rwOk y.2 ∧ y.2.map RW.l = m) (fun y => gbR rwR 25 y.1 y.2 ++ rwB y.2) w0) := by
  refine calls Tryz.func89 rfl (n := 25) rfl (by simp) ?_
  refine zr (TL.box rfl rfl dc (fun b0 hb0 => ?_))
  refine TL.alloc Tb.zero_24 rfl dc (fun b1 hb1 => ?_)
  refine zk (TL.alloc Tb.zero_24 rfl dc (fun b2 hb2 => ?_))
  refine zn (TC.seq (zr (za rfl (zn (TC.block (TC.loopK [1, 2, 3] (X := Nat × HD × List RW) (fun x => x.1 ≤ m.length ∧ goR rwR x.2.1 x.2.2 ∧ rwOk x.2.2 ∧ x.2.2.map RW.l = m.take x.1) (fun x => [(4, .int .i64 (x.1 : Nat))]) (fun x => (b2, Obj.cells #[gval x.2.1 x.2.2.length] 24 (0, 0)) :: (gbR rwR 25 x.2.1 x.2.2 ++ (rwB x.2.2 ++ [(b1, Obj.cells #[.slice none 0 0] 24 (0, 0)), (b0, Obj.cells #[.slice p m.length cp] 24 (0, 0))]))) (fun x => m.length - x.1) (0, none, []) ⟨Nat.zero_le _, ⟨rfl, rfl⟩, fun r hr9 => absurd hr9 (by simp), rfl⟩ l9z (List.Sublist.refl _) ?_))))))
  intro x hx9
  have hk1 := hx9.1
  have hrl : x.2.2.length = x.1 := by have h5 := congrArg List.length hx9.2.2.2; rw [List.length_map, List.length_take] at h5; omega
  refine TC.seq (zr (zm rfl (zq (PV.fieldAddr rfl Tb.fo_24_0) rfl (zq (PV.load rfl Tb.one_22 m9z rfl) rfl ?_))))
  refine zq (PV.len rfl Tb.sl_22) rfl (zq (PV.lss rfl rfl) rfl (zn (TC.cd rfl (fun hlt => ?_) (fun hlt => ?_))))
  refine TC.skip (TQ.thenC (TC.seq (TC.block ?_)))
  obtain ⟨q1, q1p, pj, cj, q1c, q1i⟩ := hr x.1 (by omega)
  have hMk := hM x.1
  refine TC.mixV [true, true, false, true, true, true, true, true, false, false, false, true, false] [(b2, Obj.cells #[gval x.2.1 x.2.2.length] 24 (0, 0)), (b1, Obj.cells #[.slice none 0 0] 24 (0, 0)), (b0, Obj.cells #[.slice p m.length cp] 24 (0, 0))] 13 Tb.mixed rfl kr kr kr kr s9z ?_
  refine zv 0 rfl kr (PV.fieldAddr rfl Tb.fo_24_0) rfl (zv 1 rfl kr (PV.load rfl Tb.one_22 m9z rfl) rfl ?_)
  refine zv 3 rfl kr (PV.fieldAddr rfl Tb.fo_24_0) rfl (zv 4 rfl kr (PV.load rfl Tb.one_22 m9z rfl) rfl ?_)
  refine zv 5 rfl kr (PV.move rfl) rfl (zv 6 rfl kr (PV.indexA rfl q1p rfl Tb.elm_22 rfl om) rfl (zv 7 rfl kr (PV.loadOld rfl Tb.one_25 q1c) rfl (TV.step [2] kr dc rfl ⟨⟨_, rfl, ?_⟩, trivial⟩)))
  refine TL.buildSlice0 Tb.sl_25 Tb.zi_3 rfl dc (fun bE hbE => ?_)
  refine TL.nil (TV.next (.inl s9z) ?_)
  refine TV.step [8] kr dc rfl ⟨⟨_, rfl, ?_⟩, trivial⟩
  refine TL.append0 (news := ival (m.getD x.1 [])) rfl rfl Tb.sl_25 Tb.zi_3 rfl (Take.head _) (fun w' hN => ints_src Tb.sl_25 rfl (q1i.new hN)) om om rfl dc (fun h1 hh1 => ?_)
  refine TL.nil (TV.next (.inl s9z) ?_)
  refine TV.step [9] kr dc rfl ⟨⟨_, rfl, ?_⟩, trivial⟩
  refine TL.buildSlice (cs := #[gval h1 (m.getD x.1 []).length]) rfl Tb.sl_22 Tb.zi_25 dc (fill_gv _ _) dc rfl dc (fun bI hbI => ?_)
  refine TL.nil (TV.next (.inl s9z) ?_)
  refine TV.step [10] kr dc rfl ⟨⟨_, rfl, ?_⟩, trivial⟩
  refine TL.appendRec (R := rwR) (h0 := x.2.1) (ys := x.2.2) (r := ⟨h1, m.getD x.1 []⟩) Tb.sl_22 Tb.zi_25 rfl rfl rfl m9z hx9.2.1 h9z om om rfl dc (fun h9 ho9 => ?_)
  refine TL.nil (TV.next (.inl s9z) ?_)
  refine zv 11 rfl kr (PV.fieldAddr rfl Tb.fo_24_0) rfl (TV.step [12] kr dc rfl ⟨⟨_, rfl, ?_⟩, trivial⟩)
  refine TL.store rfl rfl Tb.cells_22 (gval_one _ _) u9z e9z rfl rfl ?_
  refine TL.nil (TV.next (.inr kr) ?_)
  refine TV.done kr ?_
  refine TQ.blkN (TQ.thenC (TC.region (zm rfl (zq (PV.add rfl rfl om) rfl (za rfl (TL.nil (TQ.thenN (TQ.perm (G' := (b2, Obj.cells #[gval h9 (x.2.2 ++ [(⟨h1, m.getD x.1 []⟩ : RW)]).length] 24 (0, 0)) :: (gbR rwR 25 h9 (x.2.2 ++ [⟨h1, m.getD x.1 []⟩]) ++ (rwB (x.2.2 ++ [⟨h1, m.getD x.1 []⟩]) ++ ([(b1, Obj.cells #[.slice none 0 0] 24 (0, 0)), (b0, Obj.cells #[.slice p m.length cp] 24 (0, 0))] ++ [(bI, Obj.cells #[gval h1 (m.getD x.1 []).length] 25 (0, 0))])))) (perm_of fun c9 => by rw [rwB_app, rwB_one, show (#[gval x.2.1 x.2.2.length] : Array Value).setIfInBounds (0 + 0) (gval h9 (x.2.2 ++ [(⟨h1, m.getD x.1 []⟩ : RW)]).length) = #[gval h9 (x.2.2 ++ [(⟨h1, m.getD x.1 []⟩ : RW)]).length] from rfl]; simp only [List.map_append, List.sum_append, List.map_cons, List.sum_cons, List.map_nil, List.sum_nil, gbI, gbR]; omega) ?_))))))))
  refine TQ.backK (x.1 + 1, h9, x.2.2 ++ [⟨h1, m.getD x.1 []⟩]) l9z l9z (List.Sublist.cons_cons _ (List.Sublist.append_left (List.Sublist.append_left (List.sublist_append_left _ _) _) _)) ⟨by simp only; omega, ho9, hx9.2.2.1.app hh1, CpA.next om hx9.2.2.2⟩ (by simp only; omega)
  refine TC.exit (TQ.thenE (TQ.thenE (TQ.blkS (TQ.thenC (zr (zq (PV.loadBox (cs := [gval x.2.1 x.2.2.length]) rfl Tb.agg_24 m9z rfl) rfl ?_))))))
  refine TL.storeAgg (vs := [gval x.2.1 x.2.2.length]) rfl rfl Tb.cells_24 u9z rfl rfl (by simp [gval_one]) rfl rfl ?_
  refine zt (TQ.retR rfl (Res.agg rfl Tb.agg_24 m9z rfl Res.nil) ?_)
  simp only [tup]
  have hke : x.1 = m.length := by omega
  exact ⟨(x.2.1, x.2.2), by rw [hrl, hke], ⟨hx9.2.1, hx9.2.2.1, by rw [hx9.2.2.2, hke, List.take_length]⟩, List.Sublist.cons _ (List.Sublist.append_left (List.sublist_append_left _ _) _)⟩
end Go.Proofs.YtbnjmkidbfmomaaGreatDoor

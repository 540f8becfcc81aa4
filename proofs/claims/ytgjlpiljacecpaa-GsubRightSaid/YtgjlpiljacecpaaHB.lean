/-
  gsub: subtables, walked.
-/
import Derived.Test.YtgjlpiljacecpaaHA
namespace Go.Proofs.Ytgjlpiljacecpaa
open Go Go.RowKit
set_option linter.unusedVariables false
set_option maxRecDepth 100000
set_option maxHeartbeats 4000000
def gShifted_L1 (N : Nat) (p0 : List Int) (p1 : Int) : Nat → (List Int) → Int → Option (List Int)
 | 0, _, _ => none
 | k27+1, l25, x26 => (if x26 < ((p0.length : Nat) : Int) then ((ix p0 x26).bind fun x38 => ((ix l25 x26).bind fun _x40 => ((setx l25 x26 (IntKind.u16.wrap (x38 + p1))).bind fun l44 => gShifted_L1 N p0 p1 k27 l44 (IntKind.i64.wrap (x26 + 1))))) else some (l25))
def gShifted (N : Nat) (p0 : List Int) (p1 : Int) : Option (List Int) :=
 ((mkx ((p0.length : Nat) : Int)).bind fun l5 => ((gShifted_L1 N p0 p1 N l5 0 : Option (List Int)).bind fun l15 => some l15))
def gShifted_R (r : List Int) (w0 : World) (v : Value) (w : World) : Prop := ∃ (A0' : Option Addr) (c0' : Nat), v = .slice A0' r.length c0' ∧ St [] w0 w [rowE .u16 31 A0' c0' r]
theorem gShifted_ok (N : Nat) (p0 : List Int) (p1 : Int) (A0 : Option Addr) (c0 : Nat) (r : List Int) (hF : gShifted N p0 p1 = some r) (w0 : World) (hv0 : Vw [] .u16 w0 A0 c0 p0) :
  Calls Try.prog 103 #[.slice A0 p0.length c0, .int .u16 p1] w0 fun e w => ∃ v, e = .returned v ∧ gShifted_R r w0 v w := by
 have hS0 := St.start w0
 unfold gShifted at hF
 refine calls_of Try.func103 rfl ⟨((.slice A0 p0.length c0) :: (u6 p1) :: un 24 ([])).toArray, []⟩ (by kernel_rfl) (gx_seq (fun K1 hK2 => gx_region (gx_k (nS) w0 (gx_nil (gx_thenN (hK2 _ _ (gx_seq (fun K3 hK4 => ?_))))))))
 refine gx_region (gx_k (.slice A0 p0.length c0) w0 (gx_k (i6 ((p0.length : Nat) : Int)) w0 ?_))
 obtain ⟨l5, hm6, hF⟩ := bind_in hF
 refine gx_r (st_make (T := 31) (k := .u16) (by_ := 2) rfl (by kernel_rfl) (by kernel_rfl) (by kernel_rfl) (by kernel_rfl) (by kernel_rfl) hS0 hm6) ?_
 rintro _ w7 ⟨A9, c10, rfl, hS8⟩
 have hS8 : St _ _ w7 [rowE .u16 31 A9 c10 l5] := hS8
 refine gx_k (.slice A9 l5.length c10) w7 (gx_nil (gx_thenN (hK4 _ _ ?_)))
 obtain ⟨c16, hE17, hO18⟩ := bind_in hF
 refine gx_cut (fun a w => ∃ (l15 : List Int), selfA (fun u13 => ⟨((u13 0) :: (u6 p1) :: undef :: undef :: (nS) :: (.slice A9 l5.length c10) :: dd u13 6 3 ((i6 ((p0.length : Nat) : Int)) :: dd u13 10 15 (undef :: []))).toArray, []⟩) a ∧ l15 = c16 ∧ St [] w0 w [rowE .u16 31 A9 c10 l15] ∧ l5.length = l15.length) ?_ ?_
 refine gx_seq (fun K19 hK20 => gx_region (gx_k (.slice A0 p0.length c0) w7 (gx_k (i6 ((p0.length : Nat) : Int)) w7 (gx_k (i6 0) w7 (gx_nil (gx_thenN (hK20 _ _ (gx_block (gx_loop (fun k a w => ∃ (l25 : List Int) (x26 : Int), selfA (fun u23 => ⟨((u23 0) :: (u6 p1) :: undef :: undef :: (nS) :: (.slice A9 l5.length c10) :: dd u23 6 3 ((i6 ((p0.length : Nat) : Int)) :: (u23 10) :: (.slice A0 p0.length c0) :: (i6 ((p0.length : Nat) : Int)) :: (i6 x26) :: dd u23 14 11 (undef :: []))).toArray, []⟩) a ∧ gShifted_L1 N p0 p1 k l25 x26 = some c16 ∧ St [] w0 w [rowE .u16 31 A9 c10 l25] ∧ l5.length = l25.length) N ?_ ?_)))))))))
 exact ⟨l5, 0, selfA_i (by kernel_rfl), hE17, hS8, rfl⟩
 rintro k27 _ w21 ⟨l25, x26, hq48, hL28, hS22, hn24⟩
 obtain ⟨u23, rfl⟩ := selfA_u hq48
 rcases k27 with _ | k27
 cases hL28
 first | rw [gShifted_L1] at hL28 | unfold gShifted_L1 at hL28
 refine gx_seq (fun K29 hK30 => gx_region ?_)
 rcases if_in hL28 with ⟨h31, hL28⟩ | ⟨h31, hL28⟩
 refine gx_v (.bool true) w21 (rbE (decide_eq_true h31)) (gx_nil (gx_thenN (hK30 _ _ (gx_seq (fun K32 hK33 => gx_yes (by kernel_rfl) (gx_pass (gx_thenN ?_)))))))
 refine hK33 _ _ (gx_seq (fun K34 hK35 => gx_block (gx_seq (fun K36 hK37 => gx_region (gx_k (i6 x26) w21 ?_)))))
 obtain ⟨x38, hx39, hL28⟩ := bind_in hL28
 refine gx_v (pI x26 A0) w21 (rix 31 .i64 hx39 ((hS22.view hv0))) (gx_v (u6 x38) w21 (rlx (hS22.view hv0) hx39) (gx_k (i6 x26) w21 (gx_k (u6 x38) w21 (gx_nil (gx_thenN (hK37 _ _ (gx_region (gx_k (.slice A9 l5.length c10) w21 (gx_k (i6 x26) w21 (gx_k (u6 x38) w21 (gx_k (u6 p1) w21 (gx_k (u6 (IntKind.u16.wrap (x38 + p1))) w21 ?_))))))))))))
 obtain ⟨x40, hx41, hL28⟩ := bind_in hL28
 refine gx_v (pI x26 A9) w21 (riy 31 .i64 hx41 hn24 (((hS22.row 0 rfl).1))) ?_
 obtain ⟨l44, hx45, hL28⟩ := bind_in hL28
 refine gx_s (st_storeix rfl (by kernel_rfl) (by kernel_rfl) (fun _ => by kernel_rfl) hS22 0 rfl hx45) ?_
 rintro w42 hS43
 have hS43 : St _ _ w42 [rowE .u16 31 A9 c10 l44] := hS43
 refine gx_nil (gx_blkN (gx_thenN (hK35 _ _ (gx_region (gx_k (i6 (iw (x26 + 1))) w42 (gx_k (i6 (iw (x26 + 1))) w42 (gx_nil (gx_thenN ?_))))))))
 exact ⟨k27, Nat.lt_succ_self k27, l44, (iw (x26 + 1)), selfA_i (by kernel_rfl), hL28, hS43, (hn24.trans (setx_len hx45).symm)⟩
 refine gx_v (.bool false) w21 (rbE (decide_eq_false h31)) (gx_nil (gx_thenN (hK30 _ _ (gx_seq (fun K46 hK47 => gx_no (by kernel_rfl) (gx_exit (gx_thenE ?_)))))))
 refine gx_thenE (gx_blkE (gx_thenN ?_))
 exact ⟨l25, selfA_i (by kernel_rfl), (sj hL28), hS22, hn24⟩
 rintro _ w11 ⟨l15, hq51, rfl, hS12, hn14⟩
 obtain ⟨u13, rfl⟩ := selfA_u hq51
 try dsimp only at hO18
 refine gx_seq (fun K49 hK50 => gx_region (gx_k (.slice A9 l5.length c10) w11 (gx_k (.slice A9 l5.length c10) w11 (gx_nil (gx_thenN (hK50 _ _ (gx_ret ?_)))))))
 obtain rfl := sj hO18
 exact gxF (.slice A9 l5.length c10) ⟨_, rfl, A9, c10, by rw [← hn14] <;> kernel_rfl, hS12⟩
def gPaired_L1 (N : Nat) (p0 : List Int) (p1 : List Int) : Nat → (List (Int × Int)) → Int → Option (List (Int × Int))
 | 0, _, _ => none
 | k33+1, l29, x32 => (if x32 < ((p0.length : Nat) : Int) then ((ix p0 x32).bind fun x44 => ((ix p1 x32).bind fun x46 => ((ixg l29 x32).bind fun _x48 => ((setg l29 x32 (x44, x46)).bind fun l61 => gPaired_L1 N p0 p1 k33 l61 (IntKind.i64.wrap (x32 + 1)))))) else some (l29))
def gPaired (N : Nat) (p0 : List Int) (p1 : List Int) : Option (List (Int × Int)) :=
 ((mkg ((p0.length : Nat) : Int) ((0, 0) : Int × Int)).bind fun l5 => ((gPaired_L1 N p0 p1 N l5 0 : Option (List (Int × Int))).bind fun l17 => some l17))
def gPaired_R (r : List (Int × Int)) (w0 : World) (v : Value) (w : World) : Prop := ∃ (A0' : Option Addr) (c0' : Nat) (vs0' : List Value) (ft' : List Nat), v = .slice A0' r.length c0' ∧ St [] w0 w [rowG 74 2 (.slice A0' r.length c0') r.length vs0', poolE ft' w] ∧ (fEach (pairE (intE .u16) (intE .u16)) vs0' r).rd w ft'
theorem gPaired_ok (N : Nat) (p0 : List Int) (p1 : List Int) (A0 : Option Addr) (c0 : Nat) (A1 : Option Addr) (c1 : Nat) (r : List (Int × Int)) (hF : gPaired N p0 p1 = some r) (w0 : World) (hv0 : Vw [] .u16 w0 A0 c0 p0) (hv1 : Vw [] .u16 w0 A1 c1 p1) :
  Calls Try.prog 106 #[.slice A0 p0.length c0, .slice A1 p1.length c1] w0 fun e w => ∃ v, e = .returned v ∧ gPaired_R r w0 v w := by
 have hS0 := (St.start w0).pool0
 unfold gPaired at hF
 refine calls_of Try.func106 rfl ⟨((.slice A0 p0.length c0) :: (.slice A1 p1.length c1) :: un 27 ([])).toArray, []⟩ (by kernel_rfl) (gx_seq (fun K1 hK2 => gx_region (gx_k (nS) w0 (gx_nil (gx_thenN (hK2 _ _ (gx_seq (fun K3 hK4 => ?_))))))))
 refine gx_region (gx_k (.slice A0 p0.length c0) w0 (gx_k (i6 ((p0.length : Nat) : Int)) w0 ?_))
 obtain ⟨l5, hm6, hF⟩ := bind_in hF
 refine gx_r (st_makeP (k1 := .i64) (k2 := .i64) (e := (pairE (intE .u16) (intE .u16))) (T := 74) (by_ := 4) (z := .agg #[u6 0, u6 0]) (W := w0) (ft := ([])) rfl (by kernel_rfl) (by kernel_rfl) (by kernel_rfl) (by kernel_rfl) (by kernel_rfl) (by decide) (rd_pair (rd_intg .u16 (0 : Int)) (rd_intg .u16 (0 : Int))) hS0 hm6) ?_
 rintro _ w7 ⟨A9, c10, vs11, rfl, hf12, hS8⟩
 have hS8 : St _ _ w7 [poolE ([]) w0, rowG 74 2 (.slice A9 l5.length c10) l5.length vs11] := hS8
 refine gx_k (.slice A9 l5.length c10) w7 (gx_nil (gx_thenN (hK4 _ _ ?_)))
 obtain ⟨c20, hE21, hO22⟩ := bind_in hF
 refine gx_cut (fun a w => ∃ (l17 : List (Int × Int)) (vs18 : List Value), selfA (fun u15 => ⟨(dd u15 0 2 (undef :: undef :: (nS) :: (.slice A9 l5.length c10) :: dd u15 6 3 ((i6 ((p0.length : Nat) : Int)) :: dd u15 10 18 (undef :: [])))).toArray, []⟩) a ∧ l17 = c20 ∧ St [] w0 w [poolE ([]) w0, rowG 74 2 (.slice A9 l5.length c10) l5.length vs18] ∧ (fEach (pairE (intE .u16) (intE .u16)) vs18 l17).rd w0 ([]) ∧ l5.length = l17.length) ?_ ?_
 refine gx_seq (fun K23 hK24 => gx_region (gx_k (.slice A0 p0.length c0) w7 (gx_k (i6 ((p0.length : Nat) : Int)) w7 (gx_k (i6 0) w7 (gx_nil (gx_thenN (hK24 _ _ (gx_block (gx_loop (fun k a w => ∃ (l29 : List (Int × Int)) (x32 : Int) (vs30 : List Value), selfA (fun u27 => ⟨((u27 0) :: (.slice A1 p1.length c1) :: undef :: undef :: (nS) :: (.slice A9 l5.length c10) :: dd u27 6 3 ((i6 ((p0.length : Nat) : Int)) :: (u27 10) :: (.slice A0 p0.length c0) :: (i6 ((p0.length : Nat) : Int)) :: (i6 x32) :: dd u27 14 14 (undef :: []))).toArray, []⟩) a ∧ gPaired_L1 N p0 p1 k l29 x32 = some c20 ∧ St [] w0 w [poolE ([]) w0, rowG 74 2 (.slice A9 l5.length c10) l5.length vs30] ∧ (fEach (pairE (intE .u16) (intE .u16)) vs30 l29).rd w0 ([]) ∧ l5.length = l29.length) N ?_ ?_)))))))))
 exact ⟨l5, 0, vs11, selfA_i (by kernel_rfl), hE21, hS8, hf12, rfl⟩
 rintro k33 _ w25 ⟨l29, x32, vs30, hq69, hL34, hS26, hf31, hn28⟩
 obtain ⟨u27, rfl⟩ := selfA_u hq69
 rcases k33 with _ | k33
 cases hL34
 first | rw [gPaired_L1] at hL34 | unfold gPaired_L1 at hL34
 refine gx_seq (fun K35 hK36 => gx_region ?_)
 rcases if_in hL34 with ⟨h37, hL34⟩ | ⟨h37, hL34⟩
 refine gx_v (.bool true) w25 (rbE (decide_eq_true h37)) (gx_nil (gx_thenN (hK36 _ _ (gx_seq (fun K38 hK39 => gx_yes (by kernel_rfl) (gx_pass (gx_thenN ?_)))))))
 refine hK39 _ _ (gx_seq (fun K40 hK41 => gx_block (gx_seq (fun K42 hK43 => gx_region (gx_k (i6 x32) w25 ?_)))))
 obtain ⟨x44, hx45, hL34⟩ := bind_in hL34
 refine gx_v (pI x32 A0) w25 (rix 31 .i64 hx45 ((hS26.view hv0))) (gx_v (u6 x44) w25 (rlx (hS26.view hv0) hx45) (gx_k (i6 x32) w25 (gx_k (u6 x44) w25 (gx_nil (gx_thenN (hK43 _ _ (gx_region (gx_k (.slice A9 l5.length c10) w25 (gx_k (i6 x32) w25 (gx_k (u6 x44) w25 (gx_k (.slice A1 p1.length c1) w25 (gx_k (i6 x32) w25 ?_))))))))))))
 obtain ⟨x46, hx47, hL34⟩ := bind_in hL34
 refine gx_v (pI x32 A1) w25 (rix 31 .i64 hx47 ((hS26.view hv1))) (gx_v (u6 x46) w25 (rlx (hS26.view hv1) hx47) (gx_k (.agg #[u6 x44, u6 x46]) w25 ?_))
 obtain ⟨x48, hx49, hL34⟩ := bind_in hL34
 obtain ⟨g50, o51, e52, hA53, he54, h55, ha56⟩ := elem_at (e := (pairE (intE .u16) (intE .u16))) (rowG_lies (e := (pairE (intE .u16) (intE .u16))) hn28 (hS26.get 1 rfl)) hf31 hx49 (by decide)
 obtain ⟨e57, e58, rfl, h59, h60⟩ := h55
 obtain rfl := h59
 obtain rfl := h60
 have ha56 : ∀ w', Lies w' A9 vs30 → w'.rangeAt g50 o51 [u6 x48.1, u6 x48.2] := ha56
 refine gx_v (.pointer (some ⟨g50, o51, none⟩)) w25 (run_ixaddrN (E := 74) (s := 2) (k := .i64) (c := c10) rfl (by kernel_rfl) (by kernel_rfl) (by kernel_rfl) (fun _ => by kernel_rfl) (ixg_in hx49).1 (lt_len hn28 (ixg_in hx49).2.1) hA53) ?_
 obtain ⟨l61, hx62, hL34⟩ := bind_in hL34
 refine gx_s (st_setN (e := (pairE (intE .u16) (intE .u16))) (ds := [u6 x44, u6 x46]) rfl (by kernel_rfl) (by kernel_rfl) (by kernel_rfl) hS26 1 rfl hn28 hf31 hA53 (rd_pair (rd_intg .u16 x44) (rd_intg .u16 x46)) hx62) ?_
 rintro w63 ⟨vs65, hf66, hS64⟩
 have hS64 : St _ _ w63 [poolE ([]) w0, rowG 74 2 (.slice A9 l5.length c10) l5.length vs65] := hS64
 refine gx_nil (gx_blkN (gx_thenN (hK41 _ _ (gx_region (gx_k (i6 (iw (x32 + 1))) w63 (gx_k (i6 (iw (x32 + 1))) w63 (gx_nil (gx_thenN ?_))))))))
 exact ⟨k33, Nat.lt_succ_self k33, l61, (iw (x32 + 1)), vs65, selfA_i (by kernel_rfl), hL34, hS64, hf66, (hn28.trans (setg_len hx62).symm)⟩
 refine gx_v (.bool false) w25 (rbE (decide_eq_false h37)) (gx_nil (gx_thenN (hK36 _ _ (gx_seq (fun K67 hK68 => gx_no (by kernel_rfl) (gx_exit (gx_thenE ?_)))))))
 refine gx_thenE (gx_blkE (gx_thenN ?_))
 exact ⟨l29, vs30, selfA_i (by kernel_rfl), (sj hL34), hS26, hf31, hn28⟩
 rintro _ w13 ⟨l17, vs18, hq74, rfl, hS14, hf19, hn16⟩
 obtain ⟨u15, rfl⟩ := selfA_u hq74
 try dsimp only at hO22
 refine gx_seq (fun K70 hK71 => gx_region (gx_k (.slice A9 l5.length c10) w13 (gx_k (.slice A9 l5.length c10) w13 (gx_nil (gx_thenN (hK71 _ _ (gx_ret ?_)))))))
 have hS72 : St _ _ w13 [poolE ([]) w0, rowG 74 2 (.slice A9 l17.length c10) l17.length vs18] := hS14.len (e := (pairE (intE .u16) (intE .u16))) 1 rfl hn16
 have hS73 : St _ _ w13 [poolE ([]) w13, rowG 74 2 (.slice A9 l17.length c10) l17.length vs18] := hS72.renew 0 rfl
 obtain rfl := sj hO22
 exact gxF (.slice A9 l5.length c10) ⟨_, rfl, A9, c10, vs18, ([]), by rw [← hn16] <;> kernel_rfl, (hS73.pick [1, 0] rfl rfl), (hS72.now 0 rfl hf19)⟩
def gSingle (N : Nat) (zg : Int) (zl : Int) (zn : Int) (zb : List Int) (zq : Bool) (p1 : Int) : Option (Pan (List (Int × Int) × List (Int × List Int) × List (List Int × Int) × List (List Int) × List (List Int) × List (List Int) × List (Int × Int) × Int × Bool) (Int × Int × Bool)) :=
 ((((gWord N zg zl zn zb zq p1).bind fun | Pan.ok (x26, b25) => (if x26 = 1 then ((gCovered N zg zl zn zb b25 p1).bind fun | Pan.ok (l39, x37, b38) => ((gWord N zg zl x37 zb b38 (IntKind.i64.wrap (p1 + 4))).bind fun | Pan.ok (x48, b47) => ((gShifted N l39 x48).bind fun l54 => some (Ctl.go (x37, b47, l39, l54))) | Pan.gone (x60, b61) => some (Ctl.ret (Pan.gone (x60, x37, b61)))) | Pan.gone (x68, x69, b70) => some (Ctl.ret (Pan.gone (x68, x69, b70)))) else (if x26 = 2 then ((gEach N zg zl zn zb b25 p1).bind fun | Pan.ok (l84, l87, x82, b83) => some (Ctl.go (x82, b83, l84, l87)) | Pan.gone (x93, x94, b95) => some (Ctl.ret (Pan.gone (x93, x94, b95)))) else ((gGiveUp N ).bind fun | Pan.ok _ => none | Pan.gone x104 => some (Ctl.ret (Pan.gone (x104, zn, b25)))))) | Pan.gone (x111, b112) => some (Ctl.ret (Pan.gone (x111, zn, b112)))) : Option (Ctl (Int × Bool × List Int × List Int) (Pan (List (Int × Int) × List (Int × List Int) × List (List Int × Int) × List (List Int) × List (List Int) × List (List Int) × List (Int × Int) × Int × Bool) (Int × Int × Bool)))).bind fun | Ctl.go (x10, b11, l14, l17) => ((gCount N zg zl x10 zb b11 ((l14.length : Nat) : Int)).bind fun | Pan.ok x123 => ((gRight N zg zl x123 zb b11 l17).bind fun | Pan.ok _ => ((gPaired N l14 l17).bind fun l136 => some (Pan.ok (l136, ([] : List (Int × List Int)), ([] : List (List Int × Int)), ([] : List (List Int)), ([] : List (List Int)), ([] : List (List Int)), ([] : List (Int × Int)), x123, b11))) | Pan.gone x168 => some (Pan.gone (x168, x123, b11))) | Pan.gone (x175, x176) => some (Pan.gone (x175, x176, b11))) | Ctl.ret r => some r)
def gSingle_R (zg : Int) (zl : Int) (zn : Int) (zb : List Int) (zq : Bool) (p1 : Int) (g0 : Nat) (zr : Nat) (zA : Option Addr) (zc : Nat) (zs : Nat) (r : List (Int × Int) × List (Int × List Int) × List (List Int × Int) × List (List Int) × List (List Int) × List (List Int) × List (Int × Int) × Int × Bool) (w0 : World) (v : Value) (w : World) : Prop := ∃ (A0_0' : Option Addr) (c0_0' : Nat) (vs0_0' : List Value) (A0_1' : Option Addr) (c0_1' : Nat) (vs0_1' : List Value) (A0_2' : Option Addr) (c0_2' : Nat) (vs0_2' : List Value) (A0_3' : Option Addr) (c0_3' : Nat) (vs0_3' : List Value) (A0_4' : Option Addr) (c0_4' : Nat) (vs0_4' : List Value) (A0_5' : Option Addr) (c0_5' : Nat) (vs0_5' : List Value) (A0_6' : Option Addr) (c0_6' : Nat) (vs0_6' : List Value) (ft' : List Nat), v = .agg #[.slice A0_0' r.1.length c0_0', .slice A0_1' r.2.1.length c0_1', .slice A0_2' r.2.2.1.length c0_2', .slice A0_3' r.2.2.2.1.length c0_3', .slice A0_4' r.2.2.2.2.1.length c0_4', .slice A0_5' r.2.2.2.2.2.1.length c0_5', .slice A0_6' r.2.2.2.2.2.2.1.length c0_6'] ∧ St (foots [eW g0 zr zg zl zn, eR zr zs zA zb zc, eS zs zq]) w0 w [eW g0 zr zg zl r.2.2.2.2.2.2.2.1, eR zr zs zA zb zc, eS zs r.2.2.2.2.2.2.2.2, rowG 74 2 (.slice A0_0' r.1.length c0_0') r.1.length vs0_0', rowG 76 2 (.slice A0_1' r.2.1.length c0_1') r.2.1.length vs0_1', rowG 62 2 (.slice A0_2' r.2.2.1.length c0_2') r.2.2.1.length vs0_2', rowG 60 1 (.slice A0_3' r.2.2.2.1.length c0_3') r.2.2.2.1.length vs0_3', rowG 60 1 (.slice A0_4' r.2.2.2.2.1.length c0_4') r.2.2.2.2.1.length vs0_4', rowG 60 1 (.slice A0_5' r.2.2.2.2.2.1.length c0_5') r.2.2.2.2.2.1.length vs0_5', rowG 79 2 (.slice A0_6' r.2.2.2.2.2.2.1.length c0_6') r.2.2.2.2.2.2.1.length vs0_6', poolE ft' w] ∧ (fEach (pairE (intE .u16) (intE .u16)) vs0_0' r.1).rd w ft' ∧ (fEach (pairE (intE .u16) (rowOf (intE .u16))) vs0_1' r.2.1).rd w ft' ∧ (fEach (pairE (rowOf (intE .u16)) (intE .u16)) vs0_2' r.2.2.1).rd w ft' ∧ (fEach (rowOf (intE .u16)) vs0_3' r.2.2.2.1).rd w ft' ∧ (fEach (rowOf (intE .u16)) vs0_4' r.2.2.2.2.1).rd w ft' ∧ (fEach (rowOf (intE .u16)) vs0_5' r.2.2.2.2.2.1).rd w ft' ∧ (fEach (pairE (intE .i64) (intE .i64)) vs0_6' r.2.2.2.2.2.2.1).rd w ft'
def gSingle_X (zg : Int) (zl : Int) (zn : Int) (zb : List Int) (zq : Bool) (p1 : Int) (g0 : Nat) (zr : Nat) (zA : Option Addr) (zc : Nat) (zs : Nat) (g : Int × Int × Bool) (w0 : World) (c : List PanicEntry) (w : World) : Prop := c = goneB 113 g.1 ∧ St (foots [eW g0 zr zg zl zn, eR zr zs zA zb zc, eS zs zq]) w0 w [eW g0 zr zg zl g.2.1, eR zr zs zA zb zc, eS zs g.2.2]
theorem gSingle_ok (N : Nat) (zg : Int) (zl : Int) (zn : Int) (zb : List Int) (zq : Bool) (p1 : Int) (g0 : Nat) (zr : Nat) (zA : Option Addr) (zc : Nat) (zs : Nat) (r : Pan (List (Int × Int) × List (Int × List Int) × List (List Int × Int) × List (List Int) × List (List Int) × List (List Int) × List (Int × Int) × Int × Bool) (Int × Int × Bool)) (hF : gSingle N zg zl zn zb zq p1 = some r) (w0 : World) (hv0_0 : Vw (foots [eW g0 zr zg zl zn, eR zr zs zA zb zc, eS zs zq]) .u8 w0 zA zc zb) (hl : St (foots [eW g0 zr zg zl zn, eR zr zs zA zb zc, eS zs zq]) w0 w0 [eW g0 zr zg zl zn, eR zr zs zA zb zc, eS zs zq]) :
  Calls Try.prog 87 #[.pointer (some ⟨g0, 0, none⟩), .int .i64 p1] w0 fun e w => (∃ r', r = .ok r' ∧ ∃ v, e = .returned v ∧ gSingle_R zg zl zn zb zq p1 g0 zr zA zc zs r' w0 v w) ∨ (∃ g, r = .gone g ∧ ∃ c, e = .panicked c ∧ gSingle_X zg zl zn zb zq p1 g0 zr zA zc zs g w0 c w) := by
 have hS0 := (hl).pool0
 unfold gSingle at hF
 refine calls_of Try.func87 rfl ⟨((vP g0) :: (i6 p1) :: un 38 ([])).toArray, []⟩ (by kernel_rfl) (gx_seq (fun K1 hK2 => gx_region (gx_r (st_boxed [nS, nS, nS, nS, nS, nS, nS] 43 hS0 (by kernel_rfl)) ?_)))
 rintro _ w3 ⟨rfl, hS4⟩
 have hS4 : St _ _ w3 [eW g0 zr zg zl zn, eR zr zs zA zb zc, eS zs zq, poolE ([]) w0, boxE w0.heap.size [nS, nS, nS, nS, nS, nS, nS] 43] := hS4
 refine gx_nil (gx_thenN (hK2 _ _ (gx_seq (fun K5 hK6 => gx_region (gx_k (nS) w3 (gx_k (nS) w3 (gx_nil (gx_thenN ?_))))))))
 refine hK6 _ _ ?_
 obtain ⟨c18, hE19, hO20⟩ := bind_in hF
 refine gx_cut (fun a w => ∃ (x10 : Int) (b11 : Bool) (l14 : List Int) (l17 : List Int) (A12 : Option Addr) (c13 : Nat) (A15 : Option Addr) (c16 : Nat), selfA (fun u9 => ⟨((vP g0) :: (i6 p1) :: undef :: undef :: (vP w0.heap.size) :: (.slice A12 l14.length c13) :: (.slice A15 l17.length c16) :: dd u9 7 23 (un 10 ([]))).toArray, []⟩) a ∧ Ctl.go (x10, b11, l14, l17) = c18 ∧ St (foots [eW g0 zr zg zl zn, eR zr zs zA zb zc, eS zs zq]) w0 w [poolE ([]) w0, eW g0 zr zg zl x10, eR zr zs zA zb zc, eS zs b11, boxE w0.heap.size [nS, nS, nS, nS, nS, nS, nS] 43, rowE .u16 31 A12 c13 l14, rowE .u16 31 A15 c16 l17]) ?_ ?_
 refine gx_seq (fun K21 hK22 => gx_region (gx_k (vP g0) w3 (gx_k (i6 p1) w3 ?_)))
 have hP23 : St _ _ w3 ([eW g0 zr zg zl zn, eR zr zs zA zb zc, eS zs zq] ++ [poolE ([]) w0, boxE w0.heap.size [nS, nS, nS, nS, nS, nS, nS] 43]) := hS4
 obtain ⟨rq118, hc24, hE19⟩ := bind_in hE19
 rcases rq118 with q0 | q0
 obtain ⟨x26, b25⟩ := q0
 try dsimp only at hE19
 refine gx_c _ (pan_ok (gWord_ok N zg zl zn zb zq p1 g0 zr zA zc zs _ hc24 w3 (hP23.vwA hv0_0) hP23.part) :) ?_
 rintro _ w27 ⟨rfl, hT29⟩
 have hS28 : St _ _ w27 [poolE ([]) w0, boxE w0.heap.size [nS, nS, nS, nS, nS, nS, nS] 43, eW g0 zr zg zl zn, eR zr zs zA zb zc, eS zs b25] := hP23.lendN _ hT29
 refine gx_nil (gx_thenN (hK22 _ _ (gx_block (gx_seq (fun K30 hK31 => gx_region ?_)))))
 rcases if_in hE19 with ⟨h32, hE19⟩ | ⟨h32, hE19⟩
 refine gx_v (.bool true) w27 (rbE (decide_eq_true h32)) (gx_k (.bool true) w27 (gx_nil (gx_thenN (hK31 _ _ (gx_yes (by kernel_rfl) (gx_seq (fun K33 hK34 => gx_region ?_)))))))
 refine gx_k (vP g0) w27 (gx_k (i6 p1) w27 ?_)
 have hP35 : St _ _ w27 ([eW g0 zr zg zl zn, eR zr zs zA zb zc, eS zs b25] ++ [poolE ([]) w0, boxE w0.heap.size [nS, nS, nS, nS, nS, nS, nS] 43]) := hS28.pick [2, 3, 4, 0, 1] rfl rfl
 obtain ⟨rq76, hc36, hE19⟩ := bind_in hE19
 rcases rq76 with q0 | q0
 obtain ⟨l39, x37, b38⟩ := q0
 try dsimp only at hE19
 refine gx_c _ (pan_ok (gCovered_ok N zg zl zn zb b25 p1 g0 zr zA zc zs _ hc36 w27 (hP35.vwA hv0_0) hP35.part) :) ?_
 rintro _ w42 ⟨A40, c41, rfl, hT44⟩
 have hS43 : St _ _ w42 [poolE ([]) w0, boxE w0.heap.size [nS, nS, nS, nS, nS, nS, nS] 43, eW g0 zr zg zl x37, eR zr zs zA zb zc, eS zs b38, rowE .u16 31 A40 c41 l39] := hP35.lendN _ hT44
 refine gx_k (.slice A40 l39.length c41) w42 (gx_nil (gx_thenN (hK34 _ _ (gx_region (gx_k (.slice A40 l39.length c41) w42 (gx_k (vP g0) w42 (gx_k (i6 p1) w42 (gx_k (i6 (iw (p1 + 4))) w42 ?_))))))))
 have hP45 : St _ _ w42 ([eW g0 zr zg zl x37, eR zr zs zA zb zc, eS zs b38] ++ [poolE ([]) w0, boxE w0.heap.size [nS, nS, nS, nS, nS, nS, nS] 43, rowE .u16 31 A40 c41 l39]) := hS43.pick [2, 3, 4, 0, 1, 5] rfl rfl
 obtain ⟨rq67, hc46, hE19⟩ := bind_in hE19
 rcases rq67 with q0 | q0
 obtain ⟨x48, b47⟩ := q0
 try dsimp only at hE19
 refine gx_c _ (pan_ok (gWord_ok N zg zl x37 zb b38 (iw (p1 + 4)) g0 zr zA zc zs _ hc46 w42 (hP45.vwA hv0_0) hP45.part) :) ?_
 rintro _ w49 ⟨rfl, hT51⟩
 have hS50 : St _ _ w49 [poolE ([]) w0, boxE w0.heap.size [nS, nS, nS, nS, nS, nS, nS] 43, rowE .u16 31 A40 c41 l39, eW g0 zr zg zl x37, eR zr zs zA zb zc, eS zs b47] := hP45.lendN _ hT51
 have hP52 : St _ _ w49 ([] ++ [poolE ([]) w0, boxE w0.heap.size [nS, nS, nS, nS, nS, nS, nS] 43, rowE .u16 31 A40 c41 l39, eW g0 zr zg zl x37, eR zr zs zA zb zc, eS zs b47]) := hS50
 obtain ⟨l54, hc53, hE19⟩ := bind_in hE19
 try dsimp only at hE19
 refine gx_c _ (gShifted_ok N l39 x48 A40 c41 _ hc53 w49 (hP52.vwB 2 rfl)) ?_
 rintro _ w57 ⟨A55, c56, rfl, hT59⟩
 have hS58 : St _ _ w57 [poolE ([]) w0, boxE w0.heap.size [nS, nS, nS, nS, nS, nS, nS] 43, rowE .u16 31 A40 c41 l39, eW g0 zr zg zl x37, eR zr zs zA zb zc, eS zs b47, rowE .u16 31 A55 c56 l54] := hS50.take _ hT59
 refine gx_k (.slice A55 l54.length c56) w57 (gx_nil (gx_blkN (gx_thenN ?_)))
 exact ⟨x37, b47, l39, l54, A40, c41, A55, c56, selfA_i (by kernel_rfl), (sj hE19), (hS58.pick [0, 3, 4, 5, 1, 2, 6] rfl rfl)⟩
 obtain ⟨x60, b61⟩ := q0
 try dsimp only at hE19
 refine gx_callX _ (by kernel_rfl) (by kernel_rfl) (pan_gone (gWord_ok N zg zl x37 zb b38 (iw (p1 + 4)) g0 zr zA zc zs _ hc46 w42 (hP45.vwA hv0_0) hP45.part) :) ?_
 rintro c65 w62 ⟨hx66, hT64⟩
 have hS63 : St _ _ w62 [poolE ([]) w0, boxE w0.heap.size [nS, nS, nS, nS, nS, nS, nS] 43, rowE .u16 31 A40 c41 l39, eW g0 zr zg zl x37, eR zr zs zA zb zc, eS zs b61] := hP45.lendN _ hT64
 refine gx_blkP (gx_thenP ?_)
 obtain rfl := sj hE19
 try dsimp only at hO20
 obtain rfl := sj hO20
 exact gx_finP (by kernel_rfl) (.inr ⟨_, rfl, _, rfl, hx66, (hS63.pick [3, 4, 5] rfl rfl)⟩)
 obtain ⟨x68, x69, b70⟩ := q0
 try dsimp only at hE19
 refine gx_callX _ (by kernel_rfl) (by kernel_rfl) (pan_gone (gCovered_ok N zg zl zn zb b25 p1 g0 zr zA zc zs _ hc36 w27 (hP35.vwA hv0_0) hP35.part) :) ?_
 rintro c74 w71 ⟨hx75, hT73⟩
 have hS72 : St _ _ w71 [poolE ([]) w0, boxE w0.heap.size [nS, nS, nS, nS, nS, nS, nS] 43, eW g0 zr zg zl x69, eR zr zs zA zb zc, eS zs b70] := hP35.lendN _ hT73
 refine gx_thenP (gx_blkP (gx_thenP ?_))
 obtain rfl := sj hE19
 try dsimp only at hO20
 obtain rfl := sj hO20
 exact gx_finP (by kernel_rfl) (.inr ⟨_, rfl, _, rfl, hx75, (hS72.pick [2, 3, 4] rfl rfl)⟩)
 refine gx_v (.bool false) w27 (rbE (decide_eq_false h32)) (gx_k (.bool false) w27 (gx_nil (gx_thenN (hK31 _ _ (gx_no (by kernel_rfl) (gx_seq (fun K77 hK78 => gx_region ?_)))))))
 rcases if_in hE19 with ⟨h79, hE19⟩ | ⟨h79, hE19⟩
 refine gx_v (.bool true) w27 (rbE (decide_eq_true h79)) (gx_k (.bool true) w27 (gx_nil (gx_thenN (hK78 _ _ (gx_yes (by kernel_rfl) (gx_region (gx_k (vP g0) w27 (gx_k (i6 p1) w27 ?_))))))))
 have hP80 : St _ _ w27 ([eW g0 zr zg zl zn, eR zr zs zA zb zc, eS zs b25] ++ [poolE ([]) w0, boxE w0.heap.size [nS, nS, nS, nS, nS, nS, nS] 43]) := hS28.pick [2, 3, 4, 0, 1] rfl rfl
 obtain ⟨rq101, hc81, hE19⟩ := bind_in hE19
 rcases rq101 with q0 | q0
 obtain ⟨l84, l87, x82, b83⟩ := q0
 try dsimp only at hE19
 refine gx_c _ (pan_ok (gEach_ok N zg zl zn zb b25 p1 g0 zr zA zc zs _ hc81 w27 (hP80.vwA hv0_0) hP80.part) :) ?_
 rintro _ w90 ⟨A85, c86, A88, c89, rfl, hT92⟩
 have hS91 : St _ _ w90 [poolE ([]) w0, boxE w0.heap.size [nS, nS, nS, nS, nS, nS, nS] 43, eW g0 zr zg zl x82, eR zr zs zA zb zc, eS zs b83, rowE .u16 31 A85 c86 l84, rowE .u16 31 A88 c89 l87] := hP80.lendN _ hT92
 refine gx_k (.tuple #[.slice A85 l84.length c86, .slice A88 l87.length c89]) w90 (gx_k (.slice A85 l84.length c86) w90 (gx_k (.slice A88 l87.length c89) w90 (gx_k (.slice A85 l84.length c86) w90 (gx_k (.slice A88 l87.length c89) w90 (gx_nil (gx_blkN (gx_thenN ?_)))))))
 exact ⟨x82, b83, l84, l87, A85, c86, A88, c89, selfA_i (by kernel_rfl), (sj hE19), (hS91.pick [0, 2, 3, 4, 1, 5, 6] rfl rfl)⟩
 obtain ⟨x93, x94, b95⟩ := q0
 try dsimp only at hE19
 refine gx_callX _ (by kernel_rfl) (by kernel_rfl) (pan_gone (gEach_ok N zg zl zn zb b25 p1 g0 zr zA zc zs _ hc81 w27 (hP80.vwA hv0_0) hP80.part) :) ?_
 rintro c99 w96 ⟨hx100, hT98⟩
 have hS97 : St _ _ w96 [poolE ([]) w0, boxE w0.heap.size [nS, nS, nS, nS, nS, nS, nS] 43, eW g0 zr zg zl x94, eR zr zs zA zb zc, eS zs b95] := hP80.lendN _ hT98
 refine gx_blkP (gx_thenP ?_)
 obtain rfl := sj hE19
 try dsimp only at hO20
 obtain rfl := sj hO20
 exact gx_finP (by kernel_rfl) (.inr ⟨_, rfl, _, rfl, hx100, (hS97.pick [2, 3, 4] rfl rfl)⟩)
 refine gx_v (.bool false) w27 (rbE (decide_eq_false h79)) (gx_k (.bool false) w27 (gx_nil (gx_thenN (hK78 _ _ (gx_no (by kernel_rfl) (gx_region ?_))))))
 have hP102 : St _ _ w27 ([] ++ [poolE ([]) w0, boxE w0.heap.size [nS, nS, nS, nS, nS, nS, nS] 43, eW g0 zr zg zl zn, eR zr zs zA zb zc, eS zs b25]) := hS28
 obtain ⟨rq110, hc103, hE19⟩ := bind_in hE19
 rcases rq110 with q0 | x104
 try dsimp only at hE19
 cases hE19
 try dsimp only at hE19
 refine gx_callX _ (by kernel_rfl) (by kernel_rfl) (pan_gone (gGiveUp_ok N  _ hc103 w27 ) :) ?_
 rintro c108 w105 ⟨hx109, hT107⟩
 have hS106 : St _ _ w105 [poolE ([]) w0, boxE w0.heap.size [nS, nS, nS, nS, nS, nS, nS] 43, eW g0 zr zg zl zn, eR zr zs zA zb zc, eS zs b25] := hS28.take _ hT107
 refine gx_blkP (gx_thenP ?_)
 obtain rfl := sj hE19
 try dsimp only at hO20
 obtain rfl := sj hO20
 exact gx_finP (by kernel_rfl) (.inr ⟨_, rfl, _, rfl, hx109, (hS106.pick [2, 3, 4] rfl rfl)⟩)
 obtain ⟨x111, b112⟩ := q0
 try dsimp only at hE19
 refine gx_callX _ (by kernel_rfl) (by kernel_rfl) (pan_gone (gWord_ok N zg zl zn zb zq p1 g0 zr zA zc zs _ hc24 w3 (hP23.vwA hv0_0) hP23.part) :) ?_
 rintro c116 w113 ⟨hx117, hT115⟩
 have hS114 : St _ _ w113 [poolE ([]) w0, boxE w0.heap.size [nS, nS, nS, nS, nS, nS, nS] 43, eW g0 zr zg zl zn, eR zr zs zA zb zc, eS zs b112] := hP23.lendN _ hT115
 refine gx_thenP (gx_thenP ?_)
 obtain rfl := sj hE19
 try dsimp only at hO20
 obtain rfl := sj hO20
 exact gx_finP (by kernel_rfl) (.inr ⟨_, rfl, _, rfl, hx117, (hS114.pick [2, 3, 4] rfl rfl)⟩)
 rintro _ w7 ⟨x10, b11, l14, l17, A12, c13, A15, c16, hq183, rfl, hS8⟩
 obtain ⟨u9, rfl⟩ := selfA_u hq183
 try dsimp only at hO20
 refine gx_seq (fun K119 hK120 => gx_region (gx_k (vP g0) w7 (gx_k (.slice A12 l14.length c13) w7 (gx_k (i6 ((l14.length : Nat) : Int)) w7 ?_))))
 have hP121 : St _ _ w7 ([eW g0 zr zg zl x10, eR zr zs zA zb zc, eS zs b11] ++ [poolE ([]) w0, boxE w0.heap.size [nS, nS, nS, nS, nS, nS, nS] 43, rowE .u16 31 A12 c13 l14, rowE .u16 31 A15 c16 l17]) := hS8.pick [1, 2, 3, 0, 4, 5, 6] rfl rfl
 obtain ⟨rq182, hc122, hO20⟩ := bind_in hO20
 rcases rq182 with x123 | q0
 try dsimp only at hO20
 refine gx_c _ (pan_ok (gCount_ok N zg zl x10 zb b11 ((l14.length : Nat) : Int) g0 zr zA zc zs _ hc122 w7 (hP121.vwA hv0_0) hP121.part) :) ?_
 rintro _ w124 ⟨rfl, hT126⟩
 have hS125 : St _ _ w124 [poolE ([]) w0, boxE w0.heap.size [nS, nS, nS, nS, nS, nS, nS] 43, rowE .u16 31 A12 c13 l14, rowE .u16 31 A15 c16 l17, eW g0 zr zg zl x123, eR zr zs zA zb zc, eS zs b11] := hP121.lendN _ hT126
 refine gx_nil (gx_thenN (hK120 _ _ (gx_seq (fun K127 hK128 => gx_region (gx_k (.slice A12 l14.length c13) w124 (gx_k (vP g0) w124 (gx_k (.slice A15 l17.length c16) w124 ?_)))))))
 have hP129 : St _ _ w124 ([eW g0 zr zg zl x123, eR zr zs zA zb zc, eS zs b11] ++ [poolE ([]) w0, boxE w0.heap.size [nS, nS, nS, nS, nS, nS, nS] 43, rowE .u16 31 A12 c13 l14, rowE .u16 31 A15 c16 l17]) := hS125.pick [4, 5, 6, 0, 1, 2, 3] rfl rfl
 obtain ⟨rq174, hc130, hO20⟩ := bind_in hO20
 rcases rq174 with q0 | x168
 try dsimp only at hO20
 refine gx_c _ (pan_ok (gRight_ok N zg zl x123 zb b11 l17 g0 zr zA zc zs A15 c16 _ hc130 w124 (hP129.vwA hv0_0) (hP129.vwB 3 rfl) hP129.part) :) ?_
 rintro _ w131 ⟨rfl, hT133⟩
 have hS132 : St _ _ w131 [poolE ([]) w0, boxE w0.heap.size [nS, nS, nS, nS, nS, nS, nS] 43, rowE .u16 31 A12 c13 l14, rowE .u16 31 A15 c16 l17, eW g0 zr zg zl x123, eR zr zs zA zb zc, eS zs b11] := hP129.lendN _ hT133
 have hP134 : St _ _ w131 ([] ++ [poolE ([]) w0, boxE w0.heap.size [nS, nS, nS, nS, nS, nS, nS] 43, rowE .u16 31 A12 c13 l14, rowE .u16 31 A15 c16 l17, eW g0 zr zg zl x123, eR zr zs zA zb zc, eS zs b11]) := hS132
 obtain ⟨l136, hc135, hO20⟩ := bind_in hO20
 try dsimp only at hO20
 refine gx_c _ (gPaired_ok N l14 l17 A12 c13 A15 c16 _ hc135 w131 (hP134.vwB 2 rfl) (hP134.vwB 3 rfl)) ?_
 rintro _ w142 ⟨A137, c138, vs139, ft141, rfl, hT144, hf140⟩
 have hS143 : St _ _ w142 [poolE ([]) w0, boxE w0.heap.size [nS, nS, nS, nS, nS, nS, nS] 43, rowE .u16 31 A12 c13 l14, rowE .u16 31 A15 c16 l17, eW g0 zr zg zl x123, eR zr zs zA zb zc, eS zs b11, rowG 74 2 (.slice A137 l136.length c138) l136.length vs139, poolE ft141 w142] := hS132.take _ hT144
 obtain ⟨ft145, W146, hS147, hT148, hU149⟩ := hS143.merge 8 0 rfl rfl (by decide)
 have hS147 : St _ _ w142 [poolE ft145 W146, boxE w0.heap.size [nS, nS, nS, nS, nS, nS, nS] 43, rowE .u16 31 A12 c13 l14, rowE .u16 31 A15 c16 l17, eW g0 zr zg zl x123, eR zr zs zA zb zc, eS zs b11, rowG 74 2 (.slice A137 l136.length c138) l136.length vs139] := hS147
 have hT148 : Turn (foots [eW g0 zr zg zl zn, eR zr zs zA zb zc, eS zs zq]) w0 w0 ([]) W146 ft145 := hT148
 have hf152 : (fEach (pairE (intE .u16) (intE .u16)) vs139 l136).rd W146 ft145 := hU149 _ hf140
 refine gx_k (.agg #[.slice A137 l136.length c138, nS, nS, nS, nS, nS, nS]) w142 (gx_s (st_storeG (cs := [nS, nS, nS, nS, nS, nS, nS]) (ds := [.slice A137 l136.length c138, nS, nS, nS, nS, nS, nS]) rfl (by kernel_rfl) (by kernel_rfl) (by kernel_rfl) rfl rfl hS147 1 rfl) ?_)
 rintro w153 hS154
 have hS154 : St _ _ w153 [poolE ft145 W146, boxE w0.heap.size [.slice A137 l136.length c138, nS, nS, nS, nS, nS, nS] 43, rowE .u16 31 A12 c13 l14, rowE .u16 31 A15 c16 l17, eW g0 zr zg zl x123, eR zr zs zA zb zc, eS zs b11, rowG 74 2 (.slice A137 l136.length c138) l136.length vs139] := hS154
 refine gx_nil (gx_thenN (hK128 _ _ (gx_ret ?_)))
 have hS155 : St _ _ w153 [poolE ft145 W146, boxE w0.heap.size [.slice A137 l136.length c138, nS, nS, nS, nS, nS, nS] 43, rowE .u16 31 A12 c13 l14, rowE .u16 31 A15 c16 l17, eW g0 zr zg zl x123, eR zr zs zA zb zc, eS zs b11, rowG 74 2 (.slice A137 l136.length c138) l136.length vs139, rowG 76 2 (.slice none (([] : List (Int × List Int)).length) 0) (([] : List (Int × List Int)).length) ([])] := hS154.nilrowN 76 2
 have hf156 : (fEach (pairE (intE .u16) (rowOf (intE .u16))) [] []).rd W146 ft145 := each_nil
 have hS157 : St _ _ w153 [poolE ft145 W146, boxE w0.heap.size [.slice A137 l136.length c138, nS, nS, nS, nS, nS, nS] 43, rowE .u16 31 A12 c13 l14, rowE .u16 31 A15 c16 l17, eW g0 zr zg zl x123, eR zr zs zA zb zc, eS zs b11, rowG 74 2 (.slice A137 l136.length c138) l136.length vs139, rowG 76 2 (.slice none (([] : List (Int × List Int)).length) 0) (([] : List (Int × List Int)).length) ([]), rowG 62 2 (.slice none (([] : List (List Int × Int)).length) 0) (([] : List (List Int × Int)).length) ([])] := hS155.nilrowN 62 2
 have hf158 : (fEach (pairE (rowOf (intE .u16)) (intE .u16)) [] []).rd W146 ft145 := each_nil
 have hS159 : St _ _ w153 [poolE ft145 W146, boxE w0.heap.size [.slice A137 l136.length c138, nS, nS, nS, nS, nS, nS] 43, rowE .u16 31 A12 c13 l14, rowE .u16 31 A15 c16 l17, eW g0 zr zg zl x123, eR zr zs zA zb zc, eS zs b11, rowG 74 2 (.slice A137 l136.length c138) l136.length vs139, rowG 76 2 (.slice none (([] : List (Int × List Int)).length) 0) (([] : List (Int × List Int)).length) ([]), rowG 62 2 (.slice none (([] : List (List Int × Int)).length) 0) (([] : List (List Int × Int)).length) ([]), rowG 60 1 (.slice none (([] : List (List Int)).length) 0) (([] : List (List Int)).length) ([])] := hS157.nilrowN 60 1
 have hf160 : (fEach (rowOf (intE .u16)) [] []).rd W146 ft145 := each_nil
 have hS161 : St _ _ w153 [poolE ft145 W146, boxE w0.heap.size [.slice A137 l136.length c138, nS, nS, nS, nS, nS, nS] 43, rowE .u16 31 A12 c13 l14, rowE .u16 31 A15 c16 l17, eW g0 zr zg zl x123, eR zr zs zA zb zc, eS zs b11, rowG 74 2 (.slice A137 l136.length c138) l136.length vs139, rowG 76 2 (.slice none (([] : List (Int × List Int)).length) 0) (([] : List (Int × List Int)).length) ([]), rowG 62 2 (.slice none (([] : List (List Int × Int)).length) 0) (([] : List (List Int × Int)).length) ([]), rowG 60 1 (.slice none (([] : List (List Int)).length) 0) (([] : List (List Int)).length) ([]), rowG 60 1 (.slice none (([] : List (List Int)).length) 0) (([] : List (List Int)).length) ([])] := hS159.nilrowN 60 1
 have hf162 : (fEach (rowOf (intE .u16)) [] []).rd W146 ft145 := each_nil
 have hS163 : St _ _ w153 [poolE ft145 W146, boxE w0.heap.size [.slice A137 l136.length c138, nS, nS, nS, nS, nS, nS] 43, rowE .u16 31 A12 c13 l14, rowE .u16 31 A15 c16 l17, eW g0 zr zg zl x123, eR zr zs zA zb zc, eS zs b11, rowG 74 2 (.slice A137 l136.length c138) l136.length vs139, rowG 76 2 (.slice none (([] : List (Int × List Int)).length) 0) (([] : List (Int × List Int)).length) ([]), rowG 62 2 (.slice none (([] : List (List Int × Int)).length) 0) (([] : List (List Int × Int)).length) ([]), rowG 60 1 (.slice none (([] : List (List Int)).length) 0) (([] : List (List Int)).length) ([]), rowG 60 1 (.slice none (([] : List (List Int)).length) 0) (([] : List (List Int)).length) ([]), rowG 60 1 (.slice none (([] : List (List Int)).length) 0) (([] : List (List Int)).length) ([])] := hS161.nilrowN 60 1
 have hf164 : (fEach (rowOf (intE .u16)) [] []).rd W146 ft145 := each_nil
 have hS165 : St _ _ w153 [poolE ft145 W146, boxE w0.heap.size [.slice A137 l136.length c138, nS, nS, nS, nS, nS, nS] 43, rowE .u16 31 A12 c13 l14, rowE .u16 31 A15 c16 l17, eW g0 zr zg zl x123, eR zr zs zA zb zc, eS zs b11, rowG 74 2 (.slice A137 l136.length c138) l136.length vs139, rowG 76 2 (.slice none (([] : List (Int × List Int)).length) 0) (([] : List (Int × List Int)).length) ([]), rowG 62 2 (.slice none (([] : List (List Int × Int)).length) 0) (([] : List (List Int × Int)).length) ([]), rowG 60 1 (.slice none (([] : List (List Int)).length) 0) (([] : List (List Int)).length) ([]), rowG 60 1 (.slice none (([] : List (List Int)).length) 0) (([] : List (List Int)).length) ([]), rowG 60 1 (.slice none (([] : List (List Int)).length) 0) (([] : List (List Int)).length) ([]), rowG 79 2 (.slice none (([] : List (Int × Int)).length) 0) (([] : List (Int × Int)).length) ([])] := hS163.nilrowN 79 2
 have hf166 : (fEach (pairE (intE .i64) (intE .i64)) [] []).rd W146 ft145 := each_nil
 have hS167 : St _ _ w153 [poolE ft145 w153, boxE w0.heap.size [.slice A137 l136.length c138, nS, nS, nS, nS, nS, nS] 43, rowE .u16 31 A12 c13 l14, rowE .u16 31 A15 c16 l17, eW g0 zr zg zl x123, eR zr zs zA zb zc, eS zs b11, rowG 74 2 (.slice A137 l136.length c138) l136.length vs139, rowG 76 2 (.slice none (([] : List (Int × List Int)).length) 0) (([] : List (Int × List Int)).length) ([]), rowG 62 2 (.slice none (([] : List (List Int × Int)).length) 0) (([] : List (List Int × Int)).length) ([]), rowG 60 1 (.slice none (([] : List (List Int)).length) 0) (([] : List (List Int)).length) ([]), rowG 60 1 (.slice none (([] : List (List Int)).length) 0) (([] : List (List Int)).length) ([]), rowG 60 1 (.slice none (([] : List (List Int)).length) 0) (([] : List (List Int)).length) ([]), rowG 79 2 (.slice none (([] : List (Int × Int)).length) 0) (([] : List (Int × Int)).length) ([])] := hS165.renew 0 rfl
 obtain rfl := sj hO20
 exact gx_fin (.agg #[.slice A137 l136.length c138, .slice none (([] : List (Int × List Int)).length) 0, .slice none (([] : List (List Int × Int)).length) 0, .slice none (([] : List (List Int)).length) 0, .slice none (([] : List (List Int)).length) 0, .slice none (([] : List (List Int)).length) 0, .slice none (([] : List (Int × Int)).length) 0]) (by kernel_rfl) (res_cell rfl _ _ w0.heap.size _ _ _ (by kernel_rfl) (hS167.get 1 rfl) (by kernel_rfl) (by kernel_rfl)) (.inl ⟨_, rfl, _, rfl, A137, c138, vs139, none, 0, ([]), none, 0, ([]), none, 0, ([]), none, 0, ([]), none, 0, ([]), none, 0, ([]), ft145, rfl, (hS167.pick [4, 5, 6, 7, 8, 9, 10, 11, 12, 13, 0] rfl rfl), (hS165.now 0 rfl hf152), (hS165.now 0 rfl hf156), (hS165.now 0 rfl hf158), (hS165.now 0 rfl hf160), (hS165.now 0 rfl hf162), (hS165.now 0 rfl hf164), (hS165.now 0 rfl hf166)⟩)
 try dsimp only at hO20
 refine gx_callX _ (by kernel_rfl) (by kernel_rfl) (pan_gone (gRight_ok N zg zl x123 zb b11 l17 g0 zr zA zc zs A15 c16 _ hc130 w124 (hP129.vwA hv0_0) (hP129.vwB 3 rfl) hP129.part) :) ?_
 rintro c172 w169 ⟨hx173, hT171⟩
 have hS170 : St _ _ w169 [poolE ([]) w0, boxE w0.heap.size [nS, nS, nS, nS, nS, nS, nS] 43, rowE .u16 31 A12 c13 l14, rowE .u16 31 A15 c16 l17, eW g0 zr zg zl x123, eR zr zs zA zb zc, eS zs b11] := hP129.lendN _ hT171
 refine gx_thenP ?_
 obtain rfl := sj hO20
 exact gx_finP (by kernel_rfl) (.inr ⟨_, rfl, _, rfl, hx173, (hS170.pick [4, 5, 6] rfl rfl)⟩)
 obtain ⟨x175, x176⟩ := q0
 try dsimp only at hO20
 refine gx_callX _ (by kernel_rfl) (by kernel_rfl) (pan_gone (gCount_ok N zg zl x10 zb b11 ((l14.length : Nat) : Int) g0 zr zA zc zs _ hc122 w7 (hP121.vwA hv0_0) hP121.part) :) ?_
 rintro c180 w177 ⟨hx181, hT179⟩
 have hS178 : St _ _ w177 [poolE ([]) w0, boxE w0.heap.size [nS, nS, nS, nS, nS, nS, nS] 43, rowE .u16 31 A12 c13 l14, rowE .u16 31 A15 c16 l17, eW g0 zr zg zl x176, eR zr zs zA zb zc, eS zs b11] := hP121.lendN _ hT179
 refine gx_thenP ?_
 obtain rfl := sj hO20
 exact gx_finP (by kernel_rfl) (.inr ⟨_, rfl, _, rfl, hx181, (hS178.pick [4, 5, 6] rfl rfl)⟩)
def gRows_L1 (N : Nat) (zg : Int) (zl : Int) (zb : List Int) (p1 : Int) (l26 : List Int) : Nat → Int → Bool → (List (List Int)) → Int → Option (Ctl (Int × Bool × List (List Int)) (Pan (List Int × List (List Int) × Int × Bool) (Int × Int × Bool)))
 | 0, _, _, _, _ => none
 | k66+1, x58, b59, l64, x65 => (if x65 < ((l26.length : Nat) : Int) then ((ix l26 x65).bind fun x77 => ((gSize N zg zl x58 zb b59 (IntKind.i64.wrap (p1 + (IntKind.i64.wrap x77)))).bind fun | Pan.ok (x86, b85) => ((gCount N zg zl x58 zb b85 x86).bind fun | Pan.ok x94 => ((gWords N zg zl x94 zb b85 (IntKind.i64.wrap ((IntKind.i64.wrap (p1 + (IntKind.i64.wrap x77))) + 2)) x86).bind fun | Pan.ok (l101, b100) => ((gRight N zg zl x94 zb b100 l101).bind fun | Pan.ok _ => ((apg l64 ([l101] : List (List Int))).bind fun l120 => gRows_L1 N zg zl zb p1 l26 k66 x94 b100 l120 (IntKind.i64.wrap (x65 + 1))) | Pan.gone x128 => some (Ctl.ret (Pan.gone (x128, x94, b100)))) | Pan.gone (x135, b136) => some (Ctl.ret (Pan.gone (x135, x94, b136)))) | Pan.gone (x143, x144) => some (Ctl.ret (Pan.gone (x143, x144, b85)))) | Pan.gone (x151, b152) => some (Ctl.ret (Pan.gone (x151, x58, b152))))) else some (Ctl.go (x58, b59, l64)))
def gRows (N : Nat) (zg : Int) (zl : Int) (zn : Int) (zb : List Int) (zq : Bool) (p1 : Int) : Option (Pan (List Int × List (List Int) × Int × Bool) (Int × Int × Bool)) :=
 ((gWord N zg zl zn zb zq p1).bind fun | Pan.ok (x8, b7) => ((gRequire N (decide (x8 = 1))).bind fun | Pan.ok _ => ((gEach N zg zl zn zb b7 p1).bind fun | Pan.ok (l23, l26, x21, b22) => ((gRows_L1 N zg zl zb p1 l26 N x21 b22 ([] : List (List Int)) 0 : Option (Ctl (Int × Bool × List (List Int)) (Pan (List Int × List (List Int) × Int × Bool) (Int × Int × Bool)))).bind fun | Ctl.go (x38, b39, l44) => some (Pan.ok (l23, l44, x38, b39)) | Ctl.ret r => some r) | Pan.gone (x166, x167, b168) => some (Pan.gone (x166, x167, b168))) | Pan.gone x175 => some (Pan.gone (x175, zn, b7))) | Pan.gone (x182, b183) => some (Pan.gone (x182, zn, b183)))
def gRows_R (zg : Int) (zl : Int) (zn : Int) (zb : List Int) (zq : Bool) (p1 : Int) (g0 : Nat) (zr : Nat) (zA : Option Addr) (zc : Nat) (zs : Nat) (r : List Int × List (List Int) × Int × Bool) (w0 : World) (v : Value) (w : World) : Prop := ∃ (A0' : Option Addr) (c0' : Nat) (A1' : Option Addr) (c1' : Nat) (vs1' : List Value) (ft' : List Nat), v = .tuple #[.slice A0' r.1.length c0', .slice A1' r.2.1.length c1'] ∧ St (foots [eW g0 zr zg zl zn, eR zr zs zA zb zc, eS zs zq]) w0 w [eW g0 zr zg zl r.2.2.1, eR zr zs zA zb zc, eS zs r.2.2.2, rowE .u16 31 A0' c0' r.1, rowG 60 1 (.slice A1' r.2.1.length c1') r.2.1.length vs1', poolE ft' w] ∧ (fEach (rowOf (intE .u16)) vs1' r.2.1).rd w ft'
def gRows_X (zg : Int) (zl : Int) (zn : Int) (zb : List Int) (zq : Bool) (p1 : Int) (g0 : Nat) (zr : Nat) (zA : Option Addr) (zc : Nat) (zs : Nat) (g : Int × Int × Bool) (w0 : World) (c : List PanicEntry) (w : World) : Prop := c = goneB 113 g.1 ∧ St (foots [eW g0 zr zg zl zn, eR zr zs zA zb zc, eS zs zq]) w0 w [eW g0 zr zg zl g.2.1, eR zr zs zA zb zc, eS zs g.2.2]
theorem gRows_ok (N : Nat) (zg : Int) (zl : Int) (zn : Int) (zb : List Int) (zq : Bool) (p1 : Int) (g0 : Nat) (zr : Nat) (zA : Option Addr) (zc : Nat) (zs : Nat) (r : Pan (List Int × List (List Int) × Int × Bool) (Int × Int × Bool)) (hF : gRows N zg zl zn zb zq p1 = some r) (w0 : World) (hv0_0 : Vw (foots [eW g0 zr zg zl zn, eR zr zs zA zb zc, eS zs zq]) .u8 w0 zA zc zb) (hl : St (foots [eW g0 zr zg zl zn, eR zr zs zA zb zc, eS zs zq]) w0 w0 [eW g0 zr zg zl zn, eR zr zs zA zb zc, eS zs zq]) :
  Calls Try.prog 108 #[.pointer (some ⟨g0, 0, none⟩), .int .i64 p1] w0 fun e w => (∃ r', r = .ok r' ∧ ∃ v, e = .returned v ∧ gRows_R zg zl zn zb zq p1 g0 zr zA zc zs r' w0 v w) ∨ (∃ g, r = .gone g ∧ ∃ c, e = .panicked c ∧ gRows_X zg zl zn zb zq p1 g0 zr zA zc zs g w0 c w) := by
 have hS0 := (hl).pool0
 unfold gRows at hF
 refine calls_of Try.func108 rfl ⟨((vP g0) :: (i6 p1) :: un 49 ([])).toArray, []⟩ (by kernel_rfl) (gx_seq (fun K1 hK2 => gx_region (gx_k (nS) w0 (gx_k (nS) w0 (gx_nil (gx_thenN (hK2 _ _ (gx_seq (fun K3 hK4 => ?_)))))))))
 refine gx_region (gx_k (vP g0) w0 (gx_k (i6 p1) w0 ?_))
 have hP5 : St _ _ w0 ([eW g0 zr zg zl zn, eR zr zs zA zb zc, eS zs zq] ++ [poolE ([]) w0]) := hS0
 obtain ⟨rq189, hc6, hF⟩ := bind_in hF
 rcases rq189 with q0 | q0
 obtain ⟨x8, b7⟩ := q0
 try dsimp only at hF
 refine gx_c _ (pan_ok (gWord_ok N zg zl zn zb zq p1 g0 zr zA zc zs _ hc6 w0 (hP5.vwA hv0_0) hP5.part) :) ?_
 rintro _ w9 ⟨rfl, hT11⟩
 have hS10 : St _ _ w9 [poolE ([]) w0, eW g0 zr zg zl zn, eR zr zs zA zb zc, eS zs b7] := hP5.lendN _ hT11
 refine gx_k (.bool (decide (x8 = 1))) w9 ?_
 have hP12 : St _ _ w9 ([] ++ [poolE ([]) w0, eW g0 zr zg zl zn, eR zr zs zA zb zc, eS zs b7]) := hS10
 obtain ⟨rq181, hc13, hF⟩ := bind_in hF
 rcases rq181 with q0 | x175
 try dsimp only at hF
 refine gx_c _ (pan_ok (gRequire_ok N (decide (x8 = 1)) _ hc13 w9 ) :) ?_
 rintro _ w14 ⟨rfl, hT16⟩
 have hS15 : St _ _ w14 [poolE ([]) w0, eW g0 zr zg zl zn, eR zr zs zA zb zc, eS zs b7] := hS10.take _ hT16
 refine gx_nil (gx_thenN (hK4 _ _ (gx_seq (fun K17 hK18 => gx_region (gx_k (vP g0) w14 (gx_k (i6 p1) w14 ?_))))))
 have hP19 : St _ _ w14 ([eW g0 zr zg zl zn, eR zr zs zA zb zc, eS zs b7] ++ [poolE ([]) w0]) := hS15.pick [1, 2, 3, 0] rfl rfl
 obtain ⟨rq174, hc20, hF⟩ := bind_in hF
 rcases rq174 with q0 | q0
 obtain ⟨l23, l26, x21, b22⟩ := q0
 try dsimp only at hF
 refine gx_c _ (pan_ok (gEach_ok N zg zl zn zb b7 p1 g0 zr zA zc zs _ hc20 w14 (hP19.vwA hv0_0) hP19.part) :) ?_
 rintro _ w29 ⟨A24, c25, A27, c28, rfl, hT31⟩
 have hS30 : St _ _ w29 [poolE ([]) w0, eW g0 zr zg zl x21, eR zr zs zA zb zc, eS zs b22, rowE .u16 31 A24 c25 l23, rowE .u16 31 A27 c28 l26] := hP19.lendN _ hT31
 refine gx_k (.tuple #[.slice A24 l23.length c25, .slice A27 l26.length c28]) w29 (gx_k (.slice A24 l23.length c25) w29 (gx_k (.slice A27 l26.length c28) w29 (gx_k (.slice A24 l23.length c25) w29 (gx_k (.slice A27 l26.length c28) w29 (gx_nil (gx_thenN (hK18 _ _ ?_)))))))
 obtain ⟨c45, hE46, hO47⟩ := bind_in hF
 refine gx_cut (fun a w => ∃ (x38 : Int) (b39 : Bool) (l44 : List (List Int)) (ft35 : List Nat) (W36 : World) (A40 : Option Addr) (c41 : Nat) (vs42 : List Value), selfA (fun u34 => ⟨((vP g0) :: (i6 p1) :: undef :: undef :: (.slice A24 l23.length c25) :: (.slice A40 l44.length c41) :: (u34 6) :: undef :: dd u34 8 3 ((vP g0) :: (i6 p1) :: (u6 x8) :: (.bool (decide (x8 = 1))) :: dd u34 15 2 ((vP g0) :: (i6 p1) :: dd u34 19 30 (undef :: undef :: [])))).toArray, []⟩) a ∧ Ctl.go (x38, b39, l44) = c45 ∧ St (foots [eW g0 zr zg zl zn, eR zr zs zA zb zc, eS zs zq]) w0 w [poolE ft35 W36, eW g0 zr zg zl x38, eR zr zs zA zb zc, eS zs b39, rowE .u16 31 A24 c25 l23, rowG 60 1 (.slice A40 l44.length c41) l44.length vs42] ∧ Turn (foots [eW g0 zr zg zl zn, eR zr zs zA zb zc, eS zs zq]) w0 w0 ([]) W36 ft35 ∧ (fEach (rowOf (intE .u16)) vs42 l44).rd W36 ft35) ?_ ?_
 refine gx_seq (fun K48 hK49 => gx_region (gx_k (.slice A27 l26.length c28) w29 (gx_k (i6 ((l26.length : Nat) : Int)) w29 (gx_k (i6 0) w29 (gx_nil (gx_thenN (hK49 _ _ (gx_block ?_))))))))
 have hS50 : St _ _ w29 [poolE ([]) w0, eW g0 zr zg zl x21, eR zr zs zA zb zc, eS zs b22, rowE .u16 31 A24 c25 l23, rowE .u16 31 A27 c28 l26, rowG 60 1 (.slice none (([] : List (List Int)).length) 0) (([] : List (List Int)).length) ([])] := hS30.nilrowN 60 1
 have hf51 : (fEach (rowOf (intE .u16)) [] []).rd w0 ([]) := each_nil
 refine gx_loop (fun k a w => ∃ (x58 : Int) (b59 : Bool) (l64 : List (List Int)) (x65 : Int) (ft55 : List Nat) (W56 : World) (A60 : Option Addr) (c61 : Nat) (vs62 : List Value), selfA (fun u54 => ⟨((vP g0) :: (i6 p1) :: undef :: undef :: (.slice A24 l23.length c25) :: (.slice A60 l64.length c61) :: (u54 6) :: undef :: dd u54 8 3 ((vP g0) :: (i6 p1) :: (u6 x8) :: (.bool (decide (x8 = 1))) :: dd u54 15 2 ((vP g0) :: (i6 p1) :: dd u54 19 3 ((.slice A27 l26.length c28) :: (i6 ((l26.length : Nat) : Int)) :: (i6 x65) :: dd u54 25 24 (undef :: undef :: []))))).toArray, []⟩) a ∧ gRows_L1 N zg zl zb p1 l26 k x58 b59 l64 x65 = some c45 ∧ St (foots [eW g0 zr zg zl zn, eR zr zs zA zb zc, eS zs zq]) w0 w [poolE ft55 W56, eW g0 zr zg zl x58, eR zr zs zA zb zc, eS zs b59, rowE .u16 31 A24 c25 l23, rowG 60 1 (.slice A60 l64.length c61) l64.length vs62, rowE .u16 31 A27 c28 l26] ∧ Turn (foots [eW g0 zr zg zl zn, eR zr zs zA zb zc, eS zs zq]) w0 w0 ([]) W56 ft55 ∧ (fEach (rowOf (intE .u16)) vs62 l64).rd W56 ft55) N ?_ ?_
 exact ⟨x21, b22, ([] : List (List Int)), 0, ([]), w0, none, 0, ([]), selfA_i (by kernel_rfl), hE46, (hS50.pick [0, 1, 2, 3, 4, 6, 5] rfl rfl), (Turn.refl _ _ _ _), hf51⟩
 rintro k66 _ w52 ⟨x58, b59, l64, x65, ft55, W56, A60, c61, vs62, hq161, hL67, hS53, hT57, hf63⟩
 obtain ⟨u54, rfl⟩ := selfA_u hq161
 rcases k66 with _ | k66
 cases hL67
 first | rw [gRows_L1] at hL67 | unfold gRows_L1 at hL67
 refine gx_seq (fun K68 hK69 => gx_region ?_)
 rcases if_in hL67 with ⟨h70, hL67⟩ | ⟨h70, hL67⟩
 refine gx_v (.bool true) w52 (rbE (decide_eq_true h70)) (gx_nil (gx_thenN (hK69 _ _ (gx_seq (fun K71 hK72 => gx_yes (by kernel_rfl) (gx_pass (gx_thenN ?_)))))))
 refine hK72 _ _ (gx_seq (fun K73 hK74 => gx_block (gx_seq (fun K75 hK76 => gx_region ?_))))
 obtain ⟨x77, hx78, hL67⟩ := bind_in hL67
 refine gx_v (pI x65 A27) w52 (rix 31 .i64 hx78 ((hS53.row 6 rfl).1)) (gx_v (u6 x77) w52 (rlx (hS53.row 6 rfl).1 hx78) (gx_k (u6 x77) w52 (gx_nil (gx_thenN (hK76 _ _ (gx_seq (fun K79 hK80 => gx_region ?_)))))))
 refine gx_k (i6 p1) w52 (gx_k (u6 x77) w52 (gx_k (i6 (iw x77)) w52 (gx_k (i6 (iw (p1 + (iw x77)))) w52 (gx_k (i6 (iw (p1 + (iw x77)))) w52 (gx_nil (gx_thenN (hK80 _ _ (gx_seq (fun K81 hK82 => gx_region (gx_k (vP g0) w52 (gx_k (i6 (iw (p1 + (iw x77)))) w52 ?_)))))))))))
 have hP83 : St _ _ w52 ([eW g0 zr zg zl x58, eR zr zs zA zb zc, eS zs b59] ++ [poolE ft55 W56, rowE .u16 31 A24 c25 l23, rowG 60 1 (.slice A60 l64.length c61) l64.length vs62, rowE .u16 31 A27 c28 l26]) := hS53.pick [1, 2, 3, 0, 4, 5, 6] rfl rfl
 obtain ⟨rq158, hc84, hL67⟩ := bind_in hL67
 rcases rq158 with q0 | q0
 obtain ⟨x86, b85⟩ := q0
 try dsimp only at hL67
 refine gx_c _ (pan_ok (gSize_ok N zg zl x58 zb b59 (iw (p1 + (iw x77))) g0 zr zA zc zs _ hc84 w52 (hP83.vwA hv0_0) hP83.part) :) ?_
 rintro _ w87 ⟨rfl, hT89⟩
 have hS88 : St _ _ w87 [poolE ft55 W56, rowE .u16 31 A24 c25 l23, rowG 60 1 (.slice A60 l64.length c61) l64.length vs62, rowE .u16 31 A27 c28 l26, eW g0 zr zg zl x58, eR zr zs zA zb zc, eS zs b85] := hP83.lendN _ hT89
 refine gx_k (i6 x86) w87 (gx_nil (gx_thenN (hK82 _ _ (gx_seq (fun K90 hK91 => gx_region (gx_k (vP g0) w87 (gx_k (i6 x86) w87 ?_)))))))
 have hP92 : St _ _ w87 ([eW g0 zr zg zl x58, eR zr zs zA zb zc, eS zs b85] ++ [poolE ft55 W56, rowE .u16 31 A24 c25 l23, rowG 60 1 (.slice A60 l64.length c61) l64.length vs62, rowE .u16 31 A27 c28 l26]) := hS88.pick [4, 5, 6, 0, 1, 2, 3] rfl rfl
 obtain ⟨rq150, hc93, hL67⟩ := bind_in hL67
 rcases rq150 with x94 | q0
 try dsimp only at hL67
 refine gx_c _ (pan_ok (gCount_ok N zg zl x58 zb b85 x86 g0 zr zA zc zs _ hc93 w87 (hP92.vwA hv0_0) hP92.part) :) ?_
 rintro _ w95 ⟨rfl, hT97⟩
 have hS96 : St _ _ w95 [poolE ft55 W56, rowE .u16 31 A24 c25 l23, rowG 60 1 (.slice A60 l64.length c61) l64.length vs62, rowE .u16 31 A27 c28 l26, eW g0 zr zg zl x94, eR zr zs zA zb zc, eS zs b85] := hP92.lendN _ hT97
 refine gx_nil (gx_thenN (hK91 _ _ (gx_region (gx_k (.slice A60 l64.length c61) w95 (gx_k (vP g0) w95 (gx_k (vP g0) w95 (gx_k (i6 (iw (p1 + (iw x77)))) w95 (gx_k (i6 (iw ((iw (p1 + (iw x77))) + 2))) w95 (gx_k (i6 x86) w95 ?_)))))))))
 have hP98 : St _ _ w95 ([eW g0 zr zg zl x94, eR zr zs zA zb zc, eS zs b85] ++ [poolE ft55 W56, rowE .u16 31 A24 c25 l23, rowG 60 1 (.slice A60 l64.length c61) l64.length vs62, rowE .u16 31 A27 c28 l26]) := hS96.pick [4, 5, 6, 0, 1, 2, 3] rfl rfl
 obtain ⟨rq142, hc99, hL67⟩ := bind_in hL67
 rcases rq142 with q0 | q0
 obtain ⟨l101, b100⟩ := q0
 try dsimp only at hL67
 refine gx_c _ (pan_ok (gWords_ok N zg zl x94 zb b85 (iw ((iw (p1 + (iw x77))) + 2)) x86 g0 zr zA zc zs _ hc99 w95 (hP98.vwA hv0_0) hP98.part) :) ?_
 rintro _ w104 ⟨A102, c103, rfl, hT106⟩
 have hS105 : St _ _ w104 [poolE ft55 W56, rowE .u16 31 A24 c25 l23, rowG 60 1 (.slice A60 l64.length c61) l64.length vs62, rowE .u16 31 A27 c28 l26, eW g0 zr zg zl x94, eR zr zs zA zb zc, eS zs b100, rowE .u16 31 A102 c103 l101] := hP98.lendN _ hT106
 have hP107 : St _ _ w104 ([eW g0 zr zg zl x94, eR zr zs zA zb zc, eS zs b100] ++ [poolE ft55 W56, rowE .u16 31 A24 c25 l23, rowG 60 1 (.slice A60 l64.length c61) l64.length vs62, rowE .u16 31 A27 c28 l26, rowE .u16 31 A102 c103 l101]) := hS105.pick [4, 5, 6, 0, 1, 2, 3, 7] rfl rfl
 obtain ⟨rq134, hc108, hL67⟩ := bind_in hL67
 rcases rq134 with q0 | x128
 try dsimp only at hL67
 refine gx_c _ (pan_ok (gRight_ok N zg zl x94 zb b100 l101 g0 zr zA zc zs A102 c103 _ hc108 w104 (hP107.vwA hv0_0) (hP107.vwB 4 rfl) hP107.part) :) ?_
 rintro _ w109 ⟨rfl, hT111⟩
 have hS110 : St _ _ w109 [poolE ft55 W56, rowE .u16 31 A24 c25 l23, rowG 60 1 (.slice A60 l64.length c61) l64.length vs62, rowE .u16 31 A27 c28 l26, rowE .u16 31 A102 c103 l101, eW g0 zr zg zl x94, eR zr zs zA zb zc, eS zs b100] := hP107.lendN _ hT111
 obtain ⟨ft112, W113, hS114, hT115, hf116⟩ := hS110.freezeE 4 0 rfl rfl (by decide)
 have hS114 : St _ _ w109 [poolE ft112 W113, rowE .u16 31 A24 c25 l23, rowG 60 1 (.slice A60 l64.length c61) l64.length vs62, rowE .u16 31 A27 c28 l26, eW g0 zr zg zl x94, eR zr zs zA zb zc, eS zs b100] := hS114
 have hT115 : Turn (foots [eW g0 zr zg zl zn, eR zr zs zA zb zc, eS zs zq]) w0 W56 ft55 W113 ft112 := hT115
 have hf116 : (fSl (intE .u16) A102 c103 (List.map (Value.int .u16) l101) l101).rd W113 ft112 := hf116
 have hf117 : (fEach (rowOf (intE .u16)) [.slice A102 l101.length c103] [l101]).rd W113 ft112 := (each_cons (rd_row rfl hf116) each_nil)
 refine gx_r (st_madeP (e := (rowOf (intE .u16))) 60 1 [.slice A102 l101.length c103] [l101] hS114 rfl hf117 (by decide) (by kernel_rfl)) ?_
 rintro _ w118 ⟨rfl, hS119⟩
 have hS119 : St _ _ w118 [poolE ft112 W113, rowE .u16 31 A24 c25 l23, rowG 60 1 (.slice A60 l64.length c61) l64.length vs62, rowE .u16 31 A27 c28 l26, eW g0 zr zg zl x94, eR zr zs zA zb zc, eS zs b100, rowG 60 1 (.slice (some ⟨w109.heap.size, 0, none⟩) 1 1) 1 ([.slice A102 l101.length c103])] := hS119
 obtain ⟨l120, ha121, hL67⟩ := bind_in hL67
 refine gx_r (st_appendP (e := (rowOf (intE .u16))) rfl (by kernel_rfl) (by kernel_rfl) hS119 2 rfl rfl (show 1 = ([l101] : List (List Int)).length from rfl) (hT115.pool hf63) hf117 (rowG_lies (e := (rowOf (intE .u16))) (show 1 = ([l101] : List (List Int)).length from rfl) (hS119.get 7 rfl)) (rowG_spec (e := (rowOf (intE .u16))) (show 1 = ([l101] : List (List Int)).length from rfl) (hS119.get 7 rfl)).2.2.1 ha121 (by kernel_rfl) (by kernel_rfl) (by decide)) ?_
 rintro _ w126 ⟨A122, c123, vs124, rfl, hf125, hS127⟩
 have hS127 : St _ _ w126 [poolE ft112 W113, rowE .u16 31 A24 c25 l23, rowG 60 1 (.slice A122 l120.length c123) l120.length vs124, rowE .u16 31 A27 c28 l26, eW g0 zr zg zl x94, eR zr zs zA zb zc, eS zs b100, rowG 60 1 (.slice (some ⟨w109.heap.size, 0, none⟩) 1 1) 1 ([.slice A102 l101.length c103])] := hS127
 refine gx_k (.slice A122 l120.length c123) w126 (gx_nil (gx_blkN (gx_thenN (hK74 _ _ (gx_region (gx_k (i6 (iw (x65 + 1))) w126 (gx_k (i6 (iw (x65 + 1))) w126 (gx_nil ?_))))))))
 refine gx_thenN ?_
 exact ⟨k66, Nat.lt_succ_self k66, x94, b100, l120, (iw (x65 + 1)), ft112, W113, A122, c123, vs124, selfA_i (by kernel_rfl), hL67, (hS127.pick [0, 4, 5, 6, 1, 2, 3] rfl rfl), (Turn.trans hT57 hT115), hf125⟩
 try dsimp only at hL67
 refine gx_callX _ (by kernel_rfl) (by kernel_rfl) (pan_gone (gRight_ok N zg zl x94 zb b100 l101 g0 zr zA zc zs A102 c103 _ hc108 w104 (hP107.vwA hv0_0) (hP107.vwB 4 rfl) hP107.part) :) ?_
 rintro c132 w129 ⟨hx133, hT131⟩
 have hS130 : St _ _ w129 [poolE ft55 W56, rowE .u16 31 A24 c25 l23, rowG 60 1 (.slice A60 l64.length c61) l64.length vs62, rowE .u16 31 A27 c28 l26, rowE .u16 31 A102 c103 l101, eW g0 zr zg zl x94, eR zr zs zA zb zc, eS zs b100] := hP107.lendN _ hT131
 refine gx_blkP (gx_thenP (gx_thenP (gx_blkP (gx_thenP ?_))))
 obtain rfl := sj hL67
 try dsimp only at hO47
 obtain rfl := sj hO47
 exact gx_finP (by kernel_rfl) (.inr ⟨_, rfl, _, rfl, hx133, (hS130.pick [5, 6, 7] rfl rfl)⟩)
 obtain ⟨x135, b136⟩ := q0
 try dsimp only at hL67
 refine gx_callX _ (by kernel_rfl) (by kernel_rfl) (pan_gone (gWords_ok N zg zl x94 zb b85 (iw ((iw (p1 + (iw x77))) + 2)) x86 g0 zr zA zc zs _ hc99 w95 (hP98.vwA hv0_0) hP98.part) :) ?_
 rintro c140 w137 ⟨hx141, hT139⟩
 have hS138 : St _ _ w137 [poolE ft55 W56, rowE .u16 31 A24 c25 l23, rowG 60 1 (.slice A60 l64.length c61) l64.length vs62, rowE .u16 31 A27 c28 l26, eW g0 zr zg zl x94, eR zr zs zA zb zc, eS zs b136] := hP98.lendN _ hT139
 refine gx_blkP (gx_thenP (gx_thenP (gx_blkP (gx_thenP ?_))))
 obtain rfl := sj hL67
 try dsimp only at hO47
 obtain rfl := sj hO47
 exact gx_finP (by kernel_rfl) (.inr ⟨_, rfl, _, rfl, hx141, (hS138.pick [4, 5, 6] rfl rfl)⟩)
 obtain ⟨x143, x144⟩ := q0
 try dsimp only at hL67
 refine gx_callX _ (by kernel_rfl) (by kernel_rfl) (pan_gone (gCount_ok N zg zl x58 zb b85 x86 g0 zr zA zc zs _ hc93 w87 (hP92.vwA hv0_0) hP92.part) :) ?_
 rintro c148 w145 ⟨hx149, hT147⟩
 have hS146 : St _ _ w145 [poolE ft55 W56, rowE .u16 31 A24 c25 l23, rowG 60 1 (.slice A60 l64.length c61) l64.length vs62, rowE .u16 31 A27 c28 l26, eW g0 zr zg zl x144, eR zr zs zA zb zc, eS zs b85] := hP92.lendN _ hT147
 refine gx_thenP (gx_blkP (gx_thenP (gx_thenP (gx_blkP (gx_thenP ?_)))))
 obtain rfl := sj hL67
 try dsimp only at hO47
 obtain rfl := sj hO47
 exact gx_finP (by kernel_rfl) (.inr ⟨_, rfl, _, rfl, hx149, (hS146.pick [4, 5, 6] rfl rfl)⟩)
 obtain ⟨x151, b152⟩ := q0
 try dsimp only at hL67
 refine gx_callX _ (by kernel_rfl) (by kernel_rfl) (pan_gone (gSize_ok N zg zl x58 zb b59 (iw (p1 + (iw x77))) g0 zr zA zc zs _ hc84 w52 (hP83.vwA hv0_0) hP83.part) :) ?_
 rintro c156 w153 ⟨hx157, hT155⟩
 have hS154 : St _ _ w153 [poolE ft55 W56, rowE .u16 31 A24 c25 l23, rowG 60 1 (.slice A60 l64.length c61) l64.length vs62, rowE .u16 31 A27 c28 l26, eW g0 zr zg zl x58, eR zr zs zA zb zc, eS zs b152] := hP83.lendN _ hT155
 refine gx_thenP (gx_blkP (gx_thenP (gx_thenP (gx_blkP (gx_thenP ?_)))))
 obtain rfl := sj hL67
 try dsimp only at hO47
 obtain rfl := sj hO47
 exact gx_finP (by kernel_rfl) (.inr ⟨_, rfl, _, rfl, hx157, (hS154.pick [4, 5, 6] rfl rfl)⟩)
 refine gx_v (.bool false) w52 (rbE (decide_eq_false h70)) (gx_nil (gx_thenN (hK69 _ _ (gx_seq (fun K159 hK160 => gx_no (by kernel_rfl) (gx_exit (gx_thenE ?_)))))))
 refine gx_thenE (gx_blkE (gx_thenN ?_))
 exact ⟨x58, b59, l64, ft55, W56, A60, c61, vs62, selfA_i (by kernel_rfl), (sj hL67), (hS53.pick [0, 1, 2, 3, 4, 5] rfl rfl), hT57, hf63⟩
 rintro _ w32 ⟨x38, b39, l44, ft35, W36, A40, c41, vs42, hq165, rfl, hS33, hT37, hf43⟩
 obtain ⟨u34, rfl⟩ := selfA_u hq165
 try dsimp only at hO47
 refine gx_seq (fun K162 hK163 => gx_region (gx_k (.slice A24 l23.length c25) w32 (gx_k (.slice A40 l44.length c41) w32 (gx_k (.slice A24 l23.length c25) w32 (gx_k (.slice A40 l44.length c41) w32 (gx_nil (gx_thenN (hK163 _ _ (gx_ret ?_)))))))))
 have hS164 : St _ _ w32 [poolE ft35 w32, eW g0 zr zg zl x38, eR zr zs zA zb zc, eS zs b39, rowE .u16 31 A24 c25 l23, rowG 60 1 (.slice A40 l44.length c41) l44.length vs42] := hS33.renew 0 rfl
 obtain rfl := sj hO47
 exact gxF (.tuple #[.slice A24 l23.length c25, .slice A40 l44.length c41]) (.inl ⟨_, rfl, _, rfl, A24, c25, A40, c41, vs42, ft35, rfl, (hS164.pick [1, 2, 3, 4, 5, 0] rfl rfl), (hS33.now 0 rfl hf43)⟩)
 obtain ⟨x166, x167, b168⟩ := q0
 try dsimp only at hF
 refine gx_callX _ (by kernel_rfl) (by kernel_rfl) (pan_gone (gEach_ok N zg zl zn zb b7 p1 g0 zr zA zc zs _ hc20 w14 (hP19.vwA hv0_0) hP19.part) :) ?_
 rintro c172 w169 ⟨hx173, hT171⟩
 have hS170 : St _ _ w169 [poolE ([]) w0, eW g0 zr zg zl x167, eR zr zs zA zb zc, eS zs b168] := hP19.lendN _ hT171
 refine gx_thenP ?_
 obtain rfl := sj hF
 exact gx_finP (by kernel_rfl) (.inr ⟨_, rfl, _, rfl, hx173, (hS170.pick [1, 2, 3] rfl rfl)⟩)
 try dsimp only at hF
 refine gx_callX _ (by kernel_rfl) (by kernel_rfl) (pan_gone (gRequire_ok N (decide (x8 = 1)) _ hc13 w9 ) :) ?_
 rintro c179 w176 ⟨hx180, hT178⟩
 have hS177 : St _ _ w176 [poolE ([]) w0, eW g0 zr zg zl zn, eR zr zs zA zb zc, eS zs b7] := hS10.take _ hT178
 refine gx_thenP ?_
 obtain rfl := sj hF
 exact gx_finP (by kernel_rfl) (.inr ⟨_, rfl, _, rfl, hx180, (hS177.pick [1, 2, 3] rfl rfl)⟩)
 obtain ⟨x182, b183⟩ := q0
 try dsimp only at hF
 refine gx_callX _ (by kernel_rfl) (by kernel_rfl) (pan_gone (gWord_ok N zg zl zn zb zq p1 g0 zr zA zc zs _ hc6 w0 (hP5.vwA hv0_0) hP5.part) :) ?_
 rintro c187 w184 ⟨hx188, hT186⟩
 have hS185 : St _ _ w184 [poolE ([]) w0, eW g0 zr zg zl zn, eR zr zs zA zb zc, eS zs b183] := hP5.lendN _ hT186
 refine gx_thenP ?_
 obtain rfl := sj hF
 exact gx_finP (by kernel_rfl) (.inr ⟨_, rfl, _, rfl, hx188, (hS185.pick [1, 2, 3] rfl rfl)⟩)
def gMultiple_L1 (N : Nat) (l11 : List Int) (l14 : List (List Int)) : Nat → (List (Int × List Int)) → Int → Option (List (Int × List Int))
 | 0, _, _ => none
 | k67+1, l63, x66 => (if x66 < ((l11.length : Nat) : Int) then ((ix l11 x66).bind fun x78 => ((ixg l14 x66).bind fun x80 => ((ixg l63 x66).bind fun _x93 => ((setg l63 x66 (x78, x80)).bind fun l110 => gMultiple_L1 N l11 l14 k67 l110 (IntKind.i64.wrap (x66 + 1)))))) else some (l63))
def gMultiple (N : Nat) (zg : Int) (zl : Int) (zn : Int) (zb : List Int) (zq : Bool) (p1 : Int) : Option (Pan (List (Int × Int) × List (Int × List Int) × List (List Int × Int) × List (List Int) × List (List Int) × List (List Int) × List (Int × Int) × Int × Bool) (Int × Int × Bool)) :=
 ((gRows N zg zl zn zb zq p1).bind fun | Pan.ok (l11, l14, x9, b10) => ((mkg ((l11.length : Nat) : Int) ((0, []) : Int × List Int)).bind fun l33 => ((gMultiple_L1 N l11 l14 N l33 0 : Option (List (Int × List Int))).bind fun l48 => some (Pan.ok (([] : List (Int × Int)), l48, ([] : List (List Int × Int)), ([] : List (List Int)), ([] : List (List Int)), ([] : List (List Int)), ([] : List (Int × Int)), x9, b10)))) | Pan.gone (x138, x139, b140) => some (Pan.gone (x138, x139, b140)))
def gMultiple_R (zg : Int) (zl : Int) (zn : Int) (zb : List Int) (zq : Bool) (p1 : Int) (g0 : Nat) (zr : Nat) (zA : Option Addr) (zc : Nat) (zs : Nat) (r : List (Int × Int) × List (Int × List Int) × List (List Int × Int) × List (List Int) × List (List Int) × List (List Int) × List (Int × Int) × Int × Bool) (w0 : World) (v : Value) (w : World) : Prop := ∃ (A0_0' : Option Addr) (c0_0' : Nat) (vs0_0' : List Value) (A0_1' : Option Addr) (c0_1' : Nat) (vs0_1' : List Value) (A0_2' : Option Addr) (c0_2' : Nat) (vs0_2' : List Value) (A0_3' : Option Addr) (c0_3' : Nat) (vs0_3' : List Value) (A0_4' : Option Addr) (c0_4' : Nat) (vs0_4' : List Value) (A0_5' : Option Addr) (c0_5' : Nat) (vs0_5' : List Value) (A0_6' : Option Addr) (c0_6' : Nat) (vs0_6' : List Value) (ft' : List Nat), v = .agg #[.slice A0_0' r.1.length c0_0', .slice A0_1' r.2.1.length c0_1', .slice A0_2' r.2.2.1.length c0_2', .slice A0_3' r.2.2.2.1.length c0_3', .slice A0_4' r.2.2.2.2.1.length c0_4', .slice A0_5' r.2.2.2.2.2.1.length c0_5', .slice A0_6' r.2.2.2.2.2.2.1.length c0_6'] ∧ St (foots [eW g0 zr zg zl zn, eR zr zs zA zb zc, eS zs zq]) w0 w [eW g0 zr zg zl r.2.2.2.2.2.2.2.1, eR zr zs zA zb zc, eS zs r.2.2.2.2.2.2.2.2, rowG 74 2 (.slice A0_0' r.1.length c0_0') r.1.length vs0_0', rowG 76 2 (.slice A0_1' r.2.1.length c0_1') r.2.1.length vs0_1', rowG 62 2 (.slice A0_2' r.2.2.1.length c0_2') r.2.2.1.length vs0_2', rowG 60 1 (.slice A0_3' r.2.2.2.1.length c0_3') r.2.2.2.1.length vs0_3', rowG 60 1 (.slice A0_4' r.2.2.2.2.1.length c0_4') r.2.2.2.2.1.length vs0_4', rowG 60 1 (.slice A0_5' r.2.2.2.2.2.1.length c0_5') r.2.2.2.2.2.1.length vs0_5', rowG 79 2 (.slice A0_6' r.2.2.2.2.2.2.1.length c0_6') r.2.2.2.2.2.2.1.length vs0_6', poolE ft' w] ∧ (fEach (pairE (intE .u16) (intE .u16)) vs0_0' r.1).rd w ft' ∧ (fEach (pairE (intE .u16) (rowOf (intE .u16))) vs0_1' r.2.1).rd w ft' ∧ (fEach (pairE (rowOf (intE .u16)) (intE .u16)) vs0_2' r.2.2.1).rd w ft' ∧ (fEach (rowOf (intE .u16)) vs0_3' r.2.2.2.1).rd w ft' ∧ (fEach (rowOf (intE .u16)) vs0_4' r.2.2.2.2.1).rd w ft' ∧ (fEach (rowOf (intE .u16)) vs0_5' r.2.2.2.2.2.1).rd w ft' ∧ (fEach (pairE (intE .i64) (intE .i64)) vs0_6' r.2.2.2.2.2.2.1).rd w ft'
def gMultiple_X (zg : Int) (zl : Int) (zn : Int) (zb : List Int) (zq : Bool) (p1 : Int) (g0 : Nat) (zr : Nat) (zA : Option Addr) (zc : Nat) (zs : Nat) (g : Int × Int × Bool) (w0 : World) (c : List PanicEntry) (w : World) : Prop := c = goneB 113 g.1 ∧ St (foots [eW g0 zr zg zl zn, eR zr zs zA zb zc, eS zs zq]) w0 w [eW g0 zr zg zl g.2.1, eR zr zs zA zb zc, eS zs g.2.2]
theorem gMultiple_ok (N : Nat) (zg : Int) (zl : Int) (zn : Int) (zb : List Int) (zq : Bool) (p1 : Int) (g0 : Nat) (zr : Nat) (zA : Option Addr) (zc : Nat) (zs : Nat) (r : Pan (List (Int × Int) × List (Int × List Int) × List (List Int × Int) × List (List Int) × List (List Int) × List (List Int) × List (Int × Int) × Int × Bool) (Int × Int × Bool)) (hF : gMultiple N zg zl zn zb zq p1 = some r) (w0 : World) (hv0_0 : Vw (foots [eW g0 zr zg zl zn, eR zr zs zA zb zc, eS zs zq]) .u8 w0 zA zc zb) (hl : St (foots [eW g0 zr zg zl zn, eR zr zs zA zb zc, eS zs zq]) w0 w0 [eW g0 zr zg zl zn, eR zr zs zA zb zc, eS zs zq]) :
  Calls Try.prog 88 #[.pointer (some ⟨g0, 0, none⟩), .int .i64 p1] w0 fun e w => (∃ r', r = .ok r' ∧ ∃ v, e = .returned v ∧ gMultiple_R zg zl zn zb zq p1 g0 zr zA zc zs r' w0 v w) ∨ (∃ g, r = .gone g ∧ ∃ c, e = .panicked c ∧ gMultiple_X zg zl zn zb zq p1 g0 zr zA zc zs g w0 c w) := by
 have hS0 := (hl).pool0
 unfold gMultiple at hF
 refine calls_of Try.func88 rfl ⟨((vP g0) :: (i6 p1) :: un 36 ([])).toArray, []⟩ (by kernel_rfl) (gx_seq (fun K1 hK2 => gx_region (gx_r (st_boxed [nS, nS, nS, nS, nS, nS, nS] 43 hS0 (by kernel_rfl)) ?_)))
 rintro _ w3 ⟨rfl, hS4⟩
 have hS4 : St _ _ w3 [eW g0 zr zg zl zn, eR zr zs zA zb zc, eS zs zq, poolE ([]) w0, boxE w0.heap.size [nS, nS, nS, nS, nS, nS, nS] 43] := hS4
 refine gx_nil (gx_thenN (hK2 _ _ (gx_seq (fun K5 hK6 => gx_region (gx_k (vP g0) w3 (gx_k (i6 p1) w3 ?_))))))
 have hP7 : St _ _ w3 ([eW g0 zr zg zl zn, eR zr zs zA zb zc, eS zs zq] ++ [poolE ([]) w0, boxE w0.heap.size [nS, nS, nS, nS, nS, nS, nS] 43]) := hS4
 obtain ⟨rq146, hc8, hF⟩ := bind_in hF
 rcases rq146 with q0 | q0
 obtain ⟨l11, l14, x9, b10⟩ := q0
 try dsimp only at hF
 refine gx_c _ (pan_ok (gRows_ok N zg zl zn zb zq p1 g0 zr zA zc zs _ hc8 w3 (hP7.vwA hv0_0) hP7.part) :) ?_
 rintro _ w20 ⟨A12, c13, A15, c16, vs17, ft19, rfl, hT22, hf18⟩
 have hS21 : St _ _ w20 [poolE ([]) w0, boxE w0.heap.size [nS, nS, nS, nS, nS, nS, nS] 43, eW g0 zr zg zl x9, eR zr zs zA zb zc, eS zs b10, rowE .u16 31 A12 c13 l11, rowG 60 1 (.slice A15 l14.length c16) l14.length vs17, poolE ft19 w20] := hP7.lendN _ hT22
 obtain ⟨ft23, W24, hS25, hT26, hU27⟩ := hS21.merge 7 0 rfl rfl (by decide)
 have hS25 : St _ _ w20 [poolE ft23 W24, boxE w0.heap.size [nS, nS, nS, nS, nS, nS, nS] 43, eW g0 zr zg zl x9, eR zr zs zA zb zc, eS zs b10, rowE .u16 31 A12 c13 l11, rowG 60 1 (.slice A15 l14.length c16) l14.length vs17] := hS25
 have hT26 : Turn (foots [eW g0 zr zg zl zn, eR zr zs zA zb zc, eS zs zq]) w0 w0 ([]) W24 ft23 := hT26
 have hf30 : (fEach (rowOf (intE .u16)) vs17 l14).rd W24 ft23 := hU27 _ hf18
 refine gx_k (.tuple #[.slice A12 l11.length c13, .slice A15 l14.length c16]) w20 (gx_k (.slice A12 l11.length c13) w20 (gx_k (.slice A15 l14.length c16) w20 (gx_k (.slice A12 l11.length c13) w20 (gx_k (.slice A15 l14.length c16) w20 (gx_nil (gx_thenN (hK6 _ _ (gx_seq (fun K31 hK32 => gx_region (gx_k (.slice A12 l11.length c13) w20 (gx_k (i6 ((l11.length : Nat) : Int)) w20 ?_)))))))))))
 obtain ⟨l33, hm34, hF⟩ := bind_in hF
 refine gx_r (st_makeP (k1 := .i64) (k2 := .i64) (e := (pairE (intE .u16) (rowOf (intE .u16)))) (T := 76) (by_ := 32) (z := .agg #[u6 0, nS]) (W := W24) (ft := ft23) rfl (by kernel_rfl) (by kernel_rfl) (by kernel_rfl) (by kernel_rfl) (by kernel_rfl) (by decide) (rd_pair (rd_intg .u16 (0 : Int)) (rd_row rfl fSl_nil)) hS25 hm34) ?_
 rintro _ w35 ⟨A37, c38, vs39, rfl, hf40, hS36⟩
 have hS36 : St _ _ w35 [poolE ft23 W24, boxE w0.heap.size [nS, nS, nS, nS, nS, nS, nS] 43, eW g0 zr zg zl x9, eR zr zs zA zb zc, eS zs b10, rowE .u16 31 A12 c13 l11, rowG 60 1 (.slice A15 l14.length c16) l14.length vs17, rowG 76 2 (.slice A37 l33.length c38) l33.length vs39] := hS36
 refine gx_k (.slice A37 l33.length c38) w35 (gx_nil (gx_thenN (hK32 _ _ ?_)))
 obtain ⟨c51, hE52, hO53⟩ := bind_in hF
 refine gx_cut (fun a w => ∃ (l48 : List (Int × List Int)) (ft44 : List Nat) (W45 : World) (vs49 : List Value), selfA (fun u43 => ⟨((vP g0) :: (i6 p1) :: undef :: undef :: (vP w0.heap.size) :: dd u43 5 2 ((.slice A37 l33.length c38) :: dd u43 8 3 ((vP g0) :: (i6 p1) :: dd u43 13 4 ((i6 ((l11.length : Nat) : Int)) :: dd u43 18 18 (undef :: undef :: []))))).toArray, []⟩) a ∧ l48 = c51 ∧ St (foots [eW g0 zr zg zl zn, eR zr zs zA zb zc, eS zs zq]) w0 w [poolE ft44 W45, boxE w0.heap.size [nS, nS, nS, nS, nS, nS, nS] 43, eW g0 zr zg zl x9, eR zr zs zA zb zc, eS zs b10, rowG 76 2 (.slice A37 l33.length c38) l33.length vs49] ∧ Turn (foots [eW g0 zr zg zl zn, eR zr zs zA zb zc, eS zs zq]) w0 W24 ft23 W45 ft44 ∧ (fEach (pairE (intE .u16) (rowOf (intE .u16))) vs49 l48).rd W45 ft44 ∧ l33.length = l48.length) ?_ ?_
 refine gx_seq (fun K54 hK55 => gx_region (gx_k (.slice A12 l11.length c13) w35 (gx_k (i6 ((l11.length : Nat) : Int)) w35 (gx_k (i6 0) w35 (gx_nil (gx_thenN (hK55 _ _ (gx_block (gx_loop (fun k a w => ∃ (l63 : List (Int × List Int)) (x66 : Int) (ft59 : List Nat) (W60 : World) (vs64 : List Value), selfA (fun u58 => ⟨((vP g0) :: (i6 p1) :: undef :: undef :: (vP w0.heap.size) :: (u58 5) :: (.slice A15 l14.length c16) :: (.slice A37 l33.length c38) :: dd u58 8 3 ((vP g0) :: (i6 p1) :: dd u58 13 4 ((i6 ((l11.length : Nat) : Int)) :: (u58 18) :: (.slice A12 l11.length c13) :: (i6 ((l11.length : Nat) : Int)) :: (i6 x66) :: dd u58 22 14 (undef :: undef :: [])))).toArray, []⟩) a ∧ gMultiple_L1 N l11 l14 k l63 x66 = some c51 ∧ St (foots [eW g0 zr zg zl zn, eR zr zs zA zb zc, eS zs zq]) w0 w [poolE ft59 W60, boxE w0.heap.size [nS, nS, nS, nS, nS, nS, nS] 43, eW g0 zr zg zl x9, eR zr zs zA zb zc, eS zs b10, rowG 60 1 (.slice A15 l14.length c16) l14.length vs17, rowG 76 2 (.slice A37 l33.length c38) l33.length vs64, rowE .u16 31 A12 c13 l11] ∧ Turn (foots [eW g0 zr zg zl zn, eR zr zs zA zb zc, eS zs zq]) w0 W24 ft23 W60 ft59 ∧ (fEach (pairE (intE .u16) (rowOf (intE .u16))) vs64 l63).rd W60 ft59 ∧ l33.length = l63.length) N ?_ ?_)))))))))
 exact ⟨l33, 0, ft23, W24, vs39, selfA_i (by kernel_rfl), hE52, (hS36.pick [0, 1, 2, 3, 4, 6, 7, 5] rfl rfl), (Turn.refl _ _ _ _), hf40, rfl⟩
 rintro k67 _ w56 ⟨l63, x66, ft59, W60, vs64, hq118, hL68, hS57, hT61, hf65, hn62⟩
 obtain ⟨u58, rfl⟩ := selfA_u hq118
 rcases k67 with _ | k67
 cases hL68
 first | rw [gMultiple_L1] at hL68 | unfold gMultiple_L1 at hL68
 refine gx_seq (fun K69 hK70 => gx_region ?_)
 rcases if_in hL68 with ⟨h71, hL68⟩ | ⟨h71, hL68⟩
 refine gx_v (.bool true) w56 (rbE (decide_eq_true h71)) (gx_nil (gx_thenN (hK70 _ _ (gx_seq (fun K72 hK73 => gx_yes (by kernel_rfl) (gx_pass (gx_thenN ?_)))))))
 refine hK73 _ _ (gx_seq (fun K74 hK75 => gx_block (gx_seq (fun K76 hK77 => gx_region (gx_k (i6 x66) w56 ?_)))))
 obtain ⟨x78, hx79, hL68⟩ := bind_in hL68
 refine gx_v (pI x66 A12) w56 (rix 31 .i64 hx79 ((hS57.row 7 rfl).1)) (gx_v (u6 x78) w56 (rlx (hS57.row 7 rfl).1 hx79) (gx_k (i6 x66) w56 (gx_k (u6 x78) w56 (gx_nil (gx_thenN (hK77 _ _ (gx_region (gx_k (.slice A37 l33.length c38) w56 (gx_k (i6 x66) w56 (gx_k (u6 x78) w56 (gx_k (.slice A15 l14.length c16) w56 (gx_k (i6 x66) w56 ?_))))))))))))
 obtain ⟨x80, hx81, hL68⟩ := bind_in hL68
 obtain ⟨g82, o83, e84, hA85, he86, h87, ha88⟩ := elem_at (e := (rowOf (intE .u16))) (rowG_lies (e := (rowOf (intE .u16))) rfl (hS57.get 5 rfl)) (hT61.pool hf30) hx81 (by decide)
 obtain ⟨A89, c90, vs91, rfl, hf92⟩ := h87
 have ha88 : ∀ w', Lies w' A15 vs17 → w'.rangeAt g82 o83 [.slice A89 x80.length c90] := ha88
 refine gx_v (.pointer (some ⟨g82, o83, none⟩)) w56 (run_ixaddrN (E := 60) (s := 1) (k := .i64) (c := c16) rfl (by kernel_rfl) (by kernel_rfl) (by kernel_rfl) (fun _ => by kernel_rfl) (ixg_in hx81).1 (ixg_in hx81).2.1 hA85) (gx_v (.slice A89 x80.length c90) w56 (run_loadN1 0 rfl (by kernel_rfl) (fun _ => by kernel_rfl) (ha88 _ (rowG_lies (e := (rowOf (intE .u16))) rfl (hS57.get 5 rfl))) rfl) (gx_k (.agg #[u6 x78, .slice A89 x80.length c90]) w56 ?_))
 obtain ⟨x93, hx94, hL68⟩ := bind_in hL68
 obtain ⟨g95, o96, e97, hA98, he99, h100, ha101⟩ := elem_at (e := (pairE (intE .u16) (rowOf (intE .u16)))) (rowG_lies (e := (pairE (intE .u16) (rowOf (intE .u16)))) hn62 (hS57.get 6 rfl)) hf65 hx94 (by decide)
 obtain ⟨e102, e103, rfl, h104, h105⟩ := h100
 obtain rfl := h104
 obtain ⟨A106, c107, vs108, rfl, hf109⟩ := h105
 have ha101 : ∀ w', Lies w' A37 vs64 → w'.rangeAt g95 o96 [u6 x93.1, .slice A106 ((x93.2).length) c107] := ha101
 refine gx_v (.pointer (some ⟨g95, o96, none⟩)) w56 (run_ixaddrN (E := 76) (s := 2) (k := .i64) (c := c38) rfl (by kernel_rfl) (by kernel_rfl) (by kernel_rfl) (fun _ => by kernel_rfl) (ixg_in hx94).1 (lt_len hn62 (ixg_in hx94).2.1) hA98) ?_
 obtain ⟨l110, hx111, hL68⟩ := bind_in hL68
 refine gx_s (st_setN (e := (pairE (intE .u16) (rowOf (intE .u16)))) (ds := [u6 x78, .slice A89 x80.length c90]) rfl (by kernel_rfl) (by kernel_rfl) (by kernel_rfl) hS57 6 rfl hn62 hf65 hA98 (rd_pair (rd_intg .u16 x78) (rd_row rfl hf92)) hx111) ?_
 rintro w112 ⟨vs114, hf115, hS113⟩
 have hS113 : St _ _ w112 [poolE ft59 W60, boxE w0.heap.size [nS, nS, nS, nS, nS, nS, nS] 43, eW g0 zr zg zl x9, eR zr zs zA zb zc, eS zs b10, rowG 60 1 (.slice A15 l14.length c16) l14.length vs17, rowG 76 2 (.slice A37 l33.length c38) l33.length vs114, rowE .u16 31 A12 c13 l11] := hS113
 refine gx_nil (gx_blkN (gx_thenN (hK75 _ _ (gx_region (gx_k (i6 (iw (x66 + 1))) w112 (gx_k (i6 (iw (x66 + 1))) w112 (gx_nil (gx_thenN ?_))))))))
 exact ⟨k67, Nat.lt_succ_self k67, l110, (iw (x66 + 1)), ft59, W60, vs114, selfA_i (by kernel_rfl), hL68, hS113, hT61, hf115, (hn62.trans (setg_len hx111).symm)⟩
 refine gx_v (.bool false) w56 (rbE (decide_eq_false h71)) (gx_nil (gx_thenN (hK70 _ _ (gx_seq (fun K116 hK117 => gx_no (by kernel_rfl) (gx_exit (gx_thenE ?_)))))))
 refine gx_thenE (gx_blkE (gx_thenN ?_))
 exact ⟨l63, ft59, W60, vs64, selfA_i (by kernel_rfl), (sj hL68), (hS57.pick [0, 1, 2, 3, 4, 6] rfl rfl), hT61, hf65, hn62⟩
 rintro _ w41 ⟨l48, ft44, W45, vs49, hq137, rfl, hS42, hT46, hf50, hn47⟩
 obtain ⟨u43, rfl⟩ := selfA_u hq137
 try dsimp only at hO53
 refine gx_seq (fun K119 hK120 => gx_region (gx_k (.slice A37 l33.length c38) w41 (gx_k (.agg #[nS, .slice A37 l33.length c38, nS, nS, nS, nS, nS]) w41 (gx_s (st_storeG (cs := [nS, nS, nS, nS, nS, nS, nS]) (ds := [nS, .slice A37 l33.length c38, nS, nS, nS, nS, nS]) rfl (by kernel_rfl) (by kernel_rfl) (by kernel_rfl) rfl rfl hS42 1 rfl) ?_))))
 rintro w121 hS122
 have hS122 : St _ _ w121 [poolE ft44 W45, boxE w0.heap.size [nS, .slice A37 l33.length c38, nS, nS, nS, nS, nS] 43, eW g0 zr zg zl x9, eR zr zs zA zb zc, eS zs b10, rowG 76 2 (.slice A37 l33.length c38) l33.length vs49] := hS122
 refine gx_nil (gx_thenN (hK120 _ _ (gx_ret ?_)))
 have hS123 : St _ _ w121 [poolE ft44 W45, boxE w0.heap.size [nS, .slice A37 l33.length c38, nS, nS, nS, nS, nS] 43, eW g0 zr zg zl x9, eR zr zs zA zb zc, eS zs b10, rowG 76 2 (.slice A37 l33.length c38) l33.length vs49, rowG 74 2 (.slice none (([] : List (Int × Int)).length) 0) (([] : List (Int × Int)).length) ([])] := hS122.nilrowN 74 2
 have hf124 : (fEach (pairE (intE .u16) (intE .u16)) [] []).rd W45 ft44 := each_nil
 have hS125 : St _ _ w121 [poolE ft44 W45, boxE w0.heap.size [nS, .slice A37 l33.length c38, nS, nS, nS, nS, nS] 43, eW g0 zr zg zl x9, eR zr zs zA zb zc, eS zs b10, rowG 76 2 (.slice A37 l33.length c38) l33.length vs49, rowG 74 2 (.slice none (([] : List (Int × Int)).length) 0) (([] : List (Int × Int)).length) ([]), rowG 62 2 (.slice none (([] : List (List Int × Int)).length) 0) (([] : List (List Int × Int)).length) ([])] := hS123.nilrowN 62 2
 have hf126 : (fEach (pairE (rowOf (intE .u16)) (intE .u16)) [] []).rd W45 ft44 := each_nil
 have hS127 : St _ _ w121 [poolE ft44 W45, boxE w0.heap.size [nS, .slice A37 l33.length c38, nS, nS, nS, nS, nS] 43, eW g0 zr zg zl x9, eR zr zs zA zb zc, eS zs b10, rowG 76 2 (.slice A37 l33.length c38) l33.length vs49, rowG 74 2 (.slice none (([] : List (Int × Int)).length) 0) (([] : List (Int × Int)).length) ([]), rowG 62 2 (.slice none (([] : List (List Int × Int)).length) 0) (([] : List (List Int × Int)).length) ([]), rowG 60 1 (.slice none (([] : List (List Int)).length) 0) (([] : List (List Int)).length) ([])] := hS125.nilrowN 60 1
 have hf128 : (fEach (rowOf (intE .u16)) [] []).rd W45 ft44 := each_nil
 have hS129 : St _ _ w121 [poolE ft44 W45, boxE w0.heap.size [nS, .slice A37 l33.length c38, nS, nS, nS, nS, nS] 43, eW g0 zr zg zl x9, eR zr zs zA zb zc, eS zs b10, rowG 76 2 (.slice A37 l33.length c38) l33.length vs49, rowG 74 2 (.slice none (([] : List (Int × Int)).length) 0) (([] : List (Int × Int)).length) ([]), rowG 62 2 (.slice none (([] : List (List Int × Int)).length) 0) (([] : List (List Int × Int)).length) ([]), rowG 60 1 (.slice none (([] : List (List Int)).length) 0) (([] : List (List Int)).length) ([]), rowG 60 1 (.slice none (([] : List (List Int)).length) 0) (([] : List (List Int)).length) ([])] := hS127.nilrowN 60 1
 have hf130 : (fEach (rowOf (intE .u16)) [] []).rd W45 ft44 := each_nil
 have hS131 : St _ _ w121 [poolE ft44 W45, boxE w0.heap.size [nS, .slice A37 l33.length c38, nS, nS, nS, nS, nS] 43, eW g0 zr zg zl x9, eR zr zs zA zb zc, eS zs b10, rowG 76 2 (.slice A37 l33.length c38) l33.length vs49, rowG 74 2 (.slice none (([] : List (Int × Int)).length) 0) (([] : List (Int × Int)).length) ([]), rowG 62 2 (.slice none (([] : List (List Int × Int)).length) 0) (([] : List (List Int × Int)).length) ([]), rowG 60 1 (.slice none (([] : List (List Int)).length) 0) (([] : List (List Int)).length) ([]), rowG 60 1 (.slice none (([] : List (List Int)).length) 0) (([] : List (List Int)).length) ([]), rowG 60 1 (.slice none (([] : List (List Int)).length) 0) (([] : List (List Int)).length) ([])] := hS129.nilrowN 60 1
 have hf132 : (fEach (rowOf (intE .u16)) [] []).rd W45 ft44 := each_nil
 have hS133 : St _ _ w121 [poolE ft44 W45, boxE w0.heap.size [nS, .slice A37 l33.length c38, nS, nS, nS, nS, nS] 43, eW g0 zr zg zl x9, eR zr zs zA zb zc, eS zs b10, rowG 76 2 (.slice A37 l33.length c38) l33.length vs49, rowG 74 2 (.slice none (([] : List (Int × Int)).length) 0) (([] : List (Int × Int)).length) ([]), rowG 62 2 (.slice none (([] : List (List Int × Int)).length) 0) (([] : List (List Int × Int)).length) ([]), rowG 60 1 (.slice none (([] : List (List Int)).length) 0) (([] : List (List Int)).length) ([]), rowG 60 1 (.slice none (([] : List (List Int)).length) 0) (([] : List (List Int)).length) ([]), rowG 60 1 (.slice none (([] : List (List Int)).length) 0) (([] : List (List Int)).length) ([]), rowG 79 2 (.slice none (([] : List (Int × Int)).length) 0) (([] : List (Int × Int)).length) ([])] := hS131.nilrowN 79 2
 have hf134 : (fEach (pairE (intE .i64) (intE .i64)) [] []).rd W45 ft44 := each_nil
 have hS135 : St _ _ w121 [poolE ft44 W45, boxE w0.heap.size [nS, .slice A37 l33.length c38, nS, nS, nS, nS, nS] 43, eW g0 zr zg zl x9, eR zr zs zA zb zc, eS zs b10, rowG 76 2 (.slice A37 l48.length c38) l48.length vs49, rowG 74 2 (.slice none (([] : List (Int × Int)).length) 0) (([] : List (Int × Int)).length) ([]), rowG 62 2 (.slice none (([] : List (List Int × Int)).length) 0) (([] : List (List Int × Int)).length) ([]), rowG 60 1 (.slice none (([] : List (List Int)).length) 0) (([] : List (List Int)).length) ([]), rowG 60 1 (.slice none (([] : List (List Int)).length) 0) (([] : List (List Int)).length) ([]), rowG 60 1 (.slice none (([] : List (List Int)).length) 0) (([] : List (List Int)).length) ([]), rowG 79 2 (.slice none (([] : List (Int × Int)).length) 0) (([] : List (Int × Int)).length) ([])] := hS133.len (e := (pairE (intE .u16) (rowOf (intE .u16)))) 5 rfl hn47
 have hS136 : St _ _ w121 [poolE ft44 w121, boxE w0.heap.size [nS, .slice A37 l33.length c38, nS, nS, nS, nS, nS] 43, eW g0 zr zg zl x9, eR zr zs zA zb zc, eS zs b10, rowG 76 2 (.slice A37 l48.length c38) l48.length vs49, rowG 74 2 (.slice none (([] : List (Int × Int)).length) 0) (([] : List (Int × Int)).length) ([]), rowG 62 2 (.slice none (([] : List (List Int × Int)).length) 0) (([] : List (List Int × Int)).length) ([]), rowG 60 1 (.slice none (([] : List (List Int)).length) 0) (([] : List (List Int)).length) ([]), rowG 60 1 (.slice none (([] : List (List Int)).length) 0) (([] : List (List Int)).length) ([]), rowG 60 1 (.slice none (([] : List (List Int)).length) 0) (([] : List (List Int)).length) ([]), rowG 79 2 (.slice none (([] : List (Int × Int)).length) 0) (([] : List (Int × Int)).length) ([])] := hS135.renew 0 rfl
 obtain rfl := sj hO53
 exact gx_fin (.agg #[.slice none (([] : List (Int × Int)).length) 0, .slice A37 l33.length c38, .slice none (([] : List (List Int × Int)).length) 0, .slice none (([] : List (List Int)).length) 0, .slice none (([] : List (List Int)).length) 0, .slice none (([] : List (List Int)).length) 0, .slice none (([] : List (Int × Int)).length) 0]) (by kernel_rfl) (res_cell rfl _ _ w0.heap.size _ _ _ (by kernel_rfl) (hS136.get 1 rfl) (by kernel_rfl) (by kernel_rfl)) (.inl ⟨_, rfl, _, rfl, none, 0, ([]), A37, c38, vs49, none, 0, ([]), none, 0, ([]), none, 0, ([]), none, 0, ([]), none, 0, ([]), ft44, by rw [← hn47] <;> kernel_rfl, (hS136.pick [2, 3, 4, 6, 5, 7, 8, 9, 10, 11, 0] rfl rfl), (hS135.now 0 rfl hf124), (hS135.now 0 rfl hf50), (hS135.now 0 rfl hf126), (hS135.now 0 rfl hf128), (hS135.now 0 rfl hf130), (hS135.now 0 rfl hf132), (hS135.now 0 rfl hf134)⟩)
 obtain ⟨x138, x139, b140⟩ := q0
 try dsimp only at hF
 refine gx_callX _ (by kernel_rfl) (by kernel_rfl) (pan_gone (gRows_ok N zg zl zn zb zq p1 g0 zr zA zc zs _ hc8 w3 (hP7.vwA hv0_0) hP7.part) :) ?_
 rintro c144 w141 ⟨hx145, hT143⟩
 have hS142 : St _ _ w141 [poolE ([]) w0, boxE w0.heap.size [nS, nS, nS, nS, nS, nS, nS] 43, eW g0 zr zg zl x139, eR zr zs zA zb zc, eS zs b140] := hP7.lendN _ hT143
 refine gx_thenP ?_
 obtain rfl := sj hF
 exact gx_finP (by kernel_rfl) (.inr ⟨_, rfl, _, rfl, hx145, (hS142.pick [2, 3, 4] rfl rfl)⟩)
def gAlternate_L1 (N : Nat) (l14 : List (List Int)) : Nat → (List Int) → Int → Option (List Int)
 | 0, _, _ => none
 | k55+1, l53, x54 => (if x54 < ((l14.length : Nat) : Int) then ((ixg l14 x54).bind fun x66 => ((ix x66 (0 : Int)).bind fun x79 => ((ix l53 x54).bind fun _x81 => ((setx l53 x54 x79).bind fun l85 => gAlternate_L1 N l14 k55 l85 (IntKind.i64.wrap (x54 + 1)))))) else some (l53))
def gAlternate (N : Nat) (zg : Int) (zl : Int) (zn : Int) (zb : List Int) (zq : Bool) (p1 : Int) : Option (Pan (List (Int × Int) × List (Int × List Int) × List (List Int × Int) × List (List Int) × List (List Int) × List (List Int) × List (Int × Int) × Int × Bool) (Int × Int × Bool)) :=
 ((gRows N zg zl zn zb zq p1).bind fun | Pan.ok (l11, l14, x9, b10) => ((mkx ((l11.length : Nat) : Int)).bind fun l33 => ((gAlternate_L1 N l14 N l33 0 : Option (List Int)).bind fun l43 => ((gPaired N l11 l43).bind fun l94 => some (Pan.ok (l94, ([] : List (Int × List Int)), ([] : List (List Int × Int)), ([] : List (List Int)), ([] : List (List Int)), ([] : List (List Int)), ([] : List (Int × Int)), x9, b10))))) | Pan.gone (x127, x128, b129) => some (Pan.gone (x127, x128, b129)))
def gAlternate_R (zg : Int) (zl : Int) (zn : Int) (zb : List Int) (zq : Bool) (p1 : Int) (g0 : Nat) (zr : Nat) (zA : Option Addr) (zc : Nat) (zs : Nat) (r : List (Int × Int) × List (Int × List Int) × List (List Int × Int) × List (List Int) × List (List Int) × List (List Int) × List (Int × Int) × Int × Bool) (w0 : World) (v : Value) (w : World) : Prop := ∃ (A0_0' : Option Addr) (c0_0' : Nat) (vs0_0' : List Value) (A0_1' : Option Addr) (c0_1' : Nat) (vs0_1' : List Value) (A0_2' : Option Addr) (c0_2' : Nat) (vs0_2' : List Value) (A0_3' : Option Addr) (c0_3' : Nat) (vs0_3' : List Value) (A0_4' : Option Addr) (c0_4' : Nat) (vs0_4' : List Value) (A0_5' : Option Addr) (c0_5' : Nat) (vs0_5' : List Value) (A0_6' : Option Addr) (c0_6' : Nat) (vs0_6' : List Value) (ft' : List Nat), v = .agg #[.slice A0_0' r.1.length c0_0', .slice A0_1' r.2.1.length c0_1', .slice A0_2' r.2.2.1.length c0_2', .slice A0_3' r.2.2.2.1.length c0_3', .slice A0_4' r.2.2.2.2.1.length c0_4', .slice A0_5' r.2.2.2.2.2.1.length c0_5', .slice A0_6' r.2.2.2.2.2.2.1.length c0_6'] ∧ St (foots [eW g0 zr zg zl zn, eR zr zs zA zb zc, eS zs zq]) w0 w [eW g0 zr zg zl r.2.2.2.2.2.2.2.1, eR zr zs zA zb zc, eS zs r.2.2.2.2.2.2.2.2, rowG 74 2 (.slice A0_0' r.1.length c0_0') r.1.length vs0_0', rowG 76 2 (.slice A0_1' r.2.1.length c0_1') r.2.1.length vs0_1', rowG 62 2 (.slice A0_2' r.2.2.1.length c0_2') r.2.2.1.length vs0_2', rowG 60 1 (.slice A0_3' r.2.2.2.1.length c0_3') r.2.2.2.1.length vs0_3', rowG 60 1 (.slice A0_4' r.2.2.2.2.1.length c0_4') r.2.2.2.2.1.length vs0_4', rowG 60 1 (.slice A0_5' r.2.2.2.2.2.1.length c0_5') r.2.2.2.2.2.1.length vs0_5', rowG 79 2 (.slice A0_6' r.2.2.2.2.2.2.1.length c0_6') r.2.2.2.2.2.2.1.length vs0_6', poolE ft' w] ∧ (fEach (pairE (intE .u16) (intE .u16)) vs0_0' r.1).rd w ft' ∧ (fEach (pairE (intE .u16) (rowOf (intE .u16))) vs0_1' r.2.1).rd w ft' ∧ (fEach (pairE (rowOf (intE .u16)) (intE .u16)) vs0_2' r.2.2.1).rd w ft' ∧ (fEach (rowOf (intE .u16)) vs0_3' r.2.2.2.1).rd w ft' ∧ (fEach (rowOf (intE .u16)) vs0_4' r.2.2.2.2.1).rd w ft' ∧ (fEach (rowOf (intE .u16)) vs0_5' r.2.2.2.2.2.1).rd w ft' ∧ (fEach (pairE (intE .i64) (intE .i64)) vs0_6' r.2.2.2.2.2.2.1).rd w ft'
def gAlternate_X (zg : Int) (zl : Int) (zn : Int) (zb : List Int) (zq : Bool) (p1 : Int) (g0 : Nat) (zr : Nat) (zA : Option Addr) (zc : Nat) (zs : Nat) (g : Int × Int × Bool) (w0 : World) (c : List PanicEntry) (w : World) : Prop := c = goneB 113 g.1 ∧ St (foots [eW g0 zr zg zl zn, eR zr zs zA zb zc, eS zs zq]) w0 w [eW g0 zr zg zl g.2.1, eR zr zs zA zb zc, eS zs g.2.2]
theorem gAlternate_ok (N : Nat) (zg : Int) (zl : Int) (zn : Int) (zb : List Int) (zq : Bool) (p1 : Int) (g0 : Nat) (zr : Nat) (zA : Option Addr) (zc : Nat) (zs : Nat) (r : Pan (List (Int × Int) × List (Int × List Int) × List (List Int × Int) × List (List Int) × List (List Int) × List (List Int) × List (Int × Int) × Int × Bool) (Int × Int × Bool)) (hF : gAlternate N zg zl zn zb zq p1 = some r) (w0 : World) (hv0_0 : Vw (foots [eW g0 zr zg zl zn, eR zr zs zA zb zc, eS zs zq]) .u8 w0 zA zc zb) (hl : St (foots [eW g0 zr zg zl zn, eR zr zs zA zb zc, eS zs zq]) w0 w0 [eW g0 zr zg zl zn, eR zr zs zA zb zc, eS zs zq]) :
  Calls Try.prog 89 #[.pointer (some ⟨g0, 0, none⟩), .int .i64 p1] w0 fun e w => (∃ r', r = .ok r' ∧ ∃ v, e = .returned v ∧ gAlternate_R zg zl zn zb zq p1 g0 zr zA zc zs r' w0 v w) ∨ (∃ g, r = .gone g ∧ ∃ c, e = .panicked c ∧ gAlternate_X zg zl zn zb zq p1 g0 zr zA zc zs g w0 c w) := by
 have hS0 := (hl).pool0
 unfold gAlternate at hF
 refine calls_of Try.func89 rfl ⟨((vP g0) :: (i6 p1) :: un 35 ([])).toArray, []⟩ (by kernel_rfl) (gx_seq (fun K1 hK2 => gx_region (gx_r (st_boxed [nS, nS, nS, nS, nS, nS, nS] 43 hS0 (by kernel_rfl)) ?_)))
 rintro _ w3 ⟨rfl, hS4⟩
 have hS4 : St _ _ w3 [eW g0 zr zg zl zn, eR zr zs zA zb zc, eS zs zq, poolE ([]) w0, boxE w0.heap.size [nS, nS, nS, nS, nS, nS, nS] 43] := hS4
 refine gx_nil (gx_thenN (hK2 _ _ (gx_seq (fun K5 hK6 => gx_region (gx_k (vP g0) w3 (gx_k (i6 p1) w3 ?_))))))
 have hP7 : St _ _ w3 ([eW g0 zr zg zl zn, eR zr zs zA zb zc, eS zs zq] ++ [poolE ([]) w0, boxE w0.heap.size [nS, nS, nS, nS, nS, nS, nS] 43]) := hS4
 obtain ⟨rq135, hc8, hF⟩ := bind_in hF
 rcases rq135 with q0 | q0
 obtain ⟨l11, l14, x9, b10⟩ := q0
 try dsimp only at hF
 refine gx_c _ (pan_ok (gRows_ok N zg zl zn zb zq p1 g0 zr zA zc zs _ hc8 w3 (hP7.vwA hv0_0) hP7.part) :) ?_
 rintro _ w20 ⟨A12, c13, A15, c16, vs17, ft19, rfl, hT22, hf18⟩
 have hS21 : St _ _ w20 [poolE ([]) w0, boxE w0.heap.size [nS, nS, nS, nS, nS, nS, nS] 43, eW g0 zr zg zl x9, eR zr zs zA zb zc, eS zs b10, rowE .u16 31 A12 c13 l11, rowG 60 1 (.slice A15 l14.length c16) l14.length vs17, poolE ft19 w20] := hP7.lendN _ hT22
 obtain ⟨ft23, W24, hS25, hT26, hU27⟩ := hS21.merge 7 0 rfl rfl (by decide)
 have hS25 : St _ _ w20 [poolE ft23 W24, boxE w0.heap.size [nS, nS, nS, nS, nS, nS, nS] 43, eW g0 zr zg zl x9, eR zr zs zA zb zc, eS zs b10, rowE .u16 31 A12 c13 l11, rowG 60 1 (.slice A15 l14.length c16) l14.length vs17] := hS25
 have hT26 : Turn (foots [eW g0 zr zg zl zn, eR zr zs zA zb zc, eS zs zq]) w0 w0 ([]) W24 ft23 := hT26
 have hf30 : (fEach (rowOf (intE .u16)) vs17 l14).rd W24 ft23 := hU27 _ hf18
 refine gx_k (.tuple #[.slice A12 l11.length c13, .slice A15 l14.length c16]) w20 (gx_k (.slice A12 l11.length c13) w20 (gx_k (.slice A15 l14.length c16) w20 (gx_k (.slice A12 l11.length c13) w20 (gx_k (.slice A15 l14.length c16) w20 (gx_nil (gx_thenN (hK6 _ _ (gx_seq (fun K31 hK32 => gx_region (gx_k (.slice A12 l11.length c13) w20 (gx_k (i6 ((l11.length : Nat) : Int)) w20 ?_)))))))))))
 obtain ⟨l33, hm34, hF⟩ := bind_in hF
 refine gx_r (st_make (T := 31) (k := .u16) (by_ := 2) rfl (by kernel_rfl) (by kernel_rfl) (by kernel_rfl) (by kernel_rfl) (by kernel_rfl) hS25 hm34) ?_
 rintro _ w35 ⟨A37, c38, rfl, hS36⟩
 have hS36 : St _ _ w35 [poolE ft23 W24, boxE w0.heap.size [nS, nS, nS, nS, nS, nS, nS] 43, eW g0 zr zg zl x9, eR zr zs zA zb zc, eS zs b10, rowE .u16 31 A12 c13 l11, rowG 60 1 (.slice A15 l14.length c16) l14.length vs17, rowE .u16 31 A37 c38 l33] := hS36
 refine gx_k (.slice A37 l33.length c38) w35 (gx_nil (gx_thenN (hK32 _ _ ?_)))
 obtain ⟨c44, hE45, hO46⟩ := bind_in hF
 refine gx_cut (fun a w => ∃ (l43 : List Int), selfA (fun u41 => ⟨((vP g0) :: (i6 p1) :: undef :: undef :: (vP w0.heap.size) :: (.slice A12 l11.length c13) :: (u41 6) :: (.slice A37 l33.length c38) :: dd u41 8 3 ((vP g0) :: (i6 p1) :: dd u41 13 4 ((i6 ((l11.length : Nat) : Int)) :: dd u41 18 15 (un 4 ([]))))).toArray, []⟩) a ∧ l43 = c44 ∧ St (foots [eW g0 zr zg zl zn, eR zr zs zA zb zc, eS zs zq]) w0 w [poolE ft23 W24, boxE w0.heap.size [nS, nS, nS, nS, nS, nS, nS] 43, eW g0 zr zg zl x9, eR zr zs zA zb zc, eS zs b10, rowE .u16 31 A12 c13 l11, rowE .u16 31 A37 c38 l43] ∧ l33.length = l43.length) ?_ ?_
 refine gx_seq (fun K47 hK48 => gx_region (gx_k (.slice A15 l14.length c16) w35 (gx_k (i6 ((l14.length : Nat) : Int)) w35 (gx_k (i6 0) w35 (gx_nil (gx_thenN (hK48 _ _ (gx_block (gx_loop (fun k a w => ∃ (l53 : List Int) (x54 : Int), selfA (fun u51 => ⟨((vP g0) :: (i6 p1) :: undef :: undef :: (vP w0.heap.size) :: (.slice A12 l11.length c13) :: (u51 6) :: (.slice A37 l33.length c38) :: dd u51 8 3 ((vP g0) :: (i6 p1) :: dd u51 13 4 ((i6 ((l11.length : Nat) : Int)) :: (u51 18) :: (.slice A15 l14.length c16) :: (i6 ((l14.length : Nat) : Int)) :: (i6 x54) :: dd u51 22 11 (un 4 ([]))))).toArray, []⟩) a ∧ gAlternate_L1 N l14 k l53 x54 = some c44 ∧ St (foots [eW g0 zr zg zl zn, eR zr zs zA zb zc, eS zs zq]) w0 w [poolE ft23 W24, boxE w0.heap.size [nS, nS, nS, nS, nS, nS, nS] 43, eW g0 zr zg zl x9, eR zr zs zA zb zc, eS zs b10, rowE .u16 31 A12 c13 l11, rowE .u16 31 A37 c38 l53, rowG 60 1 (.slice A15 l14.length c16) l14.length vs17] ∧ l33.length = l53.length) N ?_ ?_)))))))))
 exact ⟨l33, 0, selfA_i (by kernel_rfl), hE45, (hS36.pick [0, 1, 2, 3, 4, 5, 7, 6] rfl rfl), rfl⟩
 rintro k55 _ w49 ⟨l53, x54, hq89, hL56, hS50, hn52⟩
 obtain ⟨u51, rfl⟩ := selfA_u hq89
 rcases k55 with _ | k55
 cases hL56
 first | rw [gAlternate_L1] at hL56 | unfold gAlternate_L1 at hL56
 refine gx_seq (fun K57 hK58 => gx_region ?_)
 rcases if_in hL56 with ⟨h59, hL56⟩ | ⟨h59, hL56⟩
 refine gx_v (.bool true) w49 (rbE (decide_eq_true h59)) (gx_nil (gx_thenN (hK58 _ _ (gx_seq (fun K60 hK61 => gx_yes (by kernel_rfl) (gx_pass (gx_thenN ?_)))))))
 refine hK61 _ _ (gx_seq (fun K62 hK63 => gx_block (gx_seq (fun K64 hK65 => gx_region (gx_k (i6 x54) w49 ?_)))))
 obtain ⟨x66, hx67, hL56⟩ := bind_in hL56
 obtain ⟨g68, o69, e70, hA71, he72, h73, ha74⟩ := elem_at (e := (rowOf (intE .u16))) (rowG_lies (e := (rowOf (intE .u16))) rfl (hS50.get 7 rfl)) hf30 hx67 (by decide)
 obtain ⟨A75, c76, vs77, rfl, hf78⟩ := h73
 have ha74 : ∀ w', Lies w' A15 vs17 → w'.rangeAt g68 o69 [.slice A75 x66.length c76] := ha74
 refine gx_v (.pointer (some ⟨g68, o69, none⟩)) w49 (run_ixaddrN (E := 60) (s := 1) (k := .i64) (c := c16) rfl (by kernel_rfl) (by kernel_rfl) (by kernel_rfl) (fun _ => by kernel_rfl) (ixg_in hx67).1 (ixg_in hx67).2.1 hA71) (gx_v (.slice A75 x66.length c76) w49 (run_loadN1 0 rfl (by kernel_rfl) (fun _ => by kernel_rfl) (ha74 _ (rowG_lies (e := (rowOf (intE .u16))) rfl (hS50.get 7 rfl))) rfl) (gx_k (i6 x54) w49 (gx_k (.slice A75 x66.length c76) w49 (gx_nil (gx_thenN (hK65 _ _ (gx_region (gx_k (.slice A37 l33.length c38) w49 (gx_k (i6 x54) w49 (gx_k (.slice A75 x66.length c76) w49 ?_))))))))))
 obtain ⟨x79, hx80, hL56⟩ := bind_in hL56
 refine gx_v (pI 0 A75) w49 (rix 31 .i64 hx80 ((num_sl (hS50.now 0 rfl hf78)))) (gx_v (u6 x79) w49 (rlx (num_sl (hS50.now 0 rfl hf78)) hx80) ?_)
 obtain ⟨x81, hx82, hL56⟩ := bind_in hL56
 refine gx_v (pI x54 A37) w49 (riy 31 .i64 hx82 hn52 (((hS50.row 6 rfl).1))) ?_
 obtain ⟨l85, hx86, hL56⟩ := bind_in hL56
 refine gx_s (st_storeix rfl (by kernel_rfl) (by kernel_rfl) (fun _ => by kernel_rfl) hS50 6 rfl hx86) ?_
 rintro w83 hS84
 have hS84 : St _ _ w83 [poolE ft23 W24, boxE w0.heap.size [nS, nS, nS, nS, nS, nS, nS] 43, eW g0 zr zg zl x9, eR zr zs zA zb zc, eS zs b10, rowE .u16 31 A12 c13 l11, rowE .u16 31 A37 c38 l85, rowG 60 1 (.slice A15 l14.length c16) l14.length vs17] := hS84
 refine gx_nil (gx_blkN (gx_thenN (hK63 _ _ (gx_region (gx_k (i6 (iw (x54 + 1))) w83 (gx_k (i6 (iw (x54 + 1))) w83 (gx_nil (gx_thenN ?_))))))))
 exact ⟨k55, Nat.lt_succ_self k55, l85, (iw (x54 + 1)), selfA_i (by kernel_rfl), hL56, hS84, (hn52.trans (setx_len hx86).symm)⟩
 refine gx_v (.bool false) w49 (rbE (decide_eq_false h59)) (gx_nil (gx_thenN (hK58 _ _ (gx_seq (fun K87 hK88 => gx_no (by kernel_rfl) (gx_exit (gx_thenE ?_)))))))
 refine gx_thenE (gx_blkE (gx_thenN ?_))
 exact ⟨l53, selfA_i (by kernel_rfl), (sj hL56), (hS50.pick [0, 1, 2, 3, 4, 5, 6] rfl rfl), hn52⟩
 rintro _ w39 ⟨l43, hq126, rfl, hS40, hn42⟩
 obtain ⟨u41, rfl⟩ := selfA_u hq126
 try dsimp only at hO46
 refine gx_seq (fun K90 hK91 => gx_region (gx_k (.slice A12 l11.length c13) w39 (gx_k (.slice A37 l33.length c38) w39 ?_)))
 have hP92 : St _ _ w39 ([] ++ [poolE ft23 W24, boxE w0.heap.size [nS, nS, nS, nS, nS, nS, nS] 43, eW g0 zr zg zl x9, eR zr zs zA zb zc, eS zs b10, rowE .u16 31 A12 c13 l11, rowE .u16 31 A37 c38 l43]) := hS40
 obtain ⟨l94, hc93, hO46⟩ := bind_in hO46
 try dsimp only at hO46
 refine gx_call (gPaired_R l94 w39) (by kernel_rfl) (by rw [← hn42] <;> kernel_rfl) (gPaired_ok N l11 l43 A12 c13 A37 c38 _ hc93 w39 (hP92.vwB 5 rfl) (hP92.vwB 6 rfl)) ?_
 rintro _ w100 ⟨A95, c96, vs97, ft99, rfl, hT102, hf98⟩
 have hS101 : St _ _ w100 [poolE ft23 W24, boxE w0.heap.size [nS, nS, nS, nS, nS, nS, nS] 43, eW g0 zr zg zl x9, eR zr zs zA zb zc, eS zs b10, rowE .u16 31 A12 c13 l11, rowE .u16 31 A37 c38 l43, rowG 74 2 (.slice A95 l94.length c96) l94.length vs97, poolE ft99 w100] := hS40.take _ hT102
 obtain ⟨ft103, W104, hS105, hT106, hU107⟩ := hS101.merge 8 0 rfl rfl (by decide)
 have hS105 : St _ _ w100 [poolE ft103 W104, boxE w0.heap.size [nS, nS, nS, nS, nS, nS, nS] 43, eW g0 zr zg zl x9, eR zr zs zA zb zc, eS zs b10, rowE .u16 31 A12 c13 l11, rowE .u16 31 A37 c38 l43, rowG 74 2 (.slice A95 l94.length c96) l94.length vs97] := hS105
 have hT106 : Turn (foots [eW g0 zr zg zl zn, eR zr zs zA zb zc, eS zs zq]) w0 W24 ft23 W104 ft103 := hT106
 have hf110 : (fEach (pairE (intE .u16) (intE .u16)) vs97 l94).rd W104 ft103 := hU107 _ hf98
 refine gx_k (.agg #[.slice A95 l94.length c96, nS, nS, nS, nS, nS, nS]) w100 (gx_s (st_storeG (cs := [nS, nS, nS, nS, nS, nS, nS]) (ds := [.slice A95 l94.length c96, nS, nS, nS, nS, nS, nS]) rfl (by kernel_rfl) (by kernel_rfl) (by kernel_rfl) rfl rfl hS105 1 rfl) ?_)
 rintro w111 hS112
 have hS112 : St _ _ w111 [poolE ft103 W104, boxE w0.heap.size [.slice A95 l94.length c96, nS, nS, nS, nS, nS, nS] 43, eW g0 zr zg zl x9, eR zr zs zA zb zc, eS zs b10, rowE .u16 31 A12 c13 l11, rowE .u16 31 A37 c38 l43, rowG 74 2 (.slice A95 l94.length c96) l94.length vs97] := hS112
 refine gx_nil (gx_thenN (hK91 _ _ (gx_ret ?_)))
 have hS113 : St _ _ w111 [poolE ft103 W104, boxE w0.heap.size [.slice A95 l94.length c96, nS, nS, nS, nS, nS, nS] 43, eW g0 zr zg zl x9, eR zr zs zA zb zc, eS zs b10, rowE .u16 31 A12 c13 l11, rowE .u16 31 A37 c38 l43, rowG 74 2 (.slice A95 l94.length c96) l94.length vs97, rowG 76 2 (.slice none (([] : List (Int × List Int)).length) 0) (([] : List (Int × List Int)).length) ([])] := hS112.nilrowN 76 2
 have hf114 : (fEach (pairE (intE .u16) (rowOf (intE .u16))) [] []).rd W104 ft103 := each_nil
 have hS115 : St _ _ w111 [poolE ft103 W104, boxE w0.heap.size [.slice A95 l94.length c96, nS, nS, nS, nS, nS, nS] 43, eW g0 zr zg zl x9, eR zr zs zA zb zc, eS zs b10, rowE .u16 31 A12 c13 l11, rowE .u16 31 A37 c38 l43, rowG 74 2 (.slice A95 l94.length c96) l94.length vs97, rowG 76 2 (.slice none (([] : List (Int × List Int)).length) 0) (([] : List (Int × List Int)).length) ([]), rowG 62 2 (.slice none (([] : List (List Int × Int)).length) 0) (([] : List (List Int × Int)).length) ([])] := hS113.nilrowN 62 2
 have hf116 : (fEach (pairE (rowOf (intE .u16)) (intE .u16)) [] []).rd W104 ft103 := each_nil
 have hS117 : St _ _ w111 [poolE ft103 W104, boxE w0.heap.size [.slice A95 l94.length c96, nS, nS, nS, nS, nS, nS] 43, eW g0 zr zg zl x9, eR zr zs zA zb zc, eS zs b10, rowE .u16 31 A12 c13 l11, rowE .u16 31 A37 c38 l43, rowG 74 2 (.slice A95 l94.length c96) l94.length vs97, rowG 76 2 (.slice none (([] : List (Int × List Int)).length) 0) (([] : List (Int × List Int)).length) ([]), rowG 62 2 (.slice none (([] : List (List Int × Int)).length) 0) (([] : List (List Int × Int)).length) ([]), rowG 60 1 (.slice none (([] : List (List Int)).length) 0) (([] : List (List Int)).length) ([])] := hS115.nilrowN 60 1
 have hf118 : (fEach (rowOf (intE .u16)) [] []).rd W104 ft103 := each_nil
 have hS119 : St _ _ w111 [poolE ft103 W104, boxE w0.heap.size [.slice A95 l94.length c96, nS, nS, nS, nS, nS, nS] 43, eW g0 zr zg zl x9, eR zr zs zA zb zc, eS zs b10, rowE .u16 31 A12 c13 l11, rowE .u16 31 A37 c38 l43, rowG 74 2 (.slice A95 l94.length c96) l94.length vs97, rowG 76 2 (.slice none (([] : List (Int × List Int)).length) 0) (([] : List (Int × List Int)).length) ([]), rowG 62 2 (.slice none (([] : List (List Int × Int)).length) 0) (([] : List (List Int × Int)).length) ([]), rowG 60 1 (.slice none (([] : List (List Int)).length) 0) (([] : List (List Int)).length) ([]), rowG 60 1 (.slice none (([] : List (List Int)).length) 0) (([] : List (List Int)).length) ([])] := hS117.nilrowN 60 1
 have hf120 : (fEach (rowOf (intE .u16)) [] []).rd W104 ft103 := each_nil
 have hS121 : St _ _ w111 [poolE ft103 W104, boxE w0.heap.size [.slice A95 l94.length c96, nS, nS, nS, nS, nS, nS] 43, eW g0 zr zg zl x9, eR zr zs zA zb zc, eS zs b10, rowE .u16 31 A12 c13 l11, rowE .u16 31 A37 c38 l43, rowG 74 2 (.slice A95 l94.length c96) l94.length vs97, rowG 76 2 (.slice none (([] : List (Int × List Int)).length) 0) (([] : List (Int × List Int)).length) ([]), rowG 62 2 (.slice none (([] : List (List Int × Int)).length) 0) (([] : List (List Int × Int)).length) ([]), rowG 60 1 (.slice none (([] : List (List Int)).length) 0) (([] : List (List Int)).length) ([]), rowG 60 1 (.slice none (([] : List (List Int)).length) 0) (([] : List (List Int)).length) ([]), rowG 60 1 (.slice none (([] : List (List Int)).length) 0) (([] : List (List Int)).length) ([])] := hS119.nilrowN 60 1
 have hf122 : (fEach (rowOf (intE .u16)) [] []).rd W104 ft103 := each_nil
 have hS123 : St _ _ w111 [poolE ft103 W104, boxE w0.heap.size [.slice A95 l94.length c96, nS, nS, nS, nS, nS, nS] 43, eW g0 zr zg zl x9, eR zr zs zA zb zc, eS zs b10, rowE .u16 31 A12 c13 l11, rowE .u16 31 A37 c38 l43, rowG 74 2 (.slice A95 l94.length c96) l94.length vs97, rowG 76 2 (.slice none (([] : List (Int × List Int)).length) 0) (([] : List (Int × List Int)).length) ([]), rowG 62 2 (.slice none (([] : List (List Int × Int)).length) 0) (([] : List (List Int × Int)).length) ([]), rowG 60 1 (.slice none (([] : List (List Int)).length) 0) (([] : List (List Int)).length) ([]), rowG 60 1 (.slice none (([] : List (List Int)).length) 0) (([] : List (List Int)).length) ([]), rowG 60 1 (.slice none (([] : List (List Int)).length) 0) (([] : List (List Int)).length) ([]), rowG 79 2 (.slice none (([] : List (Int × Int)).length) 0) (([] : List (Int × Int)).length) ([])] := hS121.nilrowN 79 2
 have hf124 : (fEach (pairE (intE .i64) (intE .i64)) [] []).rd W104 ft103 := each_nil
 have hS125 : St _ _ w111 [poolE ft103 w111, boxE w0.heap.size [.slice A95 l94.length c96, nS, nS, nS, nS, nS, nS] 43, eW g0 zr zg zl x9, eR zr zs zA zb zc, eS zs b10, rowE .u16 31 A12 c13 l11, rowE .u16 31 A37 c38 l43, rowG 74 2 (.slice A95 l94.length c96) l94.length vs97, rowG 76 2 (.slice none (([] : List (Int × List Int)).length) 0) (([] : List (Int × List Int)).length) ([]), rowG 62 2 (.slice none (([] : List (List Int × Int)).length) 0) (([] : List (List Int × Int)).length) ([]), rowG 60 1 (.slice none (([] : List (List Int)).length) 0) (([] : List (List Int)).length) ([]), rowG 60 1 (.slice none (([] : List (List Int)).length) 0) (([] : List (List Int)).length) ([]), rowG 60 1 (.slice none (([] : List (List Int)).length) 0) (([] : List (List Int)).length) ([]), rowG 79 2 (.slice none (([] : List (Int × Int)).length) 0) (([] : List (Int × Int)).length) ([])] := hS123.renew 0 rfl
 obtain rfl := sj hO46
 exact gx_fin (.agg #[.slice A95 l94.length c96, .slice none (([] : List (Int × List Int)).length) 0, .slice none (([] : List (List Int × Int)).length) 0, .slice none (([] : List (List Int)).length) 0, .slice none (([] : List (List Int)).length) 0, .slice none (([] : List (List Int)).length) 0, .slice none (([] : List (Int × Int)).length) 0]) (by kernel_rfl) (res_cell rfl _ _ w0.heap.size _ _ _ (by kernel_rfl) (hS125.get 1 rfl) (by kernel_rfl) (by kernel_rfl)) (.inl ⟨_, rfl, _, rfl, A95, c96, vs97, none, 0, ([]), none, 0, ([]), none, 0, ([]), none, 0, ([]), none, 0, ([]), none, 0, ([]), ft103, rfl, (hS125.pick [2, 3, 4, 7, 8, 9, 10, 11, 12, 13, 0] rfl rfl), (hS123.now 0 rfl hf110), (hS123.now 0 rfl hf114), (hS123.now 0 rfl hf116), (hS123.now 0 rfl hf118), (hS123.now 0 rfl hf120), (hS123.now 0 rfl hf122), (hS123.now 0 rfl hf124)⟩)
 obtain ⟨x127, x128, b129⟩ := q0
 try dsimp only at hF
 refine gx_callX _ (by kernel_rfl) (by kernel_rfl) (pan_gone (gRows_ok N zg zl zn zb zq p1 g0 zr zA zc zs _ hc8 w3 (hP7.vwA hv0_0) hP7.part) :) ?_
 rintro c133 w130 ⟨hx134, hT132⟩
 have hS131 : St _ _ w130 [poolE ([]) w0, boxE w0.heap.size [nS, nS, nS, nS, nS, nS, nS] 43, eW g0 zr zg zl x128, eR zr zs zA zb zc, eS zs b129] := hP7.lendN _ hT132
 refine gx_thenP ?_
 obtain rfl := sj hF
 exact gx_finP (by kernel_rfl) (.inr ⟨_, rfl, _, rfl, hx134, (hS131.pick [2, 3, 4] rfl rfl)⟩)
end Go.Proofs.Ytgjlpiljacecpaa

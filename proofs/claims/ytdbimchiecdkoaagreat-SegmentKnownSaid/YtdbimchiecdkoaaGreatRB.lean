/-
  Joined.
-/
import Derived.Test.YtdbimchiecdkoaaGreatRL
namespace Go.Proofs.YtdbimchiecdkoaaGreat
open Go Go.RowKit
set_option maxRecDepth 100000
set_option maxHeartbeats 4000000
set_option linter.unusedVariables false
def rBetw_L1 (N : Nat) (p0 : List (Int × Int × Int × Bool × Bool)) : Nat → Int → Option (Int)
 | 0, _ => none
 | k48+1, x47 => (if x47 ≥ 0 then ((ixg p0 x47).bind fun x55 => (if x55.1 = 5 then rBetw_L1 N p0 k48 (IntKind.i64.wrap (x47 - 1)) else some (x47))) else some (x47))
def rBetw (N : Nat) (p0 : List (Int × Int × Int × Bool × Bool)) (p1 : Int) : Option (Int) :=
 ((rAt N p0 (IntKind.i64.wrap (p1 - 1))).bind fun x7 => ((rAt N p0 p1).bind fun x13 => ((rAt N p0 (IntKind.i64.wrap (p1 - 2))).bind fun x19 => ((rAt N p0 (IntKind.i64.wrap (p1 + 1))).bind fun x25 => ((rAt N p0 (IntKind.i64.wrap (p1 + 2))).bind fun x31 => ((rBetw_L1 N p0 N (IntKind.i64.wrap (p1 - 1)) : Option (Int)).bind fun x40 => ((rAt N p0 x40).bind fun x86 => ((rAt N p0 (IntKind.i64.wrap (x40 - 1))).bind fun x92 => (((if x7 = 1 then some (Ctl.ret 2) else (((if x7 = 2 then (if x13 = 3 then some (true) else some (false)) else some (false)) : Option (Bool)).bind fun b110 => (match b110 with | true => some (Ctl.ret 0) | false => (((if x7 = 2 then some (true) else (if x7 = 3 then some (true) else (if x7 = 4 then some (true) else some (false)))) : Option (Bool)).bind fun b121 => (match b121 with | true => some (Ctl.ret 2) | false => ((rIn N x13 ([1, 2, 3, 4, 5, 6])).bind fun b136 => (match b136 with | true => some (Ctl.ret 0) | false => (if x86 = 6 then some (Ctl.ret 1) else ((((ixg p0 (IntKind.i64.wrap (p1 - 1))).bind fun x156 => (match x156.2.2.2.1 with | true => some (true) | false => (if x7 = 7 then some (true) else (if x13 = 7 then some (true) else (if x7 = 8 then some (true) else some (false)))))) : Option (Bool)).bind fun b150 => (match b150 with | true => some (Ctl.ret 0) | false => (((((if x13 = 8 then (if x7 ≠ 5 then some (true) else some (false)) else some (false)) : Option (Bool)).bind fun b201 => (match b201 with | true => (if x7 ≠ 11 then (if x7 ≠ 14 then some (true) else some (false)) else some (false)) | false => some (false))) : Option (Bool)).bind fun b194 => (match b194 with | true => some (Ctl.ret 0) | false => ((((rIn N x13 ([21, 20, 16, 24])).bind fun b225 => (match b225 with | true => some (true) | false => (if x86 = 19 then some (true) else some (false)))) : Option (Bool)).bind fun b215 => (match b215 with | true => some (Ctl.ret 0) | false => (((if x40 ≥ 0 then ((ixg p0 x40).bind fun x240 => ((rOpn N x240.1 x240.2.1 x240.2.2.1 x240.2.2.2.1 x240.2.2.2.2).bind fun b267 => (match b267 with | true => ((rIn N x92 ([99, 1, 2, 3, 4, 19, 22, 8, 5, 6])).bind fun b275 => some (b275)) | false => some (false)))) else some (false)) : Option (Bool)).bind fun b235 => (match b235 with | true => some (Ctl.ret 0) | false => ((((ixg p0 p1).bind fun x288 => ((rCls N x288.1 x288.2.1 x288.2.2.1 x288.2.2.2.1 x288.2.2.2.2).bind fun b315 => (match b315 with | true => ((rIn N x25 ([99, 5, 8, 7, 21, 22, 20, 16, 23, 24, 1, 2, 3, 4, 6])).bind fun b323 => some (b323)) | false => some (false)))) : Option (Bool)).bind fun b284 => (match b284 with | true => some (Ctl.ret 0) | false => (((if x7 = 5 then (if x13 = 23 then (if x25 = 27 then some (true) else some (false)) else some (false)) else some (false)) : Option (Bool)).bind fun b332 => (match b332 with | true => some (Ctl.ret 1) | false => (((if x13 = 23 then some (true) else (((if x86 = 21 then (if x13 = 18 then some (true) else some (false)) else (if x86 = 20 then (if x13 = 18 then some (true) else some (false)) else some (false))) : Option (Bool)).bind fun b354 => (match b354 with | true => some (true) | false => (if x86 = 13 then (if x13 = 13 then some (true) else some (false)) else some (false))))) : Option (Bool)).bind fun b344 => (match b344 with | true => some (Ctl.ret 0) | false => (if x7 = 5 then some (Ctl.ret 1) else (((((if x13 = 22 then ((ixg p0 p1).bind fun x387 => ((rOpn N x387.1 x387.2.1 x387.2.2.1 x387.2.2.2.1 x387.2.2.2.2).bind fun b414 => (match b414 with | true => some (false) | false => some (true)))) else some (false)) : Option (Bool)).bind fun b382 => (match b382 with | true => some (true) | false => (if x7 = 22 then ((ixg p0 (IntKind.i64.wrap (p1 - 1))).bind fun x419 => ((rCls N x419.1 x419.2.1 x419.2.2.1 x419.2.2.2.1 x419.2.2.2.2).bind fun b446 => (match b446 with | true => some (false) | false => some (true)))) else some (false)))) : Option (Bool)).bind fun b375 => (match b375 with | true => some (Ctl.ret 0) | false => (((((if x13 = 22 then ((rNar N p0 (IntKind.i64.wrap (p1 - 1))).bind fun b470 => (match b470 with | true => some (true) | false => ((rNar N p0 (IntKind.i64.wrap (p1 + 1))).bind fun b476 => some (b476)))) else some (false)) : Option (Bool)).bind fun b463 => (match b463 with | true => some (true) | false => (if x7 = 22 then ((rNar N p0 p1).bind fun b483 => (match b483 with | true => some (true) | false => ((rNar N p0 (IntKind.i64.wrap (p1 - 2))).bind fun b489 => some (b489)))) else some (false)))) : Option (Bool)).bind fun b456 => (match b456 with | true => some (Ctl.ret 0) | false => (((if x7 = 15 then some (true) else (if x13 = 15 then some (true) else some (false))) : Option (Bool)).bind fun b499 => (match b499 with | true => some (Ctl.ret 1) | false => (((((if x7 = 14 then some (true) else ((ixg p0 (IntKind.i64.wrap (p1 - 1))).bind fun x523 => (if x523.2.1 = 8208 then some (true) else some (false)))) : Option (Bool)).bind fun b517 => (match b517 with | true => (if x13 = 0 then ((rIn N x19 ([99, 1, 2, 3, 4, 5, 6, 15, 8])).bind fun b554 => some (b554)) else some (false)) | false => some (false))) : Option (Bool)).bind fun b510 => (match b510 with | true => some (Ctl.ret 0) | false => (((((if x13 = 11 then some (true) else (if x13 = 14 then some (true) else some (false))) : Option (Bool)).bind fun b570 => (match b570 with | true => some (true) | false => (if x13 = 18 then some (true) else (if x7 = 12 then some (true) else some (false))))) : Option (Bool)).bind fun b563 => (match b563 with | true => some (Ctl.ret 0) | false => (((if x19 = 28 then (if x7 = 14 then (if x13 ≠ 28 then some (true) else some (false)) else (((if x7 = 11 then ((ixg p0 (IntKind.i64.wrap (p1 - 1))).bind fun x600 => (match x600.2.2.2.2 with | true => some (false) | false => some (true))) else some (false)) : Option (Bool)).bind fun b594 => (match b594 with | true => (if x13 ≠ 28 then some (true) else some (false)) | false => some (false)))) else some (false)) : Option (Bool)).bind fun b584 => (match b584 with | true => some (Ctl.ret 0) | false => (if x7 = 24 then (if x13 = 28 then some (Ctl.ret 0) else (if x13 = 17 then some (Ctl.ret 0) else some (Ctl.go ()))) else (if x13 = 17 then some (Ctl.ret 0) else some (Ctl.go ())))))))))))))))))))))))))))))))))))))) : Option (Ctl (Unit) (Int))).bind fun | Ctl.go () => ((rLat N p0 p1 x7 x13 x19 x25 x31).bind fun x662 => some x662) | Ctl.ret r => some r)))))))))
def rBetw_R (r : Int) (w0 : World) (v : Value) (w : World) : Prop := v = .int .u8 r ∧ St [] w0 w []
theorem rBetw_ok (N : Nat) (p0 : List (Int × Int × Int × Bool × Bool)) (p1 : Int) (A0 : Option Addr) (c0 : Nat) (vs0 : List Value) (ft0 : List Nat) (r : Int) (hF : rBetw N p0 p1 = some r) (w0 : World) (hv0 : (fSl enccalamusref13Unit A0 c0 vs0 p0).rd w0 ft0) (ho0 : Off [] w0 ft0) :
  Calls Tryz.prog 17 #[.slice A0 p0.length c0, .int .i64 p1] w0 fun e w => ∃ v, e = .returned v ∧ rBetw_R r w0 v w := by
 have hS0 := (St.start w0).pool0
 unfold rBetw at hF
 refine calls_of Tryz.func17 rfl ⟨((.slice A0 p0.length c0) :: (i6 p1) :: un 306 ([])).toArray, []⟩ (by as_aux_lemma => kernel_rfl) (gx_seq (fun K1 hK2 => gx_region (gx_kA (.int .u8 0) w0 (gx_nil (gx_thenN (hK2 _ _ (gx_seq (fun K3 hK4 => ?_))))))))
 refine gx_region (gx_kA (.slice A0 p0.length c0) w0 (gx_kA (i6 p1) w0 (gx_kA (i6 (iw (p1 - 1))) w0 ?_)))
 have hP5 : St _ _ w0 ([] ++ [poolE ([]) w0]) := hS0
 obtain ⟨x7, hc6, hF⟩ := bind_in hF
 try dsimp only at hF
 refine gx_cA _ (rAt_ok N p0 (iw (p1 - 1)) A0 c0 vs0 ft0 _ hc6 w0 (hS0.inn ho0 hv0) (hP5.offIA ho0)) ?_
 rintro _ w8 ⟨rfl, hT10⟩
 have hS9 : St _ _ w8 [poolE ([]) w0] := hS0.take _ hT10
 refine gx_kA (.slice A0 p0.length c0) w8 (gx_kA (i6 p1) w8 ?_)
 have hP11 : St _ _ w8 ([] ++ [poolE ([]) w0]) := hS9
 obtain ⟨x13, hc12, hF⟩ := bind_in hF
 try dsimp only at hF
 refine gx_cA _ (rAt_ok N p0 p1 A0 c0 vs0 ft0 _ hc12 w8 (hS9.inn ho0 hv0) (hP11.offIA ho0)) ?_
 rintro _ w14 ⟨rfl, hT16⟩
 have hS15 : St _ _ w14 [poolE ([]) w0] := hS9.take _ hT16
 refine gx_kA (.slice A0 p0.length c0) w14 (gx_kA (i6 p1) w14 (gx_kA (i6 (iw (p1 - 2))) w14 ?_))
 have hP17 : St _ _ w14 ([] ++ [poolE ([]) w0]) := hS15
 obtain ⟨x19, hc18, hF⟩ := bind_in hF
 try dsimp only at hF
 refine gx_cA _ (rAt_ok N p0 (iw (p1 - 2)) A0 c0 vs0 ft0 _ hc18 w14 (hS15.inn ho0 hv0) (hP17.offIA ho0)) ?_
 rintro _ w20 ⟨rfl, hT22⟩
 have hS21 : St _ _ w20 [poolE ([]) w0] := hS15.take _ hT22
 refine gx_kA (.slice A0 p0.length c0) w20 (gx_kA (i6 p1) w20 (gx_kA (i6 (iw (p1 + 1))) w20 ?_))
 have hP23 : St _ _ w20 ([] ++ [poolE ([]) w0]) := hS21
 obtain ⟨x25, hc24, hF⟩ := bind_in hF
 try dsimp only at hF
 refine gx_cA _ (rAt_ok N p0 (iw (p1 + 1)) A0 c0 vs0 ft0 _ hc24 w20 (hS21.inn ho0 hv0) (hP23.offIA ho0)) ?_
 rintro _ w26 ⟨rfl, hT28⟩
 have hS27 : St _ _ w26 [poolE ([]) w0] := hS21.take _ hT28
 refine gx_kA (.slice A0 p0.length c0) w26 (gx_kA (i6 p1) w26 (gx_kA (i6 (iw (p1 + 2))) w26 ?_))
 have hP29 : St _ _ w26 ([] ++ [poolE ([]) w0]) := hS27
 obtain ⟨x31, hc30, hF⟩ := bind_in hF
 try dsimp only at hF
 refine gx_cA _ (rAt_ok N p0 (iw (p1 + 2)) A0 c0 vs0 ft0 _ hc30 w26 (hS27.inn ho0 hv0) (hP29.offIA ho0)) ?_
 rintro _ w32 ⟨rfl, hT34⟩
 have hS33 : St _ _ w32 [poolE ([]) w0] := hS27.take _ hT34
 refine gx_kA (i6 x7) w32 (gx_kA (i6 x13) w32 (gx_kA (i6 x19) w32 (gx_kA (i6 x25) w32 (gx_kA (i6 x31) w32 (gx_nil (gx_thenN (hK4 _ _ (gx_seq (fun K35 hK36 => gx_region (gx_kA (i6 p1) w32 (gx_kA (i6 (iw (p1 - 1))) w32 (gx_kA (i6 (iw (p1 - 1))) w32 (gx_nil ?_)))))))))))))
 refine gx_thenN (hK36 _ _ ?_)
 obtain ⟨c41, hE42, hO43⟩ := bind_in hF
 refine gx_cut (fun a w => ∃ (x40 : Int), selfA (fun u39 => ⟨((.slice A0 p0.length c0) :: (i6 p1) :: undef :: undef :: (.int .u8 0) :: (i6 x7) :: (i6 x13) :: (i6 x19) :: (i6 x25) :: (i6 x31) :: (i6 x40) :: undef :: undef :: (u39 13) :: (i6 p1) :: (i6 (iw (p1 - 1))) :: (i6 x7) :: (u39 17) :: (i6 p1) :: (i6 x13) :: (u39 20) :: (i6 p1) :: (i6 (iw (p1 - 2))) :: (i6 x19) :: (u39 24) :: (i6 p1) :: (i6 (iw (p1 + 1))) :: (i6 x25) :: (u39 28) :: (i6 p1) :: (i6 (iw (p1 + 2))) :: (i6 x31) :: (i6 p1) :: (i6 (iw (p1 - 1))) :: dd u39 34 12 (un 262 ([]))).toArray, []⟩) a ∧ x40 = c41 ∧ St [] w0 w [poolE ([]) w0]) ?_ ?_
 refine gx_block (gx_loop (fun k a w => ∃ (x47 : Int), selfA (fun u46 => ⟨((.slice A0 p0.length c0) :: (i6 p1) :: undef :: undef :: (.int .u8 0) :: (i6 x7) :: (i6 x13) :: (i6 x19) :: (i6 x25) :: (i6 x31) :: (i6 x47) :: undef :: undef :: (u46 13) :: (i6 p1) :: (i6 (iw (p1 - 1))) :: (i6 x7) :: (u46 17) :: (i6 p1) :: (i6 x13) :: (u46 20) :: (i6 p1) :: (i6 (iw (p1 - 2))) :: (i6 x19) :: (u46 24) :: (i6 p1) :: (i6 (iw (p1 + 1))) :: (i6 x25) :: (u46 28) :: (i6 p1) :: (i6 (iw (p1 + 2))) :: (i6 x31) :: (i6 p1) :: (i6 (iw (p1 - 1))) :: dd u46 34 12 (un 262 ([]))).toArray, []⟩) a ∧ rBetw_L1 N p0 k x47 = some c41 ∧ St [] w0 w [poolE ([]) w0]) N ?_ ?_)
 exact ⟨(iw (p1 - 1)), selfX, hE42, hS33⟩
 rintro k48 _ w44 ⟨x47, hq81, hL49, hS45⟩
 obtain ⟨u46, rfl⟩ := selfA_u hq81
 rcases k48 with _ | k48
 cases hL49
 first | rw [rBetw_L1] at hL49 | unfold rBetw_L1 at hL49
 refine gx_seq (fun K50 hK51 => gx_seq (fun K52 hK53 => gx_region (gx_kA (i6 x47) w44 ?_)))
 rcases if_in hL49 with ⟨h54, hL49⟩ | ⟨h54, hL49⟩
 refine gx_vA (.bool true) w44 (rbE (decide_eq_true h54)) (gx_kA (.bool true) w44 (gx_kA (.slice A0 p0.length c0) w44 (gx_kA (i6 x47) w44 ?_)))
 obtain ⟨x55, hx56, hL49⟩ := bind_in hL49
 obtain ⟨g57, o58, e59, hA60, he61, h62, ha63⟩ := elem_at (e := enccalamusref13Unit) (sl_lies (hS45.inn ho0 hv0)) (sl_each hv0) hx56 (by decide)
 obtain ⟨e64, e65, rfl, h66, h67⟩ := h62
 obtain rfl := h66
 obtain ⟨e68, e69, rfl, h70, h71⟩ := h67
 obtain rfl := h70
 obtain ⟨e72, e73, rfl, h74, h75⟩ := h71
 obtain rfl := h74
 obtain ⟨e76, e77, rfl, h78, h79⟩ := h75
 obtain rfl := h78
 obtain rfl := h79
 have ha63 : ∀ w', Lies w' A0 vs0 → w'.rangeAt g57 o58 [i6 x55.1, .int .i32 x55.2.1, i6 x55.2.2.1, .bool x55.2.2.2.1, .bool x55.2.2.2.2] := ha63
 refine gx_vA (.pointer (some ⟨g57, o58, none⟩)) w44 (run_ixaddrN (E := 49) (s := 5) (k := .i64) (c := c0) rfl (by as_aux_lemma => kernel_rfl) (by as_aux_lemma => kernel_rfl) (by as_aux_lemma => kernel_rfl) (fun _ => by kernel_rfl) (ixg_in hx56).1 (ixg_in hx56).2.1 hA60) (gx_kA (.pointer (some ⟨g57, o58, none⟩)) w44 (gx_vA (i6 x55.1) w44 (run_loadN1 0 rfl (by as_aux_lemma => kernel_rfl) (fun _ => by kernel_rfl) (ha63 _ (sl_lies (hS45.inn ho0 hv0))) rfl) ?_))
 rcases if_in hL49 with ⟨h80, hL49⟩ | ⟨h80, hL49⟩
 refine gx_vA (.bool true) w44 (rbE (decide_eq_true h80)) (gx_kA (.bool true) w44 (gx_nil (gx_thenN (hK53 _ _ (gx_yes (by as_aux_lemma => kernel_rfl) (gx_pass (gx_thenN ?_)))))))
 refine hK51 _ _ (gx_block (gx_region (gx_kA (i6 x47) w44 (gx_kA (i6 (iw (x47 - 1))) w44 (gx_kA (i6 (iw (x47 - 1))) w44 (gx_nil (gx_blkN (gx_thenN ?_))))))))
 exact ⟨k48, Nat.lt_succ_self k48, (iw (x47 - 1)), selfX, hL49, hS45⟩
 refine gx_vA (.bool false) w44 (rbE (decide_eq_false h80)) (gx_kA (.bool false) w44 (gx_nil (gx_thenN (hK53 _ _ (gx_no (by as_aux_lemma => kernel_rfl) (gx_exit (gx_thenE ?_)))))))
 refine gx_thenE (gx_blkE (gx_thenN ?_))
 exact ⟨x47, selfX, (sj hL49), hS45⟩
 refine gx_vA (.bool false) w44 (rbE (decide_eq_false h54)) (gx_kA (.bool false) w44 (gx_oA (gx_oA (gx_oA (gx_oA (gx_oA (gx_oA (gx_kA (.bool false) w44 (gx_nil (gx_thenN (hK53 _ _ (gx_no (by as_aux_lemma => kernel_rfl) (gx_exit (gx_thenE ?_))))))))))))))
 refine gx_thenE (gx_blkE (gx_thenN ?_))
 exact ⟨x47, selfX, (sj hL49), hS45⟩
 rintro _ w37 ⟨x40, hq667, rfl, hS38⟩
 obtain ⟨u39, rfl⟩ := selfA_u hq667
 try dsimp only at hO43
 refine gx_seq (fun K82 hK83 => gx_region (gx_kA (.slice A0 p0.length c0) w37 (gx_kA (i6 x40) w37 ?_)))
 have hP84 : St _ _ w37 ([] ++ [poolE ([]) w0]) := hS38
 obtain ⟨x86, hc85, hO43⟩ := bind_in hO43
 try dsimp only at hO43
 refine gx_cA _ (rAt_ok N p0 x40 A0 c0 vs0 ft0 _ hc85 w37 (hS38.inn ho0 hv0) (hP84.offIA ho0)) ?_
 rintro _ w87 ⟨rfl, hT89⟩
 have hS88 : St _ _ w87 [poolE ([]) w0] := hS38.take _ hT89
 refine gx_kA (.slice A0 p0.length c0) w87 (gx_kA (i6 x40) w87 (gx_kA (i6 (iw (x40 - 1))) w87 ?_))
 have hP90 : St _ _ w87 ([] ++ [poolE ([]) w0]) := hS88
 obtain ⟨x92, hc91, hO43⟩ := bind_in hO43
 try dsimp only at hO43
 refine gx_cA _ (rAt_ok N p0 (iw (x40 - 1)) A0 c0 vs0 ft0 _ hc91 w87 (hS88.inn ho0 hv0) (hP90.offIA ho0)) ?_
 rintro _ w93 ⟨rfl, hT95⟩
 have hS94 : St _ _ w93 [poolE ([]) w0] := hS88.take _ hT95
 refine gx_kA (i6 x86) w93 (gx_kA (i6 x92) w93 (gx_nil (gx_thenN (hK83 _ _ ?_))))
 obtain ⟨c99, hE100, hO101⟩ := bind_in hO43
 refine gx_cut (fun a w => selfA (fun u98 => ⟨((.slice A0 p0.length c0) :: (i6 p1) :: undef :: undef :: (u98 4) :: (i6 x7) :: (i6 x13) :: (i6 x19) :: (i6 x25) :: (i6 x31) :: (i6 x40) :: (i6 x86) :: (i6 x92) :: (u39 13) :: (i6 p1) :: (i6 (iw (p1 - 1))) :: (i6 x7) :: (u39 17) :: (i6 p1) :: (i6 x13) :: (u39 20) :: (i6 p1) :: (i6 (iw (p1 - 2))) :: (i6 x19) :: (u39 24) :: (i6 p1) :: (i6 (iw (p1 + 1))) :: (i6 x25) :: (u39 28) :: (i6 p1) :: (i6 (iw (p1 + 2))) :: (i6 x31) :: (i6 p1) :: (i6 (iw (p1 - 1))) :: dd u39 34 12 ((u98 46) :: (i6 x40) :: (i6 x86) :: (u98 49) :: (i6 x40) :: (i6 (iw (x40 - 1))) :: (i6 x92) :: dd u98 53 247 (un 8 ([])))).toArray, []⟩) a ∧ Ctl.go () = c99 ∧ St [] w0 w [poolE ([]) w0]) ?_ ?_
 refine gx_block (gx_seq (fun K102 hK103 => gx_region (gx_kA (i6 x7) w93 ?_)))
 rcases if_in hE100 with ⟨h104, hE100⟩ | ⟨h104, hE100⟩
 refine gx_vA (.bool true) w93 (rbE (decide_eq_true h104)) (gx_kA (.bool true) w93 (gx_nil (gx_thenN (hK103 _ _ (gx_yes (by as_aux_lemma => kernel_rfl) (gx_seq (fun K105 hK106 => gx_region ?_)))))))
 refine gx_kA (.int .u8 2) w93 (gx_nil (gx_thenN (hK106 _ _ (gx_ret (gx_blkR (gx_thenR ?_))))))
 obtain rfl := sj hE100
 try dsimp only at hO101
 obtain rfl := sj hO101
 exact gxF (.int .u8 2) ⟨_, rfl, rfl, (hS94.pick [] rfl rfl)⟩
 refine gx_vA (.bool false) w93 (rbE (decide_eq_false h104)) (gx_kA (.bool false) w93 (gx_nil (gx_thenN (hK103 _ _ (gx_no (by as_aux_lemma => kernel_rfl) ?_)))))
 obtain ⟨c111, hE112, hO113⟩ := bind_in hE100
 refine gx_cut (fun a w => ∃ (b110 : Bool), selfA (fun u109 => ⟨((.slice A0 p0.length c0) :: (i6 p1) :: undef :: undef :: (.int .u8 0) :: (i6 x7) :: (i6 x13) :: (i6 x19) :: (i6 x25) :: (i6 x31) :: (i6 x40) :: (i6 x86) :: (i6 x92) :: (u39 13) :: (i6 p1) :: (i6 (iw (p1 - 1))) :: (i6 x7) :: (u39 17) :: (i6 p1) :: (i6 x13) :: (u39 20) :: (i6 p1) :: (i6 (iw (p1 - 2))) :: (i6 x19) :: (u39 24) :: (i6 p1) :: (i6 (iw (p1 + 1))) :: (i6 x25) :: (u39 28) :: (i6 p1) :: (i6 (iw (p1 + 2))) :: (i6 x31) :: (i6 p1) :: (i6 (iw (p1 - 1))) :: dd u39 34 12 ((u109 46) :: (i6 x40) :: (i6 x86) :: (u109 49) :: (i6 x40) :: (i6 (iw (x40 - 1))) :: (i6 x92) :: (.bool false) :: (i6 x7) :: (.bool false) :: (.bool b110) :: dd u109 57 6 (un 245 ([])))).toArray, []⟩) a ∧ b110 = c111 ∧ St [] w0 w [poolE ([]) w0]) ?_ ?_
 refine gx_region (gx_kA (i6 x7) w93 ?_)
 rcases if_in hE112 with ⟨h114, hE112⟩ | ⟨h114, hE112⟩
 refine gx_vA (.bool true) w93 (rbE (decide_eq_true h114)) (gx_kA (.bool true) w93 (gx_kA (i6 x13) w93 ?_))
 rcases if_in hE112 with ⟨h115, hE112⟩ | ⟨h115, hE112⟩
 refine gx_vA (.bool true) w93 (rbE (decide_eq_true h115)) (gx_kA (.bool true) w93 (gx_kA (.bool true) w93 (gx_nil (gx_thenN ?_))))
 exact ⟨true, selfX, (sj hE112), hS94⟩
 refine gx_vA (.bool false) w93 (rbE (decide_eq_false h115)) (gx_kA (.bool false) w93 (gx_kA (.bool false) w93 (gx_nil (gx_thenN ?_))))
 exact ⟨false, selfX, (sj hE112), hS94⟩
 refine gx_vA (.bool false) w93 (rbE (decide_eq_false h114)) (gx_kA (.bool false) w93 (gx_oA (gx_oA (gx_kA (.bool false) w93 (gx_kA (.bool false) w93 (gx_nil (gx_thenN ?_)))))))
 exact ⟨false, selfX, (sj hE112), hS94⟩
 rintro _ w107 ⟨b110, hq657, rfl, hS108⟩
 obtain ⟨u109, rfl⟩ := selfA_u hq657
 try dsimp only at hO113
 rcases b110 with _ | _
 try dsimp only at hO113
 refine gx_no (by as_aux_lemma => kernel_rfl) ?_
 obtain ⟨c122, hE123, hO124⟩ := bind_in hO113
 refine gx_cut (fun a w => ∃ (b121 : Bool), selfA (fun u120 => ⟨((.slice A0 p0.length c0) :: (i6 p1) :: undef :: undef :: (.int .u8 0) :: (i6 x7) :: (i6 x13) :: (i6 x19) :: (i6 x25) :: (i6 x31) :: (i6 x40) :: (i6 x86) :: (i6 x92) :: (u39 13) :: (i6 p1) :: (i6 (iw (p1 - 1))) :: (i6 x7) :: (u39 17) :: (i6 p1) :: (i6 x13) :: (u39 20) :: (i6 p1) :: (i6 (iw (p1 - 2))) :: (i6 x19) :: (u39 24) :: (i6 p1) :: (i6 (iw (p1 + 1))) :: (i6 x25) :: (u39 28) :: (i6 p1) :: (i6 (iw (p1 + 2))) :: (i6 x31) :: (i6 p1) :: (i6 (iw (p1 - 1))) :: dd u39 34 12 ((u109 46) :: (i6 x40) :: (i6 x86) :: (u109 49) :: (i6 x40) :: (i6 (iw (x40 - 1))) :: (i6 x92) :: (.bool false) :: (i6 x7) :: (.bool false) :: (.bool false) :: dd u109 57 6 ((.bool b121) :: dd u120 64 10 (un 234 ([]))))).toArray, []⟩) a ∧ b121 = c122 ∧ St [] w0 w [poolE ([]) w0]) ?_ ?_
 refine gx_region (gx_kA (i6 x7) w107 ?_)
 rcases if_in hE123 with ⟨h125, hE123⟩ | ⟨h125, hE123⟩
 refine gx_vA (.bool true) w107 (rbE (decide_eq_true h125)) (gx_kA (.bool true) w107 (gx_oA (gx_oA (gx_kA (.bool true) w107 (gx_kA (.bool true) w107 (gx_oA (gx_oA (gx_kA (.bool true) w107 (gx_kA (.bool true) w107 (gx_nil (gx_thenN ?_)))))))))))
 exact ⟨true, selfX, (sj hE123), hS108⟩
 refine gx_vA (.bool false) w107 (rbE (decide_eq_false h125)) (gx_kA (.bool false) w107 (gx_kA (i6 x7) w107 ?_))
 rcases if_in hE123 with ⟨h126, hE123⟩ | ⟨h126, hE123⟩
 refine gx_vA (.bool true) w107 (rbE (decide_eq_true h126)) (gx_kA (.bool true) w107 (gx_kA (.bool true) w107 (gx_oA (gx_oA (gx_kA (.bool true) w107 (gx_kA (.bool true) w107 (gx_nil (gx_thenN ?_))))))))
 exact ⟨true, selfX, (sj hE123), hS108⟩
 refine gx_vA (.bool false) w107 (rbE (decide_eq_false h126)) (gx_kA (.bool false) w107 (gx_kA (.bool false) w107 (gx_kA (i6 x7) w107 ?_)))
 rcases if_in hE123 with ⟨h127, hE123⟩ | ⟨h127, hE123⟩
 refine gx_vA (.bool true) w107 (rbE (decide_eq_true h127)) (gx_kA (.bool true) w107 (gx_kA (.bool true) w107 (gx_nil (gx_thenN ?_))))
 exact ⟨true, selfX, (sj hE123), hS108⟩
 refine gx_vA (.bool false) w107 (rbE (decide_eq_false h127)) (gx_kA (.bool false) w107 (gx_kA (.bool false) w107 (gx_nil (gx_thenN ?_))))
 exact ⟨false, selfX, (sj hE123), hS108⟩
 rintro _ w118 ⟨b121, hq656, rfl, hS119⟩
 obtain ⟨u120, rfl⟩ := selfA_u hq656
 try dsimp only at hO124
 rcases b121 with _ | _
 try dsimp only at hO124
 refine gx_no (by as_aux_lemma => kernel_rfl) (gx_seq (fun K130 hK131 => gx_region (gx_kA (i6 x13) w118 (gx_rA (st_made .i64 3 [1, 2, 3, 4, 5, 6] hS119 (by show 6 ≤ 1000000000; decide) (by as_aux_lemma => kernel_rfl)) ?_))))
 rintro _ w132 ⟨rfl, hS133⟩
 have hS133 : St _ _ w132 [poolE ([]) w0, rowE .i64 3 (some ⟨w118.heap.size, 0, none⟩) 6 ([1, 2, 3, 4, 5, 6])] := hS133
 have hP134 : St _ _ w132 ([] ++ [poolE ([]) w0, rowE .i64 3 (some ⟨w118.heap.size, 0, none⟩) 6 ([1, 2, 3, 4, 5, 6])]) := hS133
 obtain ⟨b136, hc135, hO124⟩ := bind_in hO124
 try dsimp only at hO124
 refine gx_cA _ (rIn_ok N x13 ([1, 2, 3, 4, 5, 6]) (some ⟨w118.heap.size, 0, none⟩) 6 _ hc135 w132 (hP134.vwB 1 rfl)) ?_
 rintro _ w137 ⟨rfl, hT139⟩
 have hS138 : St _ _ w137 [poolE ([]) w0, rowE .i64 3 (some ⟨w118.heap.size, 0, none⟩) 6 ([1, 2, 3, 4, 5, 6])] := hS133.take _ hT139
 refine gx_kA (.bool b136) w137 (gx_nil (gx_thenN (hK131 _ _ ?_)))
 rcases b136 with _ | _
 try dsimp only at hO124
 refine gx_no (by as_aux_lemma => kernel_rfl) (gx_seq (fun K142 hK143 => gx_region (gx_kA (i6 x86) w137 ?_)))
 rcases if_in hO124 with ⟨h144, hO124⟩ | ⟨h144, hO124⟩
 refine gx_vA (.bool true) w137 (rbE (decide_eq_true h144)) (gx_kA (.bool true) w137 (gx_nil (gx_thenN (hK143 _ _ (gx_yes (by as_aux_lemma => kernel_rfl) (gx_seq (fun K145 hK146 => gx_region ?_)))))))
 refine gx_kA (.int .u8 1) w137 (gx_nil (gx_thenN (hK146 _ _ (gx_ret (gx_blkR (gx_thenR ?_))))))
 obtain rfl := sj hO124
 try dsimp only at hO101
 obtain rfl := sj hO101
 exact gxF (.int .u8 1) ⟨_, rfl, rfl, (hS138.pick [] rfl rfl)⟩
 refine gx_vA (.bool false) w137 (rbE (decide_eq_false h144)) (gx_kA (.bool false) w137 (gx_nil (gx_thenN (hK143 _ _ (gx_no (by as_aux_lemma => kernel_rfl) ?_)))))
 obtain ⟨c151, hE152, hO153⟩ := bind_in hO124
 refine gx_cut (fun a w => ∃ (b150 : Bool), selfA (fun u149 => ⟨((.slice A0 p0.length c0) :: (i6 p1) :: undef :: undef :: (.int .u8 0) :: (i6 x7) :: (i6 x13) :: (i6 x19) :: (i6 x25) :: (i6 x31) :: (i6 x40) :: (i6 x86) :: (i6 x92) :: (u39 13) :: (i6 p1) :: (i6 (iw (p1 - 1))) :: (i6 x7) :: (u39 17) :: (i6 p1) :: (i6 x13) :: (u39 20) :: (i6 p1) :: (i6 (iw (p1 - 2))) :: (i6 x19) :: (u39 24) :: (i6 p1) :: (i6 (iw (p1 + 1))) :: (i6 x25) :: (u39 28) :: (i6 p1) :: (i6 (iw (p1 + 2))) :: (i6 x31) :: (i6 p1) :: (i6 (iw (p1 - 1))) :: dd u39 34 12 ((u109 46) :: (i6 x40) :: (i6 x86) :: (u109 49) :: (i6 x40) :: (i6 (iw (x40 - 1))) :: (i6 x92) :: (.bool false) :: (i6 x7) :: (.bool false) :: (.bool false) :: dd u109 57 6 ((.bool false) :: dd u120 64 10 ((.bool false) :: (i6 x13) :: (u149 76) :: (.bool false) :: (.bool false) :: (i6 x86) :: (.bool false) :: (.bool b150) :: dd u149 82 12 (un 214 ([])))))).toArray, []⟩) a ∧ b150 = c151 ∧ St [] w0 w [poolE ([]) w0]) ?_ ?_
 refine gx_seq (fun K154 hK155 => gx_region (gx_kA (.slice A0 p0.length c0) w137 (gx_kA (i6 p1) w137 (gx_kA (i6 (iw (p1 - 1))) w137 ?_))))
 obtain ⟨x156, hx157, hE152⟩ := bind_in hE152
 obtain ⟨g158, o159, e160, hA161, he162, h163, ha164⟩ := elem_at (e := enccalamusref13Unit) (sl_lies (hS138.inn ho0 hv0)) (sl_each hv0) hx157 (by decide)
 obtain ⟨e165, e166, rfl, h167, h168⟩ := h163
 obtain rfl := h167
 obtain ⟨e169, e170, rfl, h171, h172⟩ := h168
 obtain rfl := h171
 obtain ⟨e173, e174, rfl, h175, h176⟩ := h172
 obtain rfl := h175
 obtain ⟨e177, e178, rfl, h179, h180⟩ := h176
 obtain rfl := h179
 obtain rfl := h180
 have ha164 : ∀ w', Lies w' A0 vs0 → w'.rangeAt g158 o159 [i6 x156.1, .int .i32 x156.2.1, i6 x156.2.2.1, .bool x156.2.2.2.1, .bool x156.2.2.2.2] := ha164
 refine gx_vA (.pointer (some ⟨g158, o159, none⟩)) w137 (run_ixaddrN (E := 49) (s := 5) (k := .i64) (c := c0) rfl (by as_aux_lemma => kernel_rfl) (by as_aux_lemma => kernel_rfl) (by as_aux_lemma => kernel_rfl) (fun _ => by kernel_rfl) (ixg_in hx157).1 (ixg_in hx157).2.1 hA161) (gx_kA (.pointer (some ⟨g158, o159 + 3, none⟩)) w137 (gx_vA (.bool x156.2.2.2.1) w137 (run_loadN1 3 rfl (by as_aux_lemma => kernel_rfl) (fun _ => by kernel_rfl) (ha164 _ (sl_lies (hS138.inn ho0 hv0))) rfl) (gx_kA (.bool x156.2.2.2.1) w137 (gx_nil (gx_thenN (hK155 _ _ ?_))))))
 generalize x156.2.2.2.1 = b181 at *
 rcases b181 with _ | _
 try dsimp only at hE152
 refine gx_no (by as_aux_lemma => kernel_rfl) (gx_seq (fun K182 hK183 => gx_region (gx_kA (i6 x7) w137 ?_)))
 rcases if_in hE152 with ⟨h184, hE152⟩ | ⟨h184, hE152⟩
 refine gx_vA (.bool true) w137 (rbE (decide_eq_true h184)) (gx_kA (.bool true) w137 (gx_nil (gx_thenN (hK183 _ _ (gx_yes (by as_aux_lemma => kernel_rfl) (gx_pass (gx_thenN ?_)))))))
 exact ⟨true, selfX, (sj hE152), (hS138.pick [0] rfl rfl)⟩
 refine gx_vA (.bool false) w137 (rbE (decide_eq_false h184)) (gx_kA (.bool false) w137 (gx_nil (gx_thenN (hK183 _ _ (gx_no (by as_aux_lemma => kernel_rfl) (gx_seq (fun K185 hK186 => gx_region ?_)))))))
 refine gx_kA (i6 x13) w137 ?_
 rcases if_in hE152 with ⟨h187, hE152⟩ | ⟨h187, hE152⟩
 refine gx_vA (.bool true) w137 (rbE (decide_eq_true h187)) (gx_kA (.bool true) w137 (gx_nil (gx_thenN (hK186 _ _ (gx_yes (by as_aux_lemma => kernel_rfl) (gx_pass (gx_thenN ?_)))))))
 exact ⟨true, selfX, (sj hE152), (hS138.pick [0] rfl rfl)⟩
 refine gx_vA (.bool false) w137 (rbE (decide_eq_false h187)) (gx_kA (.bool false) w137 (gx_nil (gx_thenN (hK186 _ _ (gx_no (by as_aux_lemma => kernel_rfl) (gx_region (gx_kA (i6 x7) w137 ?_)))))))
 rcases if_in hE152 with ⟨h188, hE152⟩ | ⟨h188, hE152⟩
 refine gx_vA (.bool true) w137 (rbE (decide_eq_true h188)) (gx_kA (.bool true) w137 (gx_nil (gx_thenN ?_)))
 exact ⟨true, selfX, (sj hE152), (hS138.pick [0] rfl rfl)⟩
 refine gx_vA (.bool false) w137 (rbE (decide_eq_false h188)) (gx_kA (.bool false) w137 (gx_nil (gx_thenN ?_)))
 exact ⟨false, selfX, (sj hE152), (hS138.pick [0] rfl rfl)⟩
 try dsimp only at hE152
 refine gx_yes (by as_aux_lemma => kernel_rfl) (gx_pass (gx_thenN ?_))
 exact ⟨true, selfX, (sj hE152), (hS138.pick [0] rfl rfl)⟩
 rintro _ w147 ⟨b150, hq655, rfl, hS148⟩
 obtain ⟨u149, rfl⟩ := selfA_u hq655
 try dsimp only at hO153
 rcases b150 with _ | _
 try dsimp only at hO153
 refine gx_no (by as_aux_lemma => kernel_rfl) ?_
 obtain ⟨c195, hE196, hO197⟩ := bind_in hO153
 refine gx_cut (fun a w => ∃ (b194 : Bool), selfA (fun u193 => ⟨((.slice A0 p0.length c0) :: (i6 p1) :: undef :: undef :: (.int .u8 0) :: (i6 x7) :: (i6 x13) :: (i6 x19) :: (i6 x25) :: (i6 x31) :: (i6 x40) :: (i6 x86) :: (i6 x92) :: (u39 13) :: (i6 p1) :: (i6 (iw (p1 - 1))) :: (i6 x7) :: (u39 17) :: (i6 p1) :: (i6 x13) :: (u39 20) :: (i6 p1) :: (i6 (iw (p1 - 2))) :: (i6 x19) :: (u39 24) :: (i6 p1) :: (i6 (iw (p1 + 1))) :: (i6 x25) :: (u39 28) :: (i6 p1) :: (i6 (iw (p1 + 2))) :: (i6 x31) :: (i6 p1) :: (i6 (iw (p1 - 1))) :: dd u39 34 12 ((u109 46) :: (i6 x40) :: (i6 x86) :: (u109 49) :: (i6 x40) :: (i6 (iw (x40 - 1))) :: (i6 x92) :: (.bool false) :: (i6 x7) :: (.bool false) :: (.bool false) :: dd u109 57 6 ((.bool false) :: dd u120 64 10 ((.bool false) :: (i6 x13) :: (u149 76) :: (.bool false) :: (.bool false) :: (i6 x86) :: (.bool false) :: (.bool false) :: dd u149 82 12 ((.bool b194) :: dd u193 95 14 (un 199 ([]))))))).toArray, []⟩) a ∧ b194 = c195 ∧ St [] w0 w [poolE ([]) w0]) ?_ ?_
 refine gx_region (gx_kA (i6 x13) w147 ?_)
 obtain ⟨c202, hE203, hO204⟩ := bind_in hE196
 refine gx_part (l1 := [_, _, _, _, _]) (fun a w => ∃ (b201 : Bool), selfA (fun u200 => ⟨((.slice A0 p0.length c0) :: (i6 p1) :: undef :: undef :: (.int .u8 0) :: (i6 x7) :: (i6 x13) :: (i6 x19) :: (i6 x25) :: (i6 x31) :: (i6 x40) :: (i6 x86) :: (i6 x92) :: (u39 13) :: (i6 p1) :: (i6 (iw (p1 - 1))) :: (i6 x7) :: (u39 17) :: (i6 p1) :: (i6 x13) :: (u39 20) :: (i6 p1) :: (i6 (iw (p1 - 2))) :: (i6 x19) :: (u39 24) :: (i6 p1) :: (i6 (iw (p1 + 1))) :: (i6 x25) :: (u39 28) :: (i6 p1) :: (i6 (iw (p1 + 2))) :: (i6 x31) :: (i6 p1) :: (i6 (iw (p1 - 1))) :: dd u39 34 12 ((u109 46) :: (i6 x40) :: (i6 x86) :: (u109 49) :: (i6 x40) :: (i6 (iw (x40 - 1))) :: (i6 x92) :: (.bool false) :: (i6 x7) :: (.bool false) :: (.bool false) :: dd u109 57 6 ((.bool false) :: dd u120 64 10 ((.bool false) :: (i6 x13) :: (u149 76) :: (.bool false) :: (.bool false) :: (i6 x86) :: (.bool false) :: (.bool false) :: dd u149 82 12 (undef :: (i6 x13) :: dd u200 96 4 ((.bool b201) :: un 207 ([]))))))).toArray, []⟩) a ∧ b201 = c202 ∧ St [] w0 w [poolE ([]) w0]) rfl ?_ ?_
 rcases if_in hE203 with ⟨h206, hE203⟩ | ⟨h206, hE203⟩
 refine gx_vA (.bool true) w147 (rbE (decide_eq_true h206)) (gx_kA (.bool true) w147 (gx_kA (i6 x7) w147 ?_))
 rcases if_in hE203 with ⟨h207, hE203⟩ | ⟨h207, hE203⟩
 refine gx_vA (.bool true) w147 (rbE (ne_yes h207)) (gx_kA (.bool true) w147 (gx_nil (gx_thenN ?_)))
 exact ⟨true, selfX, (sj hE203), hS148⟩
 refine gx_vA (.bool false) w147 (rbE (ne_no h207)) (gx_kA (.bool false) w147 (gx_nil (gx_thenN ?_)))
 exact ⟨false, selfX, (sj hE203), hS148⟩
 refine gx_vA (.bool false) w147 (rbE (decide_eq_false h206)) (gx_kA (.bool false) w147 (gx_oA (gx_oA (gx_kA (.bool false) w147 (gx_nil (gx_thenN ?_))))))
 exact ⟨false, selfX, (sj hE203), hS148⟩
 rintro _ w198 ⟨b201, hq205, rfl, hS199⟩
 obtain ⟨u200, rfl⟩ := selfA_u hq205
 try dsimp only at hO204
 refine gx_kA (.bool b201) w198 ?_
 rcases b201 with _ | _
 try dsimp only at hO204
 refine gx_oA (gx_oA (gx_kA (.bool false) w198 (gx_kA (.bool false) w198 (gx_oA (gx_oA (gx_kA (.bool false) w198 (gx_kA (.bool false) w198 (gx_nil (gx_thenN ?_)))))))))
 exact ⟨false, selfX, (sj hO204), hS199⟩
 try dsimp only at hO204
 refine gx_kA (i6 x7) w198 ?_
 rcases if_in hO204 with ⟨h208, hO204⟩ | ⟨h208, hO204⟩
 refine gx_vA (.bool true) w198 (rbE (ne_yes h208)) (gx_kA (.bool true) w198 (gx_kA (.bool true) w198 (gx_kA (i6 x7) w198 ?_)))
 rcases if_in hO204 with ⟨h209, hO204⟩ | ⟨h209, hO204⟩
 refine gx_vA (.bool true) w198 (rbE (ne_yes h209)) (gx_kA (.bool true) w198 (gx_kA (.bool true) w198 (gx_nil (gx_thenN ?_))))
 exact ⟨true, selfX, (sj hO204), hS199⟩
 refine gx_vA (.bool false) w198 (rbE (ne_no h209)) (gx_kA (.bool false) w198 (gx_kA (.bool false) w198 (gx_nil (gx_thenN ?_))))
 exact ⟨false, selfX, (sj hO204), hS199⟩
 refine gx_vA (.bool false) w198 (rbE (ne_no h208)) (gx_kA (.bool false) w198 (gx_kA (.bool false) w198 (gx_oA (gx_oA (gx_kA (.bool false) w198 (gx_kA (.bool false) w198 (gx_nil (gx_thenN ?_))))))))
 exact ⟨false, selfX, (sj hO204), hS199⟩
 rintro _ w191 ⟨b194, hq654, rfl, hS192⟩
 obtain ⟨u193, rfl⟩ := selfA_u hq654
 try dsimp only at hO197
 rcases b194 with _ | _
 try dsimp only at hO197
 refine gx_no (by as_aux_lemma => kernel_rfl) ?_
 obtain ⟨c216, hE217, hO218⟩ := bind_in hO197
 refine gx_cut (fun a w => ∃ (b215 : Bool), selfA (fun u214 => ⟨((.slice A0 p0.length c0) :: (i6 p1) :: undef :: undef :: (.int .u8 0) :: (i6 x7) :: (i6 x13) :: (i6 x19) :: (i6 x25) :: (i6 x31) :: (i6 x40) :: (i6 x86) :: (i6 x92) :: (u39 13) :: (i6 p1) :: (i6 (iw (p1 - 1))) :: (i6 x7) :: (u39 17) :: (i6 p1) :: (i6 x13) :: (u39 20) :: (i6 p1) :: (i6 (iw (p1 - 2))) :: (i6 x19) :: (u39 24) :: (i6 p1) :: (i6 (iw (p1 + 1))) :: (i6 x25) :: (u39 28) :: (i6 p1) :: (i6 (iw (p1 + 2))) :: (i6 x31) :: (i6 p1) :: (i6 (iw (p1 - 1))) :: dd u39 34 12 ((u109 46) :: (i6 x40) :: (i6 x86) :: (u109 49) :: (i6 x40) :: (i6 (iw (x40 - 1))) :: (i6 x92) :: (.bool false) :: (i6 x7) :: (.bool false) :: (.bool false) :: dd u109 57 6 ((.bool false) :: dd u120 64 10 ((.bool false) :: (i6 x13) :: (u149 76) :: (.bool false) :: (.bool false) :: (i6 x86) :: (.bool false) :: (.bool false) :: dd u149 82 12 ((.bool false) :: dd u193 95 14 ((.bool b215) :: dd u214 110 5 (un 193 ([])))))))).toArray, []⟩) a ∧ b215 = c216 ∧ St [] w0 w [poolE ([]) w0]) ?_ ?_
 refine gx_seq (fun K219 hK220 => gx_region (gx_kA (i6 x13) w191 (gx_rA (st_made .i64 3 [21, 20, 16, 24] hS192 (by show 4 ≤ 1000000000; decide) (by as_aux_lemma => kernel_rfl)) ?_)))
 rintro _ w221 ⟨rfl, hS222⟩
 have hS222 : St _ _ w221 [poolE ([]) w0, rowE .i64 3 (some ⟨w191.heap.size, 0, none⟩) 4 ([21, 20, 16, 24])] := hS222
 have hP223 : St _ _ w221 ([] ++ [poolE ([]) w0, rowE .i64 3 (some ⟨w191.heap.size, 0, none⟩) 4 ([21, 20, 16, 24])]) := hS222
 obtain ⟨b225, hc224, hE217⟩ := bind_in hE217
 try dsimp only at hE217
 refine gx_cA _ (rIn_ok N x13 ([21, 20, 16, 24]) (some ⟨w191.heap.size, 0, none⟩) 4 _ hc224 w221 (hP223.vwB 1 rfl)) ?_
 rintro _ w226 ⟨rfl, hT228⟩
 have hS227 : St _ _ w226 [poolE ([]) w0, rowE .i64 3 (some ⟨w191.heap.size, 0, none⟩) 4 ([21, 20, 16, 24])] := hS222.take _ hT228
 refine gx_kA (.bool b225) w226 (gx_nil (gx_thenN (hK220 _ _ ?_)))
 rcases b225 with _ | _
 try dsimp only at hE217
 refine gx_no (by as_aux_lemma => kernel_rfl) (gx_region (gx_kA (i6 x86) w226 ?_))
 rcases if_in hE217 with ⟨h229, hE217⟩ | ⟨h229, hE217⟩
 refine gx_vA (.bool true) w226 (rbE (decide_eq_true h229)) (gx_kA (.bool true) w226 (gx_nil (gx_thenN ?_)))
 exact ⟨true, selfX, (sj hE217), (hS227.pick [0] rfl rfl)⟩
 refine gx_vA (.bool false) w226 (rbE (decide_eq_false h229)) (gx_kA (.bool false) w226 (gx_nil (gx_thenN ?_)))
 exact ⟨false, selfX, (sj hE217), (hS227.pick [0] rfl rfl)⟩
 try dsimp only at hE217
 refine gx_yes (by as_aux_lemma => kernel_rfl) (gx_pass (gx_thenN ?_))
 exact ⟨true, selfX, (sj hE217), (hS227.pick [0] rfl rfl)⟩
 rintro _ w212 ⟨b215, hq653, rfl, hS213⟩
 obtain ⟨u214, rfl⟩ := selfA_u hq653
 try dsimp only at hO218
 rcases b215 with _ | _
 try dsimp only at hO218
 refine gx_no (by as_aux_lemma => kernel_rfl) ?_
 obtain ⟨c236, hE237, hO238⟩ := bind_in hO218
 refine gx_cut (fun a w => ∃ (b235 : Bool), selfA (fun u234 => ⟨((.slice A0 p0.length c0) :: (i6 p1) :: undef :: undef :: (.int .u8 0) :: (i6 x7) :: (i6 x13) :: (i6 x19) :: (i6 x25) :: (i6 x31) :: (i6 x40) :: (i6 x86) :: (i6 x92) :: (u39 13) :: (i6 p1) :: (i6 (iw (p1 - 1))) :: (i6 x7) :: (u39 17) :: (i6 p1) :: (i6 x13) :: (u39 20) :: (i6 p1) :: (i6 (iw (p1 - 2))) :: (i6 x19) :: (u39 24) :: (i6 p1) :: (i6 (iw (p1 + 1))) :: (i6 x25) :: (u39 28) :: (i6 p1) :: (i6 (iw (p1 + 2))) :: (i6 x31) :: (i6 p1) :: (i6 (iw (p1 - 1))) :: dd u39 34 12 ((u109 46) :: (i6 x40) :: (i6 x86) :: (u109 49) :: (i6 x40) :: (i6 (iw (x40 - 1))) :: (i6 x92) :: (.bool false) :: (i6 x7) :: (.bool false) :: (.bool false) :: dd u109 57 6 ((.bool false) :: dd u120 64 10 ((.bool false) :: (i6 x13) :: (u149 76) :: (.bool false) :: (.bool false) :: (i6 x86) :: (.bool false) :: (.bool false) :: dd u149 82 12 ((.bool false) :: dd u193 95 14 ((.bool false) :: dd u214 110 5 ((.bool b235) :: dd u234 116 14 (un 178 ([]))))))))).toArray, []⟩) a ∧ b235 = c236 ∧ St [] w0 w [poolE ([]) w0]) ?_ ?_
 refine gx_region (gx_kA (i6 x40) w212 ?_)
 rcases if_in hE237 with ⟨h239, hE237⟩ | ⟨h239, hE237⟩
 refine gx_vA (.bool true) w212 (rbE (decide_eq_true h239)) (gx_kA (.bool true) w212 (gx_kA (.slice A0 p0.length c0) w212 (gx_kA (i6 x40) w212 ?_)))
 obtain ⟨x240, hx241, hE237⟩ := bind_in hE237
 obtain ⟨g242, o243, e244, hA245, he246, h247, ha248⟩ := elem_at (e := enccalamusref13Unit) (sl_lies (hS213.inn ho0 hv0)) (sl_each hv0) hx241 (by decide)
 obtain ⟨e249, e250, rfl, h251, h252⟩ := h247
 obtain rfl := h251
 obtain ⟨e253, e254, rfl, h255, h256⟩ := h252
 obtain rfl := h255
 obtain ⟨e257, e258, rfl, h259, h260⟩ := h256
 obtain rfl := h259
 obtain ⟨e261, e262, rfl, h263, h264⟩ := h260
 obtain rfl := h263
 obtain rfl := h264
 have ha248 : ∀ w', Lies w' A0 vs0 → w'.rangeAt g242 o243 [i6 x240.1, .int .i32 x240.2.1, i6 x240.2.2.1, .bool x240.2.2.2.1, .bool x240.2.2.2.2] := ha248
 refine gx_vA (.pointer (some ⟨g242, o243, none⟩)) w212 (run_ixaddrN (E := 49) (s := 5) (k := .i64) (c := c0) rfl (by as_aux_lemma => kernel_rfl) (by as_aux_lemma => kernel_rfl) (by as_aux_lemma => kernel_rfl) (fun _ => by kernel_rfl) (ixg_in hx241).1 (ixg_in hx241).2.1 hA245) (gx_vA (.agg #[i6 x240.1, .int .i32 x240.2.1, i6 x240.2.2.1, .bool x240.2.2.2.1, .bool x240.2.2.2.2]) w212 (run_loadNG (d := _) (ec := [i6 x240.1, .int .i32 x240.2.1, i6 x240.2.2.1, .bool x240.2.2.2.1, .bool x240.2.2.2.2]) rfl (by as_aux_lemma => kernel_rfl) (ha248 _ (sl_lies (hS213.inn ho0 hv0))) rfl rfl (by as_aux_lemma => kernel_rfl)) ?_)
 have hP265 : St _ _ w212 ([] ++ [poolE ([]) w0]) := hS213
 obtain ⟨b267, hc266, hE237⟩ := bind_in hE237
 try dsimp only at hE237
 refine gx_cA _ (rOpn_ok N x240.1 x240.2.1 x240.2.2.1 x240.2.2.2.1 x240.2.2.2.2 _ hc266 w212 ) ?_
 rintro _ w268 ⟨rfl, hT270⟩
 have hS269 : St _ _ w268 [poolE ([]) w0] := hS213.take _ hT270
 refine gx_kA (.bool b267) w268 (gx_kA (.bool b267) w268 ?_)
 rcases b267 with _ | _
 try dsimp only at hE237
 refine gx_oA (gx_oA (gx_oA (gx_kA (.bool false) w268 (gx_kA (.bool false) w268 (gx_nil (gx_thenN ?_))))))
 exact ⟨false, selfX, (sj hE237), hS269⟩
 try dsimp only at hE237
 refine gx_kA (i6 x92) w268 (gx_rA (st_made .i64 3 [99, 1, 2, 3, 4, 19, 22, 8, 5, 6] hS269 (by show 10 ≤ 1000000000; decide) (by as_aux_lemma => kernel_rfl)) ?_)
 rintro _ w271 ⟨rfl, hS272⟩
 have hS272 : St _ _ w271 [poolE ([]) w0, rowE .i64 3 (some ⟨w268.heap.size, 0, none⟩) 10 ([99, 1, 2, 3, 4, 19, 22, 8, 5, 6])] := hS272
 have hP273 : St _ _ w271 ([] ++ [poolE ([]) w0, rowE .i64 3 (some ⟨w268.heap.size, 0, none⟩) 10 ([99, 1, 2, 3, 4, 19, 22, 8, 5, 6])]) := hS272
 obtain ⟨b275, hc274, hE237⟩ := bind_in hE237
 try dsimp only at hE237
 refine gx_cA _ (rIn_ok N x92 ([99, 1, 2, 3, 4, 19, 22, 8, 5, 6]) (some ⟨w268.heap.size, 0, none⟩) 10 _ hc274 w271 (hP273.vwB 1 rfl)) ?_
 rintro _ w276 ⟨rfl, hT278⟩
 have hS277 : St _ _ w276 [poolE ([]) w0, rowE .i64 3 (some ⟨w268.heap.size, 0, none⟩) 10 ([99, 1, 2, 3, 4, 19, 22, 8, 5, 6])] := hS272.take _ hT278
 refine gx_kA (.bool b275) w276 (gx_kA (.bool b275) w276 (gx_nil (gx_thenN ?_)))
 exact ⟨b275, selfX, (sj hE237), (hS277.pick [0] rfl rfl)⟩
 refine gx_vA (.bool false) w212 (rbE (decide_eq_false h239)) (gx_kA (.bool false) w212 (gx_oA (gx_oA (gx_oA (gx_oA (gx_oA (gx_kA (.bool false) w212 (gx_kA (.bool false) w212 (gx_oA (gx_oA (gx_oA (gx_kA (.bool false) w212 (gx_kA (.bool false) w212 (gx_nil (gx_thenN ?_)))))))))))))))
 exact ⟨false, selfX, (sj hE237), hS213⟩
 rintro _ w232 ⟨b235, hq652, rfl, hS233⟩
 obtain ⟨u234, rfl⟩ := selfA_u hq652
 try dsimp only at hO238
 rcases b235 with _ | _
 try dsimp only at hO238
 refine gx_no (by as_aux_lemma => kernel_rfl) ?_
 obtain ⟨c285, hE286, hO287⟩ := bind_in hO238
 refine gx_cut (fun a w => ∃ (b284 : Bool), selfA (fun u283 => ⟨((.slice A0 p0.length c0) :: (i6 p1) :: undef :: undef :: (.int .u8 0) :: (i6 x7) :: (i6 x13) :: (i6 x19) :: (i6 x25) :: (i6 x31) :: (i6 x40) :: (i6 x86) :: (i6 x92) :: (u39 13) :: (i6 p1) :: (i6 (iw (p1 - 1))) :: (i6 x7) :: (u39 17) :: (i6 p1) :: (i6 x13) :: (u39 20) :: (i6 p1) :: (i6 (iw (p1 - 2))) :: (i6 x19) :: (u39 24) :: (i6 p1) :: (i6 (iw (p1 + 1))) :: (i6 x25) :: (u39 28) :: (i6 p1) :: (i6 (iw (p1 + 2))) :: (i6 x31) :: (i6 p1) :: (i6 (iw (p1 - 1))) :: dd u39 34 12 ((u109 46) :: (i6 x40) :: (i6 x86) :: (u109 49) :: (i6 x40) :: (i6 (iw (x40 - 1))) :: (i6 x92) :: (.bool false) :: (i6 x7) :: (.bool false) :: (.bool false) :: dd u109 57 6 ((.bool false) :: dd u120 64 10 ((.bool false) :: (i6 x13) :: (u149 76) :: (.bool false) :: (.bool false) :: (i6 x86) :: (.bool false) :: (.bool false) :: dd u149 82 12 ((.bool false) :: dd u193 95 14 ((.bool false) :: dd u214 110 5 ((.bool false) :: dd u234 116 14 ((.bool b284) :: dd u283 131 10 (un 167 ([])))))))))).toArray, []⟩) a ∧ b284 = c285 ∧ St [] w0 w [poolE ([]) w0]) ?_ ?_
 refine gx_region (gx_kA (.slice A0 p0.length c0) w232 (gx_kA (i6 p1) w232 ?_))
 obtain ⟨x288, hx289, hE286⟩ := bind_in hE286
 obtain ⟨g290, o291, e292, hA293, he294, h295, ha296⟩ := elem_at (e := enccalamusref13Unit) (sl_lies (hS233.inn ho0 hv0)) (sl_each hv0) hx289 (by decide)
 obtain ⟨e297, e298, rfl, h299, h300⟩ := h295
 obtain rfl := h299
 obtain ⟨e301, e302, rfl, h303, h304⟩ := h300
 obtain rfl := h303
 obtain ⟨e305, e306, rfl, h307, h308⟩ := h304
 obtain rfl := h307
 obtain ⟨e309, e310, rfl, h311, h312⟩ := h308
 obtain rfl := h311
 obtain rfl := h312
 have ha296 : ∀ w', Lies w' A0 vs0 → w'.rangeAt g290 o291 [i6 x288.1, .int .i32 x288.2.1, i6 x288.2.2.1, .bool x288.2.2.2.1, .bool x288.2.2.2.2] := ha296
 refine gx_vA (.pointer (some ⟨g290, o291, none⟩)) w232 (run_ixaddrN (E := 49) (s := 5) (k := .i64) (c := c0) rfl (by as_aux_lemma => kernel_rfl) (by as_aux_lemma => kernel_rfl) (by as_aux_lemma => kernel_rfl) (fun _ => by kernel_rfl) (ixg_in hx289).1 (ixg_in hx289).2.1 hA293) (gx_vA (.agg #[i6 x288.1, .int .i32 x288.2.1, i6 x288.2.2.1, .bool x288.2.2.2.1, .bool x288.2.2.2.2]) w232 (run_loadNG (d := _) (ec := [i6 x288.1, .int .i32 x288.2.1, i6 x288.2.2.1, .bool x288.2.2.2.1, .bool x288.2.2.2.2]) rfl (by as_aux_lemma => kernel_rfl) (ha296 _ (sl_lies (hS233.inn ho0 hv0))) rfl rfl (by as_aux_lemma => kernel_rfl)) ?_)
 have hP313 : St _ _ w232 ([] ++ [poolE ([]) w0]) := hS233
 obtain ⟨b315, hc314, hE286⟩ := bind_in hE286
 try dsimp only at hE286
 refine gx_cA _ (rCls_ok N x288.1 x288.2.1 x288.2.2.1 x288.2.2.2.1 x288.2.2.2.2 _ hc314 w232 ) ?_
 rintro _ w316 ⟨rfl, hT318⟩
 have hS317 : St _ _ w316 [poolE ([]) w0] := hS233.take _ hT318
 refine gx_kA (.bool b315) w316 ?_
 rcases b315 with _ | _
 try dsimp only at hE286
 refine gx_oA (gx_oA (gx_oA (gx_kA (.bool false) w316 (gx_kA (.bool false) w316 (gx_nil (gx_thenN ?_))))))
 exact ⟨false, selfX, (sj hE286), hS317⟩
 try dsimp only at hE286
 refine gx_kA (i6 x25) w316 (gx_rA (st_made .i64 3 [99, 5, 8, 7, 21, 22, 20, 16, 23, 24, 1, 2, 3, 4, 6] hS317 (by show 15 ≤ 1000000000; decide) (by as_aux_lemma => kernel_rfl)) ?_)
 rintro _ w319 ⟨rfl, hS320⟩
 have hS320 : St _ _ w319 [poolE ([]) w0, rowE .i64 3 (some ⟨w316.heap.size, 0, none⟩) 15 ([99, 5, 8, 7, 21, 22, 20, 16, 23, 24, 1, 2, 3, 4, 6])] := hS320
 have hP321 : St _ _ w319 ([] ++ [poolE ([]) w0, rowE .i64 3 (some ⟨w316.heap.size, 0, none⟩) 15 ([99, 5, 8, 7, 21, 22, 20, 16, 23, 24, 1, 2, 3, 4, 6])]) := hS320
 obtain ⟨b323, hc322, hE286⟩ := bind_in hE286
 try dsimp only at hE286
 refine gx_cA _ (rIn_ok N x25 ([99, 5, 8, 7, 21, 22, 20, 16, 23, 24, 1, 2, 3, 4, 6]) (some ⟨w316.heap.size, 0, none⟩) 15 _ hc322 w319 (hP321.vwB 1 rfl)) ?_
 rintro _ w324 ⟨rfl, hT326⟩
 have hS325 : St _ _ w324 [poolE ([]) w0, rowE .i64 3 (some ⟨w316.heap.size, 0, none⟩) 15 ([99, 5, 8, 7, 21, 22, 20, 16, 23, 24, 1, 2, 3, 4, 6])] := hS320.take _ hT326
 refine gx_kA (.bool b323) w324 (gx_kA (.bool b323) w324 (gx_nil (gx_thenN ?_)))
 exact ⟨b323, selfX, (sj hE286), (hS325.pick [0] rfl rfl)⟩
 rintro _ w281 ⟨b284, hq651, rfl, hS282⟩
 obtain ⟨u283, rfl⟩ := selfA_u hq651
 try dsimp only at hO287
 rcases b284 with _ | _
 try dsimp only at hO287
 refine gx_no (by as_aux_lemma => kernel_rfl) ?_
 obtain ⟨c333, hE334, hO335⟩ := bind_in hO287
 refine gx_cut (fun a w => ∃ (b332 : Bool), selfA (fun u331 => ⟨((.slice A0 p0.length c0) :: (i6 p1) :: undef :: undef :: (.int .u8 0) :: (i6 x7) :: (i6 x13) :: (i6 x19) :: (i6 x25) :: (i6 x31) :: (i6 x40) :: (i6 x86) :: (i6 x92) :: (u39 13) :: (i6 p1) :: (i6 (iw (p1 - 1))) :: (i6 x7) :: (u39 17) :: (i6 p1) :: (i6 x13) :: (u39 20) :: (i6 p1) :: (i6 (iw (p1 - 2))) :: (i6 x19) :: (u39 24) :: (i6 p1) :: (i6 (iw (p1 + 1))) :: (i6 x25) :: (u39 28) :: (i6 p1) :: (i6 (iw (p1 + 2))) :: (i6 x31) :: (i6 p1) :: (i6 (iw (p1 - 1))) :: dd u39 34 12 ((u109 46) :: (i6 x40) :: (i6 x86) :: (u109 49) :: (i6 x40) :: (i6 (iw (x40 - 1))) :: (i6 x92) :: (.bool false) :: (i6 x7) :: (.bool false) :: (.bool false) :: dd u109 57 6 ((.bool false) :: dd u120 64 10 ((.bool false) :: (i6 x13) :: (u149 76) :: (.bool false) :: (.bool false) :: (i6 x86) :: (.bool false) :: (.bool false) :: dd u149 82 12 ((.bool false) :: dd u193 95 14 ((.bool false) :: dd u214 110 5 ((.bool false) :: dd u234 116 14 ((.bool false) :: dd u283 131 10 ((.bool b332) :: dd u331 142 10 (un 156 ([]))))))))))).toArray, []⟩) a ∧ b332 = c333 ∧ St [] w0 w [poolE ([]) w0]) ?_ ?_
 refine gx_region (gx_kA (i6 x7) w281 ?_)
 rcases if_in hE334 with ⟨h336, hE334⟩ | ⟨h336, hE334⟩
 refine gx_vA (.bool true) w281 (rbE (decide_eq_true h336)) (gx_kA (.bool true) w281 (gx_kA (i6 x13) w281 ?_))
 rcases if_in hE334 with ⟨h337, hE334⟩ | ⟨h337, hE334⟩
 refine gx_vA (.bool true) w281 (rbE (decide_eq_true h337)) (gx_kA (.bool true) w281 (gx_kA (.bool true) w281 (gx_kA (i6 x25) w281 ?_)))
 rcases if_in hE334 with ⟨h338, hE334⟩ | ⟨h338, hE334⟩
 refine gx_vA (.bool true) w281 (rbE (decide_eq_true h338)) (gx_kA (.bool true) w281 (gx_kA (.bool true) w281 (gx_nil (gx_thenN ?_))))
 exact ⟨true, selfX, (sj hE334), hS282⟩
 refine gx_vA (.bool false) w281 (rbE (decide_eq_false h338)) (gx_kA (.bool false) w281 (gx_kA (.bool false) w281 (gx_nil (gx_thenN ?_))))
 exact ⟨false, selfX, (sj hE334), hS282⟩
 refine gx_vA (.bool false) w281 (rbE (decide_eq_false h337)) (gx_kA (.bool false) w281 (gx_kA (.bool false) w281 (gx_oA (gx_oA (gx_kA (.bool false) w281 (gx_kA (.bool false) w281 (gx_nil (gx_thenN ?_))))))))
 exact ⟨false, selfX, (sj hE334), hS282⟩
 refine gx_vA (.bool false) w281 (rbE (decide_eq_false h336)) (gx_kA (.bool false) w281 (gx_oA (gx_oA (gx_kA (.bool false) w281 (gx_kA (.bool false) w281 (gx_oA (gx_oA (gx_kA (.bool false) w281 (gx_kA (.bool false) w281 (gx_nil (gx_thenN ?_)))))))))))
 exact ⟨false, selfX, (sj hE334), hS282⟩
 rintro _ w329 ⟨b332, hq650, rfl, hS330⟩
 obtain ⟨u331, rfl⟩ := selfA_u hq650
 try dsimp only at hO335
 rcases b332 with _ | _
 try dsimp only at hO335
 refine gx_no (by as_aux_lemma => kernel_rfl) ?_
 obtain ⟨c345, hE346, hO347⟩ := bind_in hO335
 refine gx_cut (fun a w => ∃ (b344 : Bool), selfA (fun u343 => ⟨((.slice A0 p0.length c0) :: (i6 p1) :: undef :: undef :: (.int .u8 0) :: (i6 x7) :: (i6 x13) :: (i6 x19) :: (i6 x25) :: (i6 x31) :: (i6 x40) :: (i6 x86) :: (i6 x92) :: (u39 13) :: (i6 p1) :: (i6 (iw (p1 - 1))) :: (i6 x7) :: (u39 17) :: (i6 p1) :: (i6 x13) :: (u39 20) :: (i6 p1) :: (i6 (iw (p1 - 2))) :: (i6 x19) :: (u39 24) :: (i6 p1) :: (i6 (iw (p1 + 1))) :: (i6 x25) :: (u39 28) :: (i6 p1) :: (i6 (iw (p1 + 2))) :: (i6 x31) :: (i6 p1) :: (i6 (iw (p1 - 1))) :: dd u39 34 12 ((u109 46) :: (i6 x40) :: (i6 x86) :: (u109 49) :: (i6 x40) :: (i6 (iw (x40 - 1))) :: (i6 x92) :: (.bool false) :: (i6 x7) :: (.bool false) :: (.bool false) :: dd u109 57 6 ((.bool false) :: dd u120 64 10 ((.bool false) :: (i6 x13) :: (u149 76) :: (.bool false) :: (.bool false) :: (i6 x86) :: (.bool false) :: (.bool false) :: dd u149 82 12 ((.bool false) :: dd u193 95 14 ((.bool false) :: dd u214 110 5 ((.bool false) :: dd u234 116 14 ((.bool false) :: dd u283 131 10 ((.bool false) :: dd u331 142 10 ((.bool b344) :: dd u343 153 18 (un 137 ([])))))))))))).toArray, []⟩) a ∧ b344 = c345 ∧ St [] w0 w [poolE ([]) w0]) ?_ ?_
 refine gx_seq (fun K348 hK349 => gx_region (gx_kA (i6 x13) w329 ?_))
 rcases if_in hE346 with ⟨h350, hE346⟩ | ⟨h350, hE346⟩
 refine gx_vA (.bool true) w329 (rbE (decide_eq_true h350)) (gx_kA (.bool true) w329 (gx_nil (gx_thenN (hK349 _ _ (gx_yes (by as_aux_lemma => kernel_rfl) (gx_pass (gx_thenN ?_)))))))
 exact ⟨true, selfX, (sj hE346), hS330⟩
 refine gx_vA (.bool false) w329 (rbE (decide_eq_false h350)) (gx_kA (.bool false) w329 (gx_nil (gx_thenN (hK349 _ _ (gx_no (by as_aux_lemma => kernel_rfl) ?_)))))
 obtain ⟨c355, hE356, hO357⟩ := bind_in hE346
 refine gx_cut (fun a w => ∃ (b354 : Bool), selfA (fun u353 => ⟨((.slice A0 p0.length c0) :: (i6 p1) :: undef :: undef :: (.int .u8 0) :: (i6 x7) :: (i6 x13) :: (i6 x19) :: (i6 x25) :: (i6 x31) :: (i6 x40) :: (i6 x86) :: (i6 x92) :: (u39 13) :: (i6 p1) :: (i6 (iw (p1 - 1))) :: (i6 x7) :: (u39 17) :: (i6 p1) :: (i6 x13) :: (u39 20) :: (i6 p1) :: (i6 (iw (p1 - 2))) :: (i6 x19) :: (u39 24) :: (i6 p1) :: (i6 (iw (p1 + 1))) :: (i6 x25) :: (u39 28) :: (i6 p1) :: (i6 (iw (p1 + 2))) :: (i6 x31) :: (i6 p1) :: (i6 (iw (p1 - 1))) :: dd u39 34 12 ((u109 46) :: (i6 x40) :: (i6 x86) :: (u109 49) :: (i6 x40) :: (i6 (iw (x40 - 1))) :: (i6 x92) :: (.bool false) :: (i6 x7) :: (.bool false) :: (.bool false) :: dd u109 57 6 ((.bool false) :: dd u120 64 10 ((.bool false) :: (i6 x13) :: (u149 76) :: (.bool false) :: (.bool false) :: (i6 x86) :: (.bool false) :: (.bool false) :: dd u149 82 12 ((.bool false) :: dd u193 95 14 ((.bool false) :: dd u214 110 5 ((.bool false) :: dd u234 116 14 ((.bool false) :: dd u283 131 10 ((.bool false) :: dd u331 142 10 ((.bool b354) :: (i6 x13) :: (.bool false) :: dd u353 155 10 (un 143 ([])))))))))))).toArray, []⟩) a ∧ b354 = c355 ∧ St [] w0 w [poolE ([]) w0]) ?_ ?_
 refine gx_region (gx_kA (i6 x86) w329 ?_)
 rcases if_in hE356 with ⟨h358, hE356⟩ | ⟨h358, hE356⟩
 refine gx_vA (.bool true) w329 (rbE (decide_eq_true h358)) (gx_kA (.bool true) w329 (gx_oA (gx_oA (gx_kA (.bool true) w329 (gx_kA (.bool true) w329 (gx_kA (i6 x13) w329 ?_))))))
 rcases if_in hE356 with ⟨h359, hE356⟩ | ⟨h359, hE356⟩
 refine gx_vA (.bool true) w329 (rbE (decide_eq_true h359)) (gx_kA (.bool true) w329 (gx_kA (.bool true) w329 (gx_nil (gx_thenN ?_))))
 exact ⟨true, selfX, (sj hE356), hS330⟩
 refine gx_vA (.bool false) w329 (rbE (decide_eq_false h359)) (gx_kA (.bool false) w329 (gx_kA (.bool false) w329 (gx_nil (gx_thenN ?_))))
 exact ⟨false, selfX, (sj hE356), hS330⟩
 refine gx_vA (.bool false) w329 (rbE (decide_eq_false h358)) (gx_kA (.bool false) w329 (gx_kA (i6 x86) w329 ?_))
 rcases if_in hE356 with ⟨h360, hE356⟩ | ⟨h360, hE356⟩
 refine gx_vA (.bool true) w329 (rbE (decide_eq_true h360)) (gx_kA (.bool true) w329 (gx_kA (.bool true) w329 (gx_kA (i6 x13) w329 ?_)))
 rcases if_in hE356 with ⟨h361, hE356⟩ | ⟨h361, hE356⟩
 refine gx_vA (.bool true) w329 (rbE (decide_eq_true h361)) (gx_kA (.bool true) w329 (gx_kA (.bool true) w329 (gx_nil (gx_thenN ?_))))
 exact ⟨true, selfX, (sj hE356), hS330⟩
 refine gx_vA (.bool false) w329 (rbE (decide_eq_false h361)) (gx_kA (.bool false) w329 (gx_kA (.bool false) w329 (gx_nil (gx_thenN ?_))))
 exact ⟨false, selfX, (sj hE356), hS330⟩
 refine gx_vA (.bool false) w329 (rbE (decide_eq_false h360)) (gx_kA (.bool false) w329 (gx_kA (.bool false) w329 (gx_oA (gx_oA (gx_kA (.bool false) w329 (gx_kA (.bool false) w329 (gx_nil (gx_thenN ?_))))))))
 exact ⟨false, selfX, (sj hE356), hS330⟩
 rintro _ w351 ⟨b354, hq364, rfl, hS352⟩
 obtain ⟨u353, rfl⟩ := selfA_u hq364
 try dsimp only at hO357
 rcases b354 with _ | _
 try dsimp only at hO357
 refine gx_no (by as_aux_lemma => kernel_rfl) (gx_region (gx_kA (i6 x86) w351 ?_))
 rcases if_in hO357 with ⟨h362, hO357⟩ | ⟨h362, hO357⟩
 refine gx_vA (.bool true) w351 (rbE (decide_eq_true h362)) (gx_kA (.bool true) w351 (gx_kA (i6 x13) w351 ?_))
 rcases if_in hO357 with ⟨h363, hO357⟩ | ⟨h363, hO357⟩
 refine gx_vA (.bool true) w351 (rbE (decide_eq_true h363)) (gx_kA (.bool true) w351 (gx_kA (.bool true) w351 (gx_nil (gx_thenN ?_))))
 exact ⟨true, selfX, (sj hO357), hS352⟩
 refine gx_vA (.bool false) w351 (rbE (decide_eq_false h363)) (gx_kA (.bool false) w351 (gx_kA (.bool false) w351 (gx_nil (gx_thenN ?_))))
 exact ⟨false, selfX, (sj hO357), hS352⟩
 refine gx_vA (.bool false) w351 (rbE (decide_eq_false h362)) (gx_kA (.bool false) w351 (gx_oA (gx_oA (gx_kA (.bool false) w351 (gx_kA (.bool false) w351 (gx_nil (gx_thenN ?_)))))))
 exact ⟨false, selfX, (sj hO357), hS352⟩
 try dsimp only at hO357
 refine gx_yes (by as_aux_lemma => kernel_rfl) (gx_pass (gx_thenN ?_))
 exact ⟨true, selfX, (sj hO357), hS352⟩
 rintro _ w341 ⟨b344, hq649, rfl, hS342⟩
 obtain ⟨u343, rfl⟩ := selfA_u hq649
 try dsimp only at hO347
 rcases b344 with _ | _
 try dsimp only at hO347
 refine gx_no (by as_aux_lemma => kernel_rfl) (gx_seq (fun K367 hK368 => gx_region (gx_kA (i6 x7) w341 ?_)))
 rcases if_in hO347 with ⟨h369, hO347⟩ | ⟨h369, hO347⟩
 refine gx_vA (.bool true) w341 (rbE (decide_eq_true h369)) (gx_kA (.bool true) w341 (gx_nil (gx_thenN (hK368 _ _ (gx_yes (by as_aux_lemma => kernel_rfl) (gx_seq (fun K370 hK371 => gx_region ?_)))))))
 refine gx_kA (.int .u8 1) w341 (gx_nil (gx_thenN (hK371 _ _ (gx_ret (gx_blkR (gx_thenR ?_))))))
 obtain rfl := sj hO347
 try dsimp only at hO101
 obtain rfl := sj hO101
 exact gxF (.int .u8 1) ⟨_, rfl, rfl, (hS342.pick [] rfl rfl)⟩
 refine gx_vA (.bool false) w341 (rbE (decide_eq_false h369)) (gx_kA (.bool false) w341 (gx_nil (gx_thenN (hK368 _ _ (gx_no (by as_aux_lemma => kernel_rfl) ?_)))))
 obtain ⟨c376, hE377, hO378⟩ := bind_in hO347
 refine gx_cut (fun a w => ∃ (b375 : Bool), selfA (fun u374 => ⟨((.slice A0 p0.length c0) :: (i6 p1) :: undef :: undef :: (.int .u8 0) :: (i6 x7) :: (i6 x13) :: (i6 x19) :: (i6 x25) :: (i6 x31) :: (i6 x40) :: (i6 x86) :: (i6 x92) :: (u39 13) :: (i6 p1) :: (i6 (iw (p1 - 1))) :: (i6 x7) :: (u39 17) :: (i6 p1) :: (i6 x13) :: (u39 20) :: (i6 p1) :: (i6 (iw (p1 - 2))) :: (i6 x19) :: (u39 24) :: (i6 p1) :: (i6 (iw (p1 + 1))) :: (i6 x25) :: (u39 28) :: (i6 p1) :: (i6 (iw (p1 + 2))) :: (i6 x31) :: (i6 p1) :: (i6 (iw (p1 - 1))) :: dd u39 34 12 ((u109 46) :: (i6 x40) :: (i6 x86) :: (u109 49) :: (i6 x40) :: (i6 (iw (x40 - 1))) :: (i6 x92) :: (.bool false) :: (i6 x7) :: (.bool false) :: (.bool false) :: dd u109 57 6 ((.bool false) :: dd u120 64 10 ((.bool false) :: (i6 x13) :: (u149 76) :: (.bool false) :: (.bool false) :: (i6 x86) :: (.bool false) :: (.bool false) :: dd u149 82 12 ((.bool false) :: dd u193 95 14 ((.bool false) :: dd u214 110 5 ((.bool false) :: dd u234 116 14 ((.bool false) :: dd u283 131 10 ((.bool false) :: dd u331 142 10 ((.bool false) :: dd u343 153 18 ((.bool false) :: (i6 x7) :: (.bool false) :: (.bool b375) :: dd u374 175 21 (un 112 ([]))))))))))))).toArray, []⟩) a ∧ b375 = c376 ∧ St [] w0 w [poolE ([]) w0]) ?_ ?_
 obtain ⟨c383, hE384, hO385⟩ := bind_in hE377
 refine gx_cut (fun a w => ∃ (b382 : Bool), selfA (fun u381 => ⟨((.slice A0 p0.length c0) :: (i6 p1) :: undef :: undef :: (.int .u8 0) :: (i6 x7) :: (i6 x13) :: (i6 x19) :: (i6 x25) :: (i6 x31) :: (i6 x40) :: (i6 x86) :: (i6 x92) :: (u39 13) :: (i6 p1) :: (i6 (iw (p1 - 1))) :: (i6 x7) :: (u39 17) :: (i6 p1) :: (i6 x13) :: (u39 20) :: (i6 p1) :: (i6 (iw (p1 - 2))) :: (i6 x19) :: (u39 24) :: (i6 p1) :: (i6 (iw (p1 + 1))) :: (i6 x25) :: (u39 28) :: (i6 p1) :: (i6 (iw (p1 + 2))) :: (i6 x31) :: (i6 p1) :: (i6 (iw (p1 - 1))) :: dd u39 34 12 ((u109 46) :: (i6 x40) :: (i6 x86) :: (u109 49) :: (i6 x40) :: (i6 (iw (x40 - 1))) :: (i6 x92) :: (.bool false) :: (i6 x7) :: (.bool false) :: (.bool false) :: dd u109 57 6 ((.bool false) :: dd u120 64 10 ((.bool false) :: (i6 x13) :: (u149 76) :: (.bool false) :: (.bool false) :: (i6 x86) :: (.bool false) :: (.bool false) :: dd u149 82 12 ((.bool false) :: dd u193 95 14 ((.bool false) :: dd u214 110 5 ((.bool false) :: dd u234 116 14 ((.bool false) :: dd u283 131 10 ((.bool false) :: dd u331 142 10 ((.bool false) :: dd u343 153 18 ((.bool false) :: (i6 x7) :: (.bool false) :: (.bool b382) :: dd u381 175 10 (un 123 ([]))))))))))))).toArray, []⟩) a ∧ b382 = c383 ∧ St [] w0 w [poolE ([]) w0]) ?_ ?_
 refine gx_region (gx_kA (i6 x13) w341 ?_)
 rcases if_in hE384 with ⟨h386, hE384⟩ | ⟨h386, hE384⟩
 refine gx_vA (.bool true) w341 (rbE (decide_eq_true h386)) (gx_kA (.bool true) w341 (gx_kA (.slice A0 p0.length c0) w341 (gx_kA (i6 p1) w341 ?_)))
 obtain ⟨x387, hx388, hE384⟩ := bind_in hE384
 obtain ⟨g389, o390, e391, hA392, he393, h394, ha395⟩ := elem_at (e := enccalamusref13Unit) (sl_lies (hS342.inn ho0 hv0)) (sl_each hv0) hx388 (by decide)
 obtain ⟨e396, e397, rfl, h398, h399⟩ := h394
 obtain rfl := h398
 obtain ⟨e400, e401, rfl, h402, h403⟩ := h399
 obtain rfl := h402
 obtain ⟨e404, e405, rfl, h406, h407⟩ := h403
 obtain rfl := h406
 obtain ⟨e408, e409, rfl, h410, h411⟩ := h407
 obtain rfl := h410
 obtain rfl := h411
 have ha395 : ∀ w', Lies w' A0 vs0 → w'.rangeAt g389 o390 [i6 x387.1, .int .i32 x387.2.1, i6 x387.2.2.1, .bool x387.2.2.2.1, .bool x387.2.2.2.2] := ha395
 refine gx_vA (.pointer (some ⟨g389, o390, none⟩)) w341 (run_ixaddrN (E := 49) (s := 5) (k := .i64) (c := c0) rfl (by as_aux_lemma => kernel_rfl) (by as_aux_lemma => kernel_rfl) (by as_aux_lemma => kernel_rfl) (fun _ => by kernel_rfl) (ixg_in hx388).1 (ixg_in hx388).2.1 hA392) (gx_vA (.agg #[i6 x387.1, .int .i32 x387.2.1, i6 x387.2.2.1, .bool x387.2.2.2.1, .bool x387.2.2.2.2]) w341 (run_loadNG (d := _) (ec := [i6 x387.1, .int .i32 x387.2.1, i6 x387.2.2.1, .bool x387.2.2.2.1, .bool x387.2.2.2.2]) rfl (by as_aux_lemma => kernel_rfl) (ha395 _ (sl_lies (hS342.inn ho0 hv0))) rfl rfl (by as_aux_lemma => kernel_rfl)) ?_)
 have hP412 : St _ _ w341 ([] ++ [poolE ([]) w0]) := hS342
 obtain ⟨b414, hc413, hE384⟩ := bind_in hE384
 try dsimp only at hE384
 refine gx_cA _ (rOpn_ok N x387.1 x387.2.1 x387.2.2.1 x387.2.2.2.1 x387.2.2.2.2 _ hc413 w341 ) ?_
 rintro _ w415 ⟨rfl, hT417⟩
 have hS416 : St _ _ w415 [poolE ([]) w0] := hS342.take _ hT417
 rcases b414 with _ | _
 try dsimp only at hE384
 refine gx_kA (.bool true) w415 (gx_kA (.bool true) w415 (gx_kA (.bool true) w415 (gx_nil (gx_thenN ?_))))
 exact ⟨true, selfX, (sj hE384), hS416⟩
 try dsimp only at hE384
 refine gx_kA (.bool false) w415 (gx_kA (.bool false) w415 (gx_kA (.bool false) w415 (gx_nil (gx_thenN ?_))))
 exact ⟨false, selfX, (sj hE384), hS416⟩
 refine gx_vA (.bool false) w341 (rbE (decide_eq_false h386)) (gx_kA (.bool false) w341 (gx_oA (gx_oA (gx_oA (gx_oA (gx_oA (gx_oA (gx_kA (.bool false) w341 (gx_kA (.bool false) w341 (gx_nil (gx_thenN ?_)))))))))))
 exact ⟨false, selfX, (sj hE384), hS342⟩
 rintro _ w379 ⟨b382, hq450, rfl, hS380⟩
 obtain ⟨u381, rfl⟩ := selfA_u hq450
 try dsimp only at hO385
 rcases b382 with _ | _
 try dsimp only at hO385
 refine gx_no (by as_aux_lemma => kernel_rfl) (gx_region (gx_kA (i6 x7) w379 ?_))
 rcases if_in hO385 with ⟨h418, hO385⟩ | ⟨h418, hO385⟩
 refine gx_vA (.bool true) w379 (rbE (decide_eq_true h418)) (gx_kA (.bool true) w379 (gx_kA (.slice A0 p0.length c0) w379 (gx_kA (i6 p1) w379 (gx_kA (i6 (iw (p1 - 1))) w379 ?_))))
 obtain ⟨x419, hx420, hO385⟩ := bind_in hO385
 obtain ⟨g421, o422, e423, hA424, he425, h426, ha427⟩ := elem_at (e := enccalamusref13Unit) (sl_lies (hS380.inn ho0 hv0)) (sl_each hv0) hx420 (by decide)
 obtain ⟨e428, e429, rfl, h430, h431⟩ := h426
 obtain rfl := h430
 obtain ⟨e432, e433, rfl, h434, h435⟩ := h431
 obtain rfl := h434
 obtain ⟨e436, e437, rfl, h438, h439⟩ := h435
 obtain rfl := h438
 obtain ⟨e440, e441, rfl, h442, h443⟩ := h439
 obtain rfl := h442
 obtain rfl := h443
 have ha427 : ∀ w', Lies w' A0 vs0 → w'.rangeAt g421 o422 [i6 x419.1, .int .i32 x419.2.1, i6 x419.2.2.1, .bool x419.2.2.2.1, .bool x419.2.2.2.2] := ha427
 refine gx_vA (.pointer (some ⟨g421, o422, none⟩)) w379 (run_ixaddrN (E := 49) (s := 5) (k := .i64) (c := c0) rfl (by as_aux_lemma => kernel_rfl) (by as_aux_lemma => kernel_rfl) (by as_aux_lemma => kernel_rfl) (fun _ => by kernel_rfl) (ixg_in hx420).1 (ixg_in hx420).2.1 hA424) (gx_vA (.agg #[i6 x419.1, .int .i32 x419.2.1, i6 x419.2.2.1, .bool x419.2.2.2.1, .bool x419.2.2.2.2]) w379 (run_loadNG (d := _) (ec := [i6 x419.1, .int .i32 x419.2.1, i6 x419.2.2.1, .bool x419.2.2.2.1, .bool x419.2.2.2.2]) rfl (by as_aux_lemma => kernel_rfl) (ha427 _ (sl_lies (hS380.inn ho0 hv0))) rfl rfl (by as_aux_lemma => kernel_rfl)) ?_)
 have hP444 : St _ _ w379 ([] ++ [poolE ([]) w0]) := hS380
 obtain ⟨b446, hc445, hO385⟩ := bind_in hO385
 try dsimp only at hO385
 refine gx_cA _ (rCls_ok N x419.1 x419.2.1 x419.2.2.1 x419.2.2.2.1 x419.2.2.2.2 _ hc445 w379 ) ?_
 rintro _ w447 ⟨rfl, hT449⟩
 have hS448 : St _ _ w447 [poolE ([]) w0] := hS380.take _ hT449
 rcases b446 with _ | _
 try dsimp only at hO385
 refine gx_kA (.bool true) w447 (gx_kA (.bool true) w447 (gx_kA (.bool true) w447 (gx_nil (gx_thenN ?_))))
 exact ⟨true, selfX, (sj hO385), hS448⟩
 try dsimp only at hO385
 refine gx_kA (.bool false) w447 (gx_kA (.bool false) w447 (gx_kA (.bool false) w447 (gx_nil (gx_thenN ?_))))
 exact ⟨false, selfX, (sj hO385), hS448⟩
 refine gx_vA (.bool false) w379 (rbE (decide_eq_false h418)) (gx_kA (.bool false) w379 (gx_oA (gx_oA (gx_oA (gx_oA (gx_oA (gx_oA (gx_oA (gx_kA (.bool false) w379 (gx_kA (.bool false) w379 (gx_nil (gx_thenN ?_))))))))))))
 exact ⟨false, selfX, (sj hO385), hS380⟩
 try dsimp only at hO385
 refine gx_yes (by as_aux_lemma => kernel_rfl) (gx_pass (gx_thenN ?_))
 exact ⟨true, selfX, (sj hO385), hS380⟩
 rintro _ w372 ⟨b375, hq648, rfl, hS373⟩
 obtain ⟨u374, rfl⟩ := selfA_u hq648
 try dsimp only at hO378
 rcases b375 with _ | _
 try dsimp only at hO378
 refine gx_no (by as_aux_lemma => kernel_rfl) ?_
 obtain ⟨c457, hE458, hO459⟩ := bind_in hO378
 refine gx_cut (fun a w => ∃ (b456 : Bool), selfA (fun u455 => ⟨((.slice A0 p0.length c0) :: (i6 p1) :: undef :: undef :: (.int .u8 0) :: (i6 x7) :: (i6 x13) :: (i6 x19) :: (i6 x25) :: (i6 x31) :: (i6 x40) :: (i6 x86) :: (i6 x92) :: (u39 13) :: (i6 p1) :: (i6 (iw (p1 - 1))) :: (i6 x7) :: (u39 17) :: (i6 p1) :: (i6 x13) :: (u39 20) :: (i6 p1) :: (i6 (iw (p1 - 2))) :: (i6 x19) :: (u39 24) :: (i6 p1) :: (i6 (iw (p1 + 1))) :: (i6 x25) :: (u39 28) :: (i6 p1) :: (i6 (iw (p1 + 2))) :: (i6 x31) :: (i6 p1) :: (i6 (iw (p1 - 1))) :: dd u39 34 12 ((u109 46) :: (i6 x40) :: (i6 x86) :: (u109 49) :: (i6 x40) :: (i6 (iw (x40 - 1))) :: (i6 x92) :: (.bool false) :: (i6 x7) :: (.bool false) :: (.bool false) :: dd u109 57 6 ((.bool false) :: dd u120 64 10 ((.bool false) :: (i6 x13) :: (u149 76) :: (.bool false) :: (.bool false) :: (i6 x86) :: (.bool false) :: (.bool false) :: dd u149 82 12 ((.bool false) :: dd u193 95 14 ((.bool false) :: dd u214 110 5 ((.bool false) :: dd u234 116 14 ((.bool false) :: dd u283 131 10 ((.bool false) :: dd u331 142 10 ((.bool false) :: dd u343 153 18 ((.bool false) :: (i6 x7) :: (.bool false) :: (.bool false) :: dd u374 175 21 ((.bool b456) :: dd u455 197 27 (un 84 ([])))))))))))))).toArray, []⟩) a ∧ b456 = c457 ∧ St [] w0 w [poolE ([]) w0]) ?_ ?_
 obtain ⟨c464, hE465, hO466⟩ := bind_in hE458
 refine gx_cut (fun a w => ∃ (b463 : Bool), selfA (fun u462 => ⟨((.slice A0 p0.length c0) :: (i6 p1) :: undef :: undef :: (.int .u8 0) :: (i6 x7) :: (i6 x13) :: (i6 x19) :: (i6 x25) :: (i6 x31) :: (i6 x40) :: (i6 x86) :: (i6 x92) :: (u39 13) :: (i6 p1) :: (i6 (iw (p1 - 1))) :: (i6 x7) :: (u39 17) :: (i6 p1) :: (i6 x13) :: (u39 20) :: (i6 p1) :: (i6 (iw (p1 - 2))) :: (i6 x19) :: (u39 24) :: (i6 p1) :: (i6 (iw (p1 + 1))) :: (i6 x25) :: (u39 28) :: (i6 p1) :: (i6 (iw (p1 + 2))) :: (i6 x31) :: (i6 p1) :: (i6 (iw (p1 - 1))) :: dd u39 34 12 ((u109 46) :: (i6 x40) :: (i6 x86) :: (u109 49) :: (i6 x40) :: (i6 (iw (x40 - 1))) :: (i6 x92) :: (.bool false) :: (i6 x7) :: (.bool false) :: (.bool false) :: dd u109 57 6 ((.bool false) :: dd u120 64 10 ((.bool false) :: (i6 x13) :: (u149 76) :: (.bool false) :: (.bool false) :: (i6 x86) :: (.bool false) :: (.bool false) :: dd u149 82 12 ((.bool false) :: dd u193 95 14 ((.bool false) :: dd u214 110 5 ((.bool false) :: dd u234 116 14 ((.bool false) :: dd u283 131 10 ((.bool false) :: dd u331 142 10 ((.bool false) :: dd u343 153 18 ((.bool false) :: (i6 x7) :: (.bool false) :: (.bool false) :: dd u374 175 21 ((.bool b463) :: dd u462 197 14 (un 97 ([])))))))))))))).toArray, []⟩) a ∧ b463 = c464 ∧ St [] w0 w [poolE ([]) w0]) ?_ ?_
 refine gx_region (gx_kA (i6 x13) w372 ?_)
 rcases if_in hE465 with ⟨h467, hE465⟩ | ⟨h467, hE465⟩
 refine gx_vA (.bool true) w372 (rbE (decide_eq_true h467)) (gx_kA (.bool true) w372 (gx_kA (.slice A0 p0.length c0) w372 (gx_kA (i6 p1) w372 (gx_kA (i6 (iw (p1 - 1))) w372 ?_))))
 have hP468 : St _ _ w372 ([] ++ [poolE ([]) w0]) := hS373
 obtain ⟨b470, hc469, hE465⟩ := bind_in hE465
 try dsimp only at hE465
 refine gx_cA _ (rNar_ok N p0 (iw (p1 - 1)) A0 c0 vs0 ft0 _ hc469 w372 (hS373.inn ho0 hv0) (hP468.offIA ho0)) ?_
 rintro _ w471 ⟨rfl, hT473⟩
 have hS472 : St _ _ w471 [poolE ([]) w0] := hS373.take _ hT473
 refine gx_kA (.bool b470) w471 ?_
 rcases b470 with _ | _
 try dsimp only at hE465
 refine gx_kA (.slice A0 p0.length c0) w471 (gx_kA (i6 p1) w471 (gx_kA (i6 (iw (p1 + 1))) w471 ?_))
 have hP474 : St _ _ w471 ([] ++ [poolE ([]) w0]) := hS472
 obtain ⟨b476, hc475, hE465⟩ := bind_in hE465
 try dsimp only at hE465
 refine gx_cA _ (rNar_ok N p0 (iw (p1 + 1)) A0 c0 vs0 ft0 _ hc475 w471 (hS472.inn ho0 hv0) (hP474.offIA ho0)) ?_
 rintro _ w477 ⟨rfl, hT479⟩
 have hS478 : St _ _ w477 [poolE ([]) w0] := hS472.take _ hT479
 refine gx_kA (.bool b476) w477 (gx_kA (.bool b476) w477 (gx_kA (.bool b476) w477 (gx_nil (gx_thenN ?_))))
 exact ⟨b476, selfX, (sj hE465), hS478⟩
 try dsimp only at hE465
 refine gx_oA (gx_oA (gx_oA (gx_oA (gx_kA (.bool true) w471 (gx_kA (.bool true) w471 (gx_kA (.bool true) w471 (gx_nil (gx_thenN ?_))))))))
 exact ⟨true, selfX, (sj hE465), hS472⟩
 refine gx_vA (.bool false) w372 (rbE (decide_eq_false h467)) (gx_kA (.bool false) w372 (gx_oA (gx_oA (gx_oA (gx_oA (gx_oA (gx_oA (gx_oA (gx_oA (gx_oA (gx_oA (gx_kA (.bool false) w372 (gx_kA (.bool false) w372 (gx_nil (gx_thenN ?_)))))))))))))))
 exact ⟨false, selfX, (sj hE465), hS373⟩
 rintro _ w460 ⟨b463, hq493, rfl, hS461⟩
 obtain ⟨u462, rfl⟩ := selfA_u hq493
 try dsimp only at hO466
 rcases b463 with _ | _
 try dsimp only at hO466
 refine gx_no (by as_aux_lemma => kernel_rfl) (gx_region (gx_kA (i6 x7) w460 ?_))
 rcases if_in hO466 with ⟨h480, hO466⟩ | ⟨h480, hO466⟩
 refine gx_vA (.bool true) w460 (rbE (decide_eq_true h480)) (gx_kA (.bool true) w460 (gx_kA (.slice A0 p0.length c0) w460 (gx_kA (i6 p1) w460 ?_)))
 have hP481 : St _ _ w460 ([] ++ [poolE ([]) w0]) := hS461
 obtain ⟨b483, hc482, hO466⟩ := bind_in hO466
 try dsimp only at hO466
 refine gx_cA _ (rNar_ok N p0 p1 A0 c0 vs0 ft0 _ hc482 w460 (hS461.inn ho0 hv0) (hP481.offIA ho0)) ?_
 rintro _ w484 ⟨rfl, hT486⟩
 have hS485 : St _ _ w484 [poolE ([]) w0] := hS461.take _ hT486
 refine gx_kA (.bool b483) w484 ?_
 rcases b483 with _ | _
 try dsimp only at hO466
 refine gx_kA (.slice A0 p0.length c0) w484 (gx_kA (i6 p1) w484 (gx_kA (i6 (iw (p1 - 2))) w484 ?_))
 have hP487 : St _ _ w484 ([] ++ [poolE ([]) w0]) := hS485
 obtain ⟨b489, hc488, hO466⟩ := bind_in hO466
 try dsimp only at hO466
 refine gx_cA _ (rNar_ok N p0 (iw (p1 - 2)) A0 c0 vs0 ft0 _ hc488 w484 (hS485.inn ho0 hv0) (hP487.offIA ho0)) ?_
 rintro _ w490 ⟨rfl, hT492⟩
 have hS491 : St _ _ w490 [poolE ([]) w0] := hS485.take _ hT492
 refine gx_kA (.bool b489) w490 (gx_kA (.bool b489) w490 (gx_kA (.bool b489) w490 (gx_nil (gx_thenN ?_))))
 exact ⟨b489, selfX, (sj hO466), hS491⟩
 try dsimp only at hO466
 refine gx_oA (gx_oA (gx_oA (gx_oA (gx_kA (.bool true) w484 (gx_kA (.bool true) w484 (gx_kA (.bool true) w484 (gx_nil (gx_thenN ?_))))))))
 exact ⟨true, selfX, (sj hO466), hS485⟩
 refine gx_vA (.bool false) w460 (rbE (decide_eq_false h480)) (gx_kA (.bool false) w460 (gx_oA (gx_oA (gx_oA (gx_oA (gx_oA (gx_oA (gx_oA (gx_oA (gx_oA (gx_kA (.bool false) w460 (gx_kA (.bool false) w460 (gx_nil (gx_thenN ?_))))))))))))))
 exact ⟨false, selfX, (sj hO466), hS461⟩
 try dsimp only at hO466
 refine gx_yes (by as_aux_lemma => kernel_rfl) (gx_pass (gx_thenN ?_))
 exact ⟨true, selfX, (sj hO466), hS461⟩
 rintro _ w453 ⟨b456, hq647, rfl, hS454⟩
 obtain ⟨u455, rfl⟩ := selfA_u hq647
 try dsimp only at hO459
 rcases b456 with _ | _
 try dsimp only at hO459
 refine gx_no (by as_aux_lemma => kernel_rfl) ?_
 obtain ⟨c500, hE501, hO502⟩ := bind_in hO459
 refine gx_cut (fun a w => ∃ (b499 : Bool), selfA (fun u498 => ⟨((.slice A0 p0.length c0) :: (i6 p1) :: undef :: undef :: (.int .u8 0) :: (i6 x7) :: (i6 x13) :: (i6 x19) :: (i6 x25) :: (i6 x31) :: (i6 x40) :: (i6 x86) :: (i6 x92) :: (u39 13) :: (i6 p1) :: (i6 (iw (p1 - 1))) :: (i6 x7) :: (u39 17) :: (i6 p1) :: (i6 x13) :: (u39 20) :: (i6 p1) :: (i6 (iw (p1 - 2))) :: (i6 x19) :: (u39 24) :: (i6 p1) :: (i6 (iw (p1 + 1))) :: (i6 x25) :: (u39 28) :: (i6 p1) :: (i6 (iw (p1 + 2))) :: (i6 x31) :: (i6 p1) :: (i6 (iw (p1 - 1))) :: dd u39 34 12 ((u109 46) :: (i6 x40) :: (i6 x86) :: (u109 49) :: (i6 x40) :: (i6 (iw (x40 - 1))) :: (i6 x92) :: (.bool false) :: (i6 x7) :: (.bool false) :: (.bool false) :: dd u109 57 6 ((.bool false) :: dd u120 64 10 ((.bool false) :: (i6 x13) :: (u149 76) :: (.bool false) :: (.bool false) :: (i6 x86) :: (.bool false) :: (.bool false) :: dd u149 82 12 ((.bool false) :: dd u193 95 14 ((.bool false) :: dd u214 110 5 ((.bool false) :: dd u234 116 14 ((.bool false) :: dd u283 131 10 ((.bool false) :: dd u331 142 10 ((.bool false) :: dd u343 153 18 ((.bool false) :: (i6 x7) :: (.bool false) :: (.bool false) :: dd u374 175 21 ((.bool false) :: dd u455 197 27 ((.bool b499) :: dd u498 225 6 (un 77 ([]))))))))))))))).toArray, []⟩) a ∧ b499 = c500 ∧ St [] w0 w [poolE ([]) w0]) ?_ ?_
 refine gx_region (gx_kA (i6 x7) w453 ?_)
 rcases if_in hE501 with ⟨h503, hE501⟩ | ⟨h503, hE501⟩
 refine gx_vA (.bool true) w453 (rbE (decide_eq_true h503)) (gx_kA (.bool true) w453 (gx_oA (gx_oA (gx_kA (.bool true) w453 (gx_kA (.bool true) w453 (gx_nil (gx_thenN ?_)))))))
 exact ⟨true, selfX, (sj hE501), hS454⟩
 refine gx_vA (.bool false) w453 (rbE (decide_eq_false h503)) (gx_kA (.bool false) w453 (gx_kA (i6 x13) w453 ?_))
 rcases if_in hE501 with ⟨h504, hE501⟩ | ⟨h504, hE501⟩
 refine gx_vA (.bool true) w453 (rbE (decide_eq_true h504)) (gx_kA (.bool true) w453 (gx_kA (.bool true) w453 (gx_nil (gx_thenN ?_))))
 exact ⟨true, selfX, (sj hE501), hS454⟩
 refine gx_vA (.bool false) w453 (rbE (decide_eq_false h504)) (gx_kA (.bool false) w453 (gx_kA (.bool false) w453 (gx_nil (gx_thenN ?_))))
 exact ⟨false, selfX, (sj hE501), hS454⟩
 rintro _ w496 ⟨b499, hq646, rfl, hS497⟩
 obtain ⟨u498, rfl⟩ := selfA_u hq646
 try dsimp only at hO502
 rcases b499 with _ | _
 try dsimp only at hO502
 refine gx_no (by as_aux_lemma => kernel_rfl) ?_
 obtain ⟨c511, hE512, hO513⟩ := bind_in hO502
 refine gx_cut (fun a w => ∃ (b510 : Bool), selfA (fun u509 => ⟨((.slice A0 p0.length c0) :: (i6 p1) :: undef :: undef :: (.int .u8 0) :: (i6 x7) :: (i6 x13) :: (i6 x19) :: (i6 x25) :: (i6 x31) :: (i6 x40) :: (i6 x86) :: (i6 x92) :: (u39 13) :: (i6 p1) :: (i6 (iw (p1 - 1))) :: (i6 x7) :: (u39 17) :: (i6 p1) :: (i6 x13) :: (u39 20) :: (i6 p1) :: (i6 (iw (p1 - 2))) :: (i6 x19) :: (u39 24) :: (i6 p1) :: (i6 (iw (p1 + 1))) :: (i6 x25) :: (u39 28) :: (i6 p1) :: (i6 (iw (p1 + 2))) :: (i6 x31) :: (i6 p1) :: (i6 (iw (p1 - 1))) :: dd u39 34 12 ((u109 46) :: (i6 x40) :: (i6 x86) :: (u109 49) :: (i6 x40) :: (i6 (iw (x40 - 1))) :: (i6 x92) :: (.bool false) :: (i6 x7) :: (.bool false) :: (.bool false) :: dd u109 57 6 ((.bool false) :: dd u120 64 10 ((.bool false) :: (i6 x13) :: (u149 76) :: (.bool false) :: (.bool false) :: (i6 x86) :: (.bool false) :: (.bool false) :: dd u149 82 12 ((.bool false) :: dd u193 95 14 ((.bool false) :: dd u214 110 5 ((.bool false) :: dd u234 116 14 ((.bool false) :: dd u283 131 10 ((.bool false) :: dd u331 142 10 ((.bool false) :: dd u343 153 18 ((.bool false) :: (i6 x7) :: (.bool false) :: (.bool false) :: dd u374 175 21 ((.bool false) :: dd u455 197 27 ((.bool false) :: dd u498 225 6 ((.bool b510) :: dd u509 232 20 (un 56 ([])))))))))))))))).toArray, []⟩) a ∧ b510 = c511 ∧ St [] w0 w [poolE ([]) w0]) ?_ ?_
 refine gx_region (gx_kA (i6 x7) w496 ?_)
 obtain ⟨c518, hE519, hO520⟩ := bind_in hE512
 refine gx_part (l1 := [_, _, _, _, _, _, _, _, _, _]) (fun a w => ∃ (b517 : Bool), selfA (fun u516 => ⟨((.slice A0 p0.length c0) :: (i6 p1) :: undef :: undef :: (.int .u8 0) :: (i6 x7) :: (i6 x13) :: (i6 x19) :: (i6 x25) :: (i6 x31) :: (i6 x40) :: (i6 x86) :: (i6 x92) :: (u39 13) :: (i6 p1) :: (i6 (iw (p1 - 1))) :: (i6 x7) :: (u39 17) :: (i6 p1) :: (i6 x13) :: (u39 20) :: (i6 p1) :: (i6 (iw (p1 - 2))) :: (i6 x19) :: (u39 24) :: (i6 p1) :: (i6 (iw (p1 + 1))) :: (i6 x25) :: (u39 28) :: (i6 p1) :: (i6 (iw (p1 + 2))) :: (i6 x31) :: (i6 p1) :: (i6 (iw (p1 - 1))) :: dd u39 34 12 ((u109 46) :: (i6 x40) :: (i6 x86) :: (u109 49) :: (i6 x40) :: (i6 (iw (x40 - 1))) :: (i6 x92) :: (.bool false) :: (i6 x7) :: (.bool false) :: (.bool false) :: dd u109 57 6 ((.bool false) :: dd u120 64 10 ((.bool false) :: (i6 x13) :: (u149 76) :: (.bool false) :: (.bool false) :: (i6 x86) :: (.bool false) :: (.bool false) :: dd u149 82 12 ((.bool false) :: dd u193 95 14 ((.bool false) :: dd u214 110 5 ((.bool false) :: dd u234 116 14 ((.bool false) :: dd u283 131 10 ((.bool false) :: dd u331 142 10 ((.bool false) :: dd u343 153 18 ((.bool false) :: (i6 x7) :: (.bool false) :: (.bool false) :: dd u374 175 21 ((.bool false) :: dd u455 197 27 ((.bool false) :: dd u498 225 6 (undef :: (i6 x7) :: dd u516 233 9 ((.bool b517) :: un 65 ([])))))))))))))))).toArray, []⟩) a ∧ b517 = c518 ∧ St [] w0 w [poolE ([]) w0]) rfl ?_ ?_
 rcases if_in hE519 with ⟨h522, hE519⟩ | ⟨h522, hE519⟩
 refine gx_vA (.bool true) w496 (rbE (decide_eq_true h522)) (gx_kA (.bool true) w496 (gx_oA (gx_oA (gx_oA (gx_oA (gx_oA (gx_oA (gx_oA (gx_kA (.bool true) w496 (gx_nil (gx_thenN ?_)))))))))))
 exact ⟨true, selfX, (sj hE519), hS497⟩
 refine gx_vA (.bool false) w496 (rbE (decide_eq_false h522)) (gx_kA (.bool false) w496 (gx_kA (.slice A0 p0.length c0) w496 (gx_kA (i6 p1) w496 (gx_kA (i6 (iw (p1 - 1))) w496 ?_))))
 obtain ⟨x523, hx524, hE519⟩ := bind_in hE519
 obtain ⟨g525, o526, e527, hA528, he529, h530, ha531⟩ := elem_at (e := enccalamusref13Unit) (sl_lies (hS497.inn ho0 hv0)) (sl_each hv0) hx524 (by decide)
 obtain ⟨e532, e533, rfl, h534, h535⟩ := h530
 obtain rfl := h534
 obtain ⟨e536, e537, rfl, h538, h539⟩ := h535
 obtain rfl := h538
 obtain ⟨e540, e541, rfl, h542, h543⟩ := h539
 obtain rfl := h542
 obtain ⟨e544, e545, rfl, h546, h547⟩ := h543
 obtain rfl := h546
 obtain rfl := h547
 have ha531 : ∀ w', Lies w' A0 vs0 → w'.rangeAt g525 o526 [i6 x523.1, .int .i32 x523.2.1, i6 x523.2.2.1, .bool x523.2.2.2.1, .bool x523.2.2.2.2] := ha531
 refine gx_vA (.pointer (some ⟨g525, o526, none⟩)) w496 (run_ixaddrN (E := 49) (s := 5) (k := .i64) (c := c0) rfl (by as_aux_lemma => kernel_rfl) (by as_aux_lemma => kernel_rfl) (by as_aux_lemma => kernel_rfl) (fun _ => by kernel_rfl) (ixg_in hx524).1 (ixg_in hx524).2.1 hA528) (gx_kA (.pointer (some ⟨g525, o526 + 1, none⟩)) w496 (gx_vA (.int .i32 x523.2.1) w496 (run_loadN1 1 rfl (by as_aux_lemma => kernel_rfl) (fun _ => by kernel_rfl) (ha531 _ (sl_lies (hS497.inn ho0 hv0))) rfl) ?_))
 rcases if_in hE519 with ⟨h548, hE519⟩ | ⟨h548, hE519⟩
 refine gx_vA (.bool true) w496 (rbE (decide_eq_true h548)) (gx_kA (.bool true) w496 (gx_nil (gx_thenN ?_)))
 exact ⟨true, selfX, (sj hE519), hS497⟩
 refine gx_vA (.bool false) w496 (rbE (decide_eq_false h548)) (gx_kA (.bool false) w496 (gx_nil (gx_thenN ?_)))
 exact ⟨false, selfX, (sj hE519), hS497⟩
 rintro _ w514 ⟨b517, hq521, rfl, hS515⟩
 obtain ⟨u516, rfl⟩ := selfA_u hq521
 try dsimp only at hO520
 refine gx_kA (.bool b517) w514 ?_
 rcases b517 with _ | _
 try dsimp only at hO520
 refine gx_oA (gx_oA (gx_kA (.bool false) w514 (gx_kA (.bool false) w514 (gx_oA (gx_oA (gx_oA (gx_kA (.bool false) w514 (gx_kA (.bool false) w514 (gx_nil (gx_thenN ?_))))))))))
 exact ⟨false, selfX, (sj hO520), hS515⟩
 try dsimp only at hO520
 refine gx_kA (i6 x13) w514 ?_
 rcases if_in hO520 with ⟨h549, hO520⟩ | ⟨h549, hO520⟩
 refine gx_vA (.bool true) w514 (rbE (decide_eq_true h549)) (gx_kA (.bool true) w514 (gx_kA (.bool true) w514 (gx_kA (i6 x19) w514 (gx_rA (st_made .i64 3 [99, 1, 2, 3, 4, 5, 6, 15, 8] hS515 (by show 9 ≤ 1000000000; decide) (by as_aux_lemma => kernel_rfl)) ?_))))
 rintro _ w550 ⟨rfl, hS551⟩
 have hS551 : St _ _ w550 [poolE ([]) w0, rowE .i64 3 (some ⟨w514.heap.size, 0, none⟩) 9 ([99, 1, 2, 3, 4, 5, 6, 15, 8])] := hS551
 have hP552 : St _ _ w550 ([] ++ [poolE ([]) w0, rowE .i64 3 (some ⟨w514.heap.size, 0, none⟩) 9 ([99, 1, 2, 3, 4, 5, 6, 15, 8])]) := hS551
 obtain ⟨b554, hc553, hO520⟩ := bind_in hO520
 try dsimp only at hO520
 refine gx_cA _ (rIn_ok N x19 ([99, 1, 2, 3, 4, 5, 6, 15, 8]) (some ⟨w514.heap.size, 0, none⟩) 9 _ hc553 w550 (hP552.vwB 1 rfl)) ?_
 rintro _ w555 ⟨rfl, hT557⟩
 have hS556 : St _ _ w555 [poolE ([]) w0, rowE .i64 3 (some ⟨w514.heap.size, 0, none⟩) 9 ([99, 1, 2, 3, 4, 5, 6, 15, 8])] := hS551.take _ hT557
 refine gx_kA (.bool b554) w555 (gx_kA (.bool b554) w555 (gx_nil (gx_thenN ?_)))
 exact ⟨b554, selfX, (sj hO520), (hS556.pick [0] rfl rfl)⟩
 refine gx_vA (.bool false) w514 (rbE (decide_eq_false h549)) (gx_kA (.bool false) w514 (gx_kA (.bool false) w514 (gx_oA (gx_oA (gx_oA (gx_kA (.bool false) w514 (gx_kA (.bool false) w514 (gx_nil (gx_thenN ?_)))))))))
 exact ⟨false, selfX, (sj hO520), hS515⟩
 rintro _ w507 ⟨b510, hq645, rfl, hS508⟩
 obtain ⟨u509, rfl⟩ := selfA_u hq645
 try dsimp only at hO513
 rcases b510 with _ | _
 try dsimp only at hO513
 refine gx_no (by as_aux_lemma => kernel_rfl) ?_
 obtain ⟨c564, hE565, hO566⟩ := bind_in hO513
 refine gx_cut (fun a w => ∃ (b563 : Bool), selfA (fun u562 => ⟨((.slice A0 p0.length c0) :: (i6 p1) :: undef :: undef :: (.int .u8 0) :: (i6 x7) :: (i6 x13) :: (i6 x19) :: (i6 x25) :: (i6 x31) :: (i6 x40) :: (i6 x86) :: (i6 x92) :: (u39 13) :: (i6 p1) :: (i6 (iw (p1 - 1))) :: (i6 x7) :: (u39 17) :: (i6 p1) :: (i6 x13) :: (u39 20) :: (i6 p1) :: (i6 (iw (p1 - 2))) :: (i6 x19) :: (u39 24) :: (i6 p1) :: (i6 (iw (p1 + 1))) :: (i6 x25) :: (u39 28) :: (i6 p1) :: (i6 (iw (p1 + 2))) :: (i6 x31) :: (i6 p1) :: (i6 (iw (p1 - 1))) :: dd u39 34 12 ((u109 46) :: (i6 x40) :: (i6 x86) :: (u109 49) :: (i6 x40) :: (i6 (iw (x40 - 1))) :: (i6 x92) :: (.bool false) :: (i6 x7) :: (.bool false) :: (.bool false) :: dd u109 57 6 ((.bool false) :: dd u120 64 10 ((.bool false) :: (i6 x13) :: (u149 76) :: (.bool false) :: (.bool false) :: (i6 x86) :: (.bool false) :: (.bool false) :: dd u149 82 12 ((.bool false) :: dd u193 95 14 ((.bool false) :: dd u214 110 5 ((.bool false) :: dd u234 116 14 ((.bool false) :: dd u283 131 10 ((.bool false) :: dd u331 142 10 ((.bool false) :: dd u343 153 18 ((.bool false) :: (i6 x7) :: (.bool false) :: (.bool false) :: dd u374 175 21 ((.bool false) :: dd u455 197 27 ((.bool false) :: dd u498 225 6 ((.bool false) :: dd u509 232 20 ((.bool b563) :: dd u562 253 14 (un 41 ([]))))))))))))))))).toArray, []⟩) a ∧ b563 = c564 ∧ St [] w0 w [poolE ([]) w0]) ?_ ?_
 refine gx_region (gx_kA (i6 x13) w507 ?_)
 obtain ⟨c571, hE572, hO573⟩ := bind_in hE565
 refine gx_part (l1 := [_, _, _, _, _]) (fun a w => ∃ (b570 : Bool), selfA (fun u569 => ⟨((.slice A0 p0.length c0) :: (i6 p1) :: undef :: undef :: (.int .u8 0) :: (i6 x7) :: (i6 x13) :: (i6 x19) :: (i6 x25) :: (i6 x31) :: (i6 x40) :: (i6 x86) :: (i6 x92) :: (u39 13) :: (i6 p1) :: (i6 (iw (p1 - 1))) :: (i6 x7) :: (u39 17) :: (i6 p1) :: (i6 x13) :: (u39 20) :: (i6 p1) :: (i6 (iw (p1 - 2))) :: (i6 x19) :: (u39 24) :: (i6 p1) :: (i6 (iw (p1 + 1))) :: (i6 x25) :: (u39 28) :: (i6 p1) :: (i6 (iw (p1 + 2))) :: (i6 x31) :: (i6 p1) :: (i6 (iw (p1 - 1))) :: dd u39 34 12 ((u109 46) :: (i6 x40) :: (i6 x86) :: (u109 49) :: (i6 x40) :: (i6 (iw (x40 - 1))) :: (i6 x92) :: (.bool false) :: (i6 x7) :: (.bool false) :: (.bool false) :: dd u109 57 6 ((.bool false) :: dd u120 64 10 ((.bool false) :: (i6 x13) :: (u149 76) :: (.bool false) :: (.bool false) :: (i6 x86) :: (.bool false) :: (.bool false) :: dd u149 82 12 ((.bool false) :: dd u193 95 14 ((.bool false) :: dd u214 110 5 ((.bool false) :: dd u234 116 14 ((.bool false) :: dd u283 131 10 ((.bool false) :: dd u331 142 10 ((.bool false) :: dd u343 153 18 ((.bool false) :: (i6 x7) :: (.bool false) :: (.bool false) :: dd u374 175 21 ((.bool false) :: dd u455 197 27 ((.bool false) :: dd u498 225 6 ((.bool false) :: dd u509 232 20 (undef :: (i6 x13) :: dd u569 254 4 ((.bool b570) :: un 49 ([]))))))))))))))))).toArray, []⟩) a ∧ b570 = c571 ∧ St [] w0 w [poolE ([]) w0]) rfl ?_ ?_
 rcases if_in hE572 with ⟨h575, hE572⟩ | ⟨h575, hE572⟩
 refine gx_vA (.bool true) w507 (rbE (decide_eq_true h575)) (gx_kA (.bool true) w507 (gx_oA (gx_oA (gx_kA (.bool true) w507 (gx_nil (gx_thenN ?_))))))
 exact ⟨true, selfX, (sj hE572), hS508⟩
 refine gx_vA (.bool false) w507 (rbE (decide_eq_false h575)) (gx_kA (.bool false) w507 (gx_kA (i6 x13) w507 ?_))
 rcases if_in hE572 with ⟨h576, hE572⟩ | ⟨h576, hE572⟩
 refine gx_vA (.bool true) w507 (rbE (decide_eq_true h576)) (gx_kA (.bool true) w507 (gx_nil (gx_thenN ?_)))
 exact ⟨true, selfX, (sj hE572), hS508⟩
 refine gx_vA (.bool false) w507 (rbE (decide_eq_false h576)) (gx_kA (.bool false) w507 (gx_nil (gx_thenN ?_)))
 exact ⟨false, selfX, (sj hE572), hS508⟩
 rintro _ w567 ⟨b570, hq574, rfl, hS568⟩
 obtain ⟨u569, rfl⟩ := selfA_u hq574
 try dsimp only at hO573
 refine gx_kA (.bool b570) w567 ?_
 rcases b570 with _ | _
 try dsimp only at hO573
 refine gx_kA (i6 x13) w567 ?_
 rcases if_in hO573 with ⟨h577, hO573⟩ | ⟨h577, hO573⟩
 refine gx_vA (.bool true) w567 (rbE (decide_eq_true h577)) (gx_kA (.bool true) w567 (gx_kA (.bool true) w567 (gx_oA (gx_oA (gx_kA (.bool true) w567 (gx_kA (.bool true) w567 (gx_nil (gx_thenN ?_))))))))
 exact ⟨true, selfX, (sj hO573), hS568⟩
 refine gx_vA (.bool false) w567 (rbE (decide_eq_false h577)) (gx_kA (.bool false) w567 (gx_kA (.bool false) w567 (gx_kA (i6 x7) w567 ?_)))
 rcases if_in hO573 with ⟨h578, hO573⟩ | ⟨h578, hO573⟩
 refine gx_vA (.bool true) w567 (rbE (decide_eq_true h578)) (gx_kA (.bool true) w567 (gx_kA (.bool true) w567 (gx_nil (gx_thenN ?_))))
 exact ⟨true, selfX, (sj hO573), hS568⟩
 refine gx_vA (.bool false) w567 (rbE (decide_eq_false h578)) (gx_kA (.bool false) w567 (gx_kA (.bool false) w567 (gx_nil (gx_thenN ?_))))
 exact ⟨false, selfX, (sj hO573), hS568⟩
 try dsimp only at hO573
 refine gx_oA (gx_oA (gx_kA (.bool true) w567 (gx_kA (.bool true) w567 (gx_oA (gx_oA (gx_kA (.bool true) w567 (gx_kA (.bool true) w567 (gx_nil (gx_thenN ?_)))))))))
 exact ⟨true, selfX, (sj hO573), hS568⟩
 rintro _ w560 ⟨b563, hq644, rfl, hS561⟩
 obtain ⟨u562, rfl⟩ := selfA_u hq644
 try dsimp only at hO566
 rcases b563 with _ | _
 try dsimp only at hO566
 refine gx_no (by as_aux_lemma => kernel_rfl) ?_
 obtain ⟨c585, hE586, hO587⟩ := bind_in hO566
 refine gx_cut (fun a w => ∃ (b584 : Bool), selfA (fun u583 => ⟨((.slice A0 p0.length c0) :: (i6 p1) :: undef :: undef :: (.int .u8 0) :: (i6 x7) :: (i6 x13) :: (i6 x19) :: (i6 x25) :: (i6 x31) :: (i6 x40) :: (i6 x86) :: (i6 x92) :: (u39 13) :: (i6 p1) :: (i6 (iw (p1 - 1))) :: (i6 x7) :: (u39 17) :: (i6 p1) :: (i6 x13) :: (u39 20) :: (i6 p1) :: (i6 (iw (p1 - 2))) :: (i6 x19) :: (u39 24) :: (i6 p1) :: (i6 (iw (p1 + 1))) :: (i6 x25) :: (u39 28) :: (i6 p1) :: (i6 (iw (p1 + 2))) :: (i6 x31) :: (i6 p1) :: (i6 (iw (p1 - 1))) :: dd u39 34 12 ((u109 46) :: (i6 x40) :: (i6 x86) :: (u109 49) :: (i6 x40) :: (i6 (iw (x40 - 1))) :: (i6 x92) :: (.bool false) :: (i6 x7) :: (.bool false) :: (.bool false) :: dd u109 57 6 ((.bool false) :: dd u120 64 10 ((.bool false) :: (i6 x13) :: (u149 76) :: (.bool false) :: (.bool false) :: (i6 x86) :: (.bool false) :: (.bool false) :: dd u149 82 12 ((.bool false) :: dd u193 95 14 ((.bool false) :: dd u214 110 5 ((.bool false) :: dd u234 116 14 ((.bool false) :: dd u283 131 10 ((.bool false) :: dd u331 142 10 ((.bool false) :: dd u343 153 18 ((.bool false) :: (i6 x7) :: (.bool false) :: (.bool false) :: dd u374 175 21 ((.bool false) :: dd u455 197 27 ((.bool false) :: dd u498 225 6 ((.bool false) :: dd u509 232 20 ((.bool false) :: dd u562 253 14 ((.bool b584) :: dd u583 268 23 (un 17 ([])))))))))))))))))).toArray, []⟩) a ∧ b584 = c585 ∧ St [] w0 w [poolE ([]) w0]) ?_ ?_
 refine gx_region (gx_kA (i6 x19) w560 ?_)
 rcases if_in hE586 with ⟨h588, hE586⟩ | ⟨h588, hE586⟩
 refine gx_vA (.bool true) w560 (rbE (decide_eq_true h588)) (gx_kA (.bool true) w560 (gx_kA (i6 x7) w560 ?_))
 rcases if_in hE586 with ⟨h589, hE586⟩ | ⟨h589, hE586⟩
 refine gx_vA (.bool true) w560 (rbE (decide_eq_true h589)) (gx_kA (.bool true) w560 (gx_oA (gx_oA (gx_oA (gx_oA (gx_oA (gx_oA (gx_oA (gx_oA (gx_oA (gx_oA (gx_oA (gx_kA (.bool true) w560 (gx_kA (.bool true) w560 (gx_kA (.bool true) w560 (gx_kA (i6 x13) w560 ?_))))))))))))))))
 rcases if_in hE586 with ⟨h590, hE586⟩ | ⟨h590, hE586⟩
 refine gx_vA (.bool true) w560 (rbE (ne_yes h590)) (gx_kA (.bool true) w560 (gx_kA (.bool true) w560 (gx_nil (gx_thenN ?_))))
 exact ⟨true, selfX, (sj hE586), hS561⟩
 refine gx_vA (.bool false) w560 (rbE (ne_no h590)) (gx_kA (.bool false) w560 (gx_kA (.bool false) w560 (gx_nil (gx_thenN ?_))))
 exact ⟨false, selfX, (sj hE586), hS561⟩
 refine gx_vA (.bool false) w560 (rbE (decide_eq_false h589)) (gx_kA (.bool false) w560 (gx_kA (i6 x7) w560 ?_))
 obtain ⟨c595, hE596, hO597⟩ := bind_in hE586
 refine gx_part (l1 := [_, _, _, _, _, _, _, _, _, _]) (fun a w => ∃ (b594 : Bool), selfA (fun u593 => ⟨((.slice A0 p0.length c0) :: (i6 p1) :: undef :: undef :: (.int .u8 0) :: (i6 x7) :: (i6 x13) :: (i6 x19) :: (i6 x25) :: (i6 x31) :: (i6 x40) :: (i6 x86) :: (i6 x92) :: (u39 13) :: (i6 p1) :: (i6 (iw (p1 - 1))) :: (i6 x7) :: (u39 17) :: (i6 p1) :: (i6 x13) :: (u39 20) :: (i6 p1) :: (i6 (iw (p1 - 2))) :: (i6 x19) :: (u39 24) :: (i6 p1) :: (i6 (iw (p1 + 1))) :: (i6 x25) :: (u39 28) :: (i6 p1) :: (i6 (iw (p1 + 2))) :: (i6 x31) :: (i6 p1) :: (i6 (iw (p1 - 1))) :: dd u39 34 12 ((u109 46) :: (i6 x40) :: (i6 x86) :: (u109 49) :: (i6 x40) :: (i6 (iw (x40 - 1))) :: (i6 x92) :: (.bool false) :: (i6 x7) :: (.bool false) :: (.bool false) :: dd u109 57 6 ((.bool false) :: dd u120 64 10 ((.bool false) :: (i6 x13) :: (u149 76) :: (.bool false) :: (.bool false) :: (i6 x86) :: (.bool false) :: (.bool false) :: dd u149 82 12 ((.bool false) :: dd u193 95 14 ((.bool false) :: dd u214 110 5 ((.bool false) :: dd u234 116 14 ((.bool false) :: dd u283 131 10 ((.bool false) :: dd u331 142 10 ((.bool false) :: dd u343 153 18 ((.bool false) :: (i6 x7) :: (.bool false) :: (.bool false) :: dd u374 175 21 ((.bool false) :: dd u455 197 27 ((.bool false) :: dd u498 225 6 ((.bool false) :: dd u509 232 20 ((.bool false) :: dd u562 253 14 (undef :: (i6 x19) :: (.bool true) :: (.bool true) :: (i6 x7) :: (.bool false) :: (.bool false) :: (i6 x7) :: dd u593 275 9 ((.bool b594) :: un 23 ([])))))))))))))))))).toArray, []⟩) a ∧ b594 = c595 ∧ St [] w0 w [poolE ([]) w0]) rfl ?_ ?_
 rcases if_in hE596 with ⟨h599, hE596⟩ | ⟨h599, hE596⟩
 refine gx_vA (.bool true) w560 (rbE (decide_eq_true h599)) (gx_kA (.bool true) w560 (gx_kA (.slice A0 p0.length c0) w560 (gx_kA (i6 p1) w560 (gx_kA (i6 (iw (p1 - 1))) w560 ?_))))
 obtain ⟨x600, hx601, hE596⟩ := bind_in hE596
 obtain ⟨g602, o603, e604, hA605, he606, h607, ha608⟩ := elem_at (e := enccalamusref13Unit) (sl_lies (hS561.inn ho0 hv0)) (sl_each hv0) hx601 (by decide)
 obtain ⟨e609, e610, rfl, h611, h612⟩ := h607
 obtain rfl := h611
 obtain ⟨e613, e614, rfl, h615, h616⟩ := h612
 obtain rfl := h615
 obtain ⟨e617, e618, rfl, h619, h620⟩ := h616
 obtain rfl := h619
 obtain ⟨e621, e622, rfl, h623, h624⟩ := h620
 obtain rfl := h623
 obtain rfl := h624
 have ha608 : ∀ w', Lies w' A0 vs0 → w'.rangeAt g602 o603 [i6 x600.1, .int .i32 x600.2.1, i6 x600.2.2.1, .bool x600.2.2.2.1, .bool x600.2.2.2.2] := ha608
 refine gx_vA (.pointer (some ⟨g602, o603, none⟩)) w560 (run_ixaddrN (E := 49) (s := 5) (k := .i64) (c := c0) rfl (by as_aux_lemma => kernel_rfl) (by as_aux_lemma => kernel_rfl) (by as_aux_lemma => kernel_rfl) (fun _ => by kernel_rfl) (ixg_in hx601).1 (ixg_in hx601).2.1 hA605) (gx_kA (.pointer (some ⟨g602, o603 + 4, none⟩)) w560 (gx_vA (.bool x600.2.2.2.2) w560 (run_loadN1 4 rfl (by as_aux_lemma => kernel_rfl) (fun _ => by kernel_rfl) (ha608 _ (sl_lies (hS561.inn ho0 hv0))) rfl) ?_))
 generalize x600.2.2.2.2 = b625 at *
 rcases b625 with _ | _
 try dsimp only at hE596
 refine gx_kA (.bool true) w560 (gx_kA (.bool true) w560 (gx_nil (gx_thenN ?_)))
 exact ⟨true, selfX, (sj hE596), hS561⟩
 try dsimp only at hE596
 refine gx_kA (.bool false) w560 (gx_kA (.bool false) w560 (gx_nil (gx_thenN ?_)))
 exact ⟨false, selfX, (sj hE596), hS561⟩
 refine gx_vA (.bool false) w560 (rbE (decide_eq_false h599)) (gx_kA (.bool false) w560 (gx_oA (gx_oA (gx_oA (gx_oA (gx_oA (gx_oA (gx_oA (gx_kA (.bool false) w560 (gx_nil (gx_thenN ?_)))))))))))
 exact ⟨false, selfX, (sj hE596), hS561⟩
 rintro _ w591 ⟨b594, hq598, rfl, hS592⟩
 obtain ⟨u593, rfl⟩ := selfA_u hq598
 try dsimp only at hO597
 refine gx_kA (.bool b594) w591 (gx_kA (.bool b594) w591 (gx_kA (.bool b594) w591 ?_))
 rcases b594 with _ | _
 try dsimp only at hO597
 refine gx_oA (gx_oA (gx_kA (.bool false) w591 (gx_kA (.bool false) w591 (gx_nil (gx_thenN ?_)))))
 exact ⟨false, selfX, (sj hO597), hS592⟩
 try dsimp only at hO597
 refine gx_kA (i6 x13) w591 ?_
 rcases if_in hO597 with ⟨h626, hO597⟩ | ⟨h626, hO597⟩
 refine gx_vA (.bool true) w591 (rbE (ne_yes h626)) (gx_kA (.bool true) w591 (gx_kA (.bool true) w591 (gx_nil (gx_thenN ?_))))
 exact ⟨true, selfX, (sj hO597), hS592⟩
 refine gx_vA (.bool false) w591 (rbE (ne_no h626)) (gx_kA (.bool false) w591 (gx_kA (.bool false) w591 (gx_nil (gx_thenN ?_))))
 exact ⟨false, selfX, (sj hO597), hS592⟩
 refine gx_vA (.bool false) w560 (rbE (decide_eq_false h588)) (gx_kA (.bool false) w560 (gx_oA (gx_oA (gx_oA (gx_oA (gx_oA (gx_oA (gx_oA (gx_oA (gx_oA (gx_oA (gx_oA (gx_oA (gx_oA (gx_oA (gx_oA (gx_kA (.bool false) w560 (gx_kA (.bool false) w560 (gx_oA (gx_oA (gx_kA (.bool false) w560 (gx_kA (.bool false) w560 (gx_nil (gx_thenN ?_))))))))))))))))))))))))
 exact ⟨false, selfX, (sj hE586), hS561⟩
 rintro _ w581 ⟨b584, hq643, rfl, hS582⟩
 obtain ⟨u583, rfl⟩ := selfA_u hq643
 try dsimp only at hO587
 rcases b584 with _ | _
 try dsimp only at hO587
 refine gx_no (by as_aux_lemma => kernel_rfl) (gx_seq (fun K629 hK630 => gx_seq (fun K631 hK632 => gx_region (gx_kA (i6 x7) w581 ?_))))
 rcases if_in hO587 with ⟨h633, hO587⟩ | ⟨h633, hO587⟩
 refine gx_vA (.bool true) w581 (rbE (decide_eq_true h633)) (gx_kA (.bool true) w581 (gx_kA (i6 x13) w581 ?_))
 rcases if_in hO587 with ⟨h634, hO587⟩ | ⟨h634, hO587⟩
 refine gx_vA (.bool true) w581 (rbE (decide_eq_true h634)) (gx_kA (.bool true) w581 (gx_kA (.bool true) w581 (gx_nil (gx_thenN (hK632 _ _ (gx_yes (by as_aux_lemma => kernel_rfl) (gx_pass (gx_thenN ?_))))))))
 refine hK630 _ _ (gx_yes (by as_aux_lemma => kernel_rfl) (gx_seq (fun K635 hK636 => gx_region (gx_kA (.int .u8 0) w581 (gx_nil (gx_thenN (hK636 _ _ ?_)))))))
 refine gx_ret (gx_blkR (gx_thenR ?_))
 obtain rfl := sj hO587
 try dsimp only at hO101
 obtain rfl := sj hO101
 exact gxF (.int .u8 0) ⟨_, rfl, rfl, (hS582.pick [] rfl rfl)⟩
 refine gx_vA (.bool false) w581 (rbE (decide_eq_false h634)) (gx_kA (.bool false) w581 (gx_kA (.bool false) w581 (gx_nil (gx_thenN (hK632 _ _ (gx_no (by as_aux_lemma => kernel_rfl) (gx_region (gx_kA (i6 x13) w581 ?_))))))))
 rcases if_in hO587 with ⟨h637, hO587⟩ | ⟨h637, hO587⟩
 refine gx_vA (.bool true) w581 (rbE (decide_eq_true h637)) (gx_kA (.bool true) w581 (gx_nil (gx_thenN (hK630 _ _ (gx_yes (by as_aux_lemma => kernel_rfl) (gx_seq (fun K638 hK639 => gx_region ?_)))))))
 refine gx_kA (.int .u8 0) w581 (gx_nil (gx_thenN (hK639 _ _ (gx_ret (gx_blkR (gx_thenR ?_))))))
 obtain rfl := sj hO587
 try dsimp only at hO101
 obtain rfl := sj hO101
 exact gxF (.int .u8 0) ⟨_, rfl, rfl, (hS582.pick [] rfl rfl)⟩
 refine gx_vA (.bool false) w581 (rbE (decide_eq_false h637)) (gx_kA (.bool false) w581 (gx_nil (gx_thenN (hK630 _ _ (gx_no (by as_aux_lemma => kernel_rfl) (gx_pass (gx_blkN ?_)))))))
 refine gx_thenN ?_
 exact ⟨selfX, (sj hO587), hS582⟩
 refine gx_vA (.bool false) w581 (rbE (decide_eq_false h633)) (gx_kA (.bool false) w581 (gx_oA (gx_oA (gx_kA (.bool false) w581 (gx_kA (.bool false) w581 (gx_nil (gx_thenN (hK632 _ _ (gx_no (by as_aux_lemma => kernel_rfl) (gx_region (gx_kA (i6 x13) w581 ?_)))))))))))
 rcases if_in hO587 with ⟨h640, hO587⟩ | ⟨h640, hO587⟩
 refine gx_vA (.bool true) w581 (rbE (decide_eq_true h640)) (gx_kA (.bool true) w581 (gx_nil (gx_thenN (hK630 _ _ (gx_yes (by as_aux_lemma => kernel_rfl) (gx_seq (fun K641 hK642 => gx_region ?_)))))))
 refine gx_kA (.int .u8 0) w581 (gx_nil (gx_thenN (hK642 _ _ (gx_ret (gx_blkR (gx_thenR ?_))))))
 obtain rfl := sj hO587
 try dsimp only at hO101
 obtain rfl := sj hO101
 exact gxF (.int .u8 0) ⟨_, rfl, rfl, (hS582.pick [] rfl rfl)⟩
 refine gx_vA (.bool false) w581 (rbE (decide_eq_false h640)) (gx_kA (.bool false) w581 (gx_nil (gx_thenN (hK630 _ _ (gx_no (by as_aux_lemma => kernel_rfl) (gx_pass (gx_blkN ?_)))))))
 refine gx_thenN ?_
 exact ⟨selfX, (sj hO587), hS582⟩
 try dsimp only at hO587
 refine gx_yes (by as_aux_lemma => kernel_rfl) (gx_seq (fun K627 hK628 => gx_region (gx_kA (.int .u8 0) w581 (gx_nil (gx_thenN (hK628 _ _ (gx_ret ?_)))))))
 refine gx_blkR (gx_thenR ?_)
 obtain rfl := sj hO587
 try dsimp only at hO101
 obtain rfl := sj hO101
 exact gxF (.int .u8 0) ⟨_, rfl, rfl, (hS582.pick [] rfl rfl)⟩
 try dsimp only at hO566
 refine gx_yes (by as_aux_lemma => kernel_rfl) (gx_seq (fun K579 hK580 => gx_region (gx_kA (.int .u8 0) w560 (gx_nil (gx_thenN (hK580 _ _ (gx_ret ?_)))))))
 refine gx_blkR (gx_thenR ?_)
 obtain rfl := sj hO566
 try dsimp only at hO101
 obtain rfl := sj hO101
 exact gxF (.int .u8 0) ⟨_, rfl, rfl, (hS561.pick [] rfl rfl)⟩
 try dsimp only at hO513
 refine gx_yes (by as_aux_lemma => kernel_rfl) (gx_seq (fun K558 hK559 => gx_region (gx_kA (.int .u8 0) w507 (gx_nil (gx_thenN (hK559 _ _ (gx_ret ?_)))))))
 refine gx_blkR (gx_thenR ?_)
 obtain rfl := sj hO513
 try dsimp only at hO101
 obtain rfl := sj hO101
 exact gxF (.int .u8 0) ⟨_, rfl, rfl, (hS508.pick [] rfl rfl)⟩
 try dsimp only at hO502
 refine gx_yes (by as_aux_lemma => kernel_rfl) (gx_seq (fun K505 hK506 => gx_region (gx_kA (.int .u8 1) w496 (gx_nil (gx_thenN (hK506 _ _ (gx_ret ?_)))))))
 refine gx_blkR (gx_thenR ?_)
 obtain rfl := sj hO502
 try dsimp only at hO101
 obtain rfl := sj hO101
 exact gxF (.int .u8 1) ⟨_, rfl, rfl, (hS497.pick [] rfl rfl)⟩
 try dsimp only at hO459
 refine gx_yes (by as_aux_lemma => kernel_rfl) (gx_seq (fun K494 hK495 => gx_region (gx_kA (.int .u8 0) w453 (gx_nil (gx_thenN (hK495 _ _ (gx_ret ?_)))))))
 refine gx_blkR (gx_thenR ?_)
 obtain rfl := sj hO459
 try dsimp only at hO101
 obtain rfl := sj hO101
 exact gxF (.int .u8 0) ⟨_, rfl, rfl, (hS454.pick [] rfl rfl)⟩
 try dsimp only at hO378
 refine gx_yes (by as_aux_lemma => kernel_rfl) (gx_seq (fun K451 hK452 => gx_region (gx_kA (.int .u8 0) w372 (gx_nil (gx_thenN (hK452 _ _ (gx_ret ?_)))))))
 refine gx_blkR (gx_thenR ?_)
 obtain rfl := sj hO378
 try dsimp only at hO101
 obtain rfl := sj hO101
 exact gxF (.int .u8 0) ⟨_, rfl, rfl, (hS373.pick [] rfl rfl)⟩
 try dsimp only at hO347
 refine gx_yes (by as_aux_lemma => kernel_rfl) (gx_seq (fun K365 hK366 => gx_region (gx_kA (.int .u8 0) w341 (gx_nil (gx_thenN (hK366 _ _ (gx_ret ?_)))))))
 refine gx_blkR (gx_thenR ?_)
 obtain rfl := sj hO347
 try dsimp only at hO101
 obtain rfl := sj hO101
 exact gxF (.int .u8 0) ⟨_, rfl, rfl, (hS342.pick [] rfl rfl)⟩
 try dsimp only at hO335
 refine gx_yes (by as_aux_lemma => kernel_rfl) (gx_seq (fun K339 hK340 => gx_region (gx_kA (.int .u8 1) w329 (gx_nil (gx_thenN (hK340 _ _ (gx_ret ?_)))))))
 refine gx_blkR (gx_thenR ?_)
 obtain rfl := sj hO335
 try dsimp only at hO101
 obtain rfl := sj hO101
 exact gxF (.int .u8 1) ⟨_, rfl, rfl, (hS330.pick [] rfl rfl)⟩
 try dsimp only at hO287
 refine gx_yes (by as_aux_lemma => kernel_rfl) (gx_seq (fun K327 hK328 => gx_region (gx_kA (.int .u8 0) w281 (gx_nil (gx_thenN (hK328 _ _ (gx_ret ?_)))))))
 refine gx_blkR (gx_thenR ?_)
 obtain rfl := sj hO287
 try dsimp only at hO101
 obtain rfl := sj hO101
 exact gxF (.int .u8 0) ⟨_, rfl, rfl, (hS282.pick [] rfl rfl)⟩
 try dsimp only at hO238
 refine gx_yes (by as_aux_lemma => kernel_rfl) (gx_seq (fun K279 hK280 => gx_region (gx_kA (.int .u8 0) w232 (gx_nil (gx_thenN (hK280 _ _ (gx_ret ?_)))))))
 refine gx_blkR (gx_thenR ?_)
 obtain rfl := sj hO238
 try dsimp only at hO101
 obtain rfl := sj hO101
 exact gxF (.int .u8 0) ⟨_, rfl, rfl, (hS233.pick [] rfl rfl)⟩
 try dsimp only at hO218
 refine gx_yes (by as_aux_lemma => kernel_rfl) (gx_seq (fun K230 hK231 => gx_region (gx_kA (.int .u8 0) w212 (gx_nil (gx_thenN (hK231 _ _ (gx_ret ?_)))))))
 refine gx_blkR (gx_thenR ?_)
 obtain rfl := sj hO218
 try dsimp only at hO101
 obtain rfl := sj hO101
 exact gxF (.int .u8 0) ⟨_, rfl, rfl, (hS213.pick [] rfl rfl)⟩
 try dsimp only at hO197
 refine gx_yes (by as_aux_lemma => kernel_rfl) (gx_seq (fun K210 hK211 => gx_region (gx_kA (.int .u8 0) w191 (gx_nil (gx_thenN (hK211 _ _ (gx_ret ?_)))))))
 refine gx_blkR (gx_thenR ?_)
 obtain rfl := sj hO197
 try dsimp only at hO101
 obtain rfl := sj hO101
 exact gxF (.int .u8 0) ⟨_, rfl, rfl, (hS192.pick [] rfl rfl)⟩
 try dsimp only at hO153
 refine gx_yes (by as_aux_lemma => kernel_rfl) (gx_seq (fun K189 hK190 => gx_region (gx_kA (.int .u8 0) w147 (gx_nil (gx_thenN (hK190 _ _ (gx_ret ?_)))))))
 refine gx_blkR (gx_thenR ?_)
 obtain rfl := sj hO153
 try dsimp only at hO101
 obtain rfl := sj hO101
 exact gxF (.int .u8 0) ⟨_, rfl, rfl, (hS148.pick [] rfl rfl)⟩
 try dsimp only at hO124
 refine gx_yes (by as_aux_lemma => kernel_rfl) (gx_seq (fun K140 hK141 => gx_region (gx_kA (.int .u8 0) w137 (gx_nil (gx_thenN (hK141 _ _ (gx_ret ?_)))))))
 refine gx_blkR (gx_thenR ?_)
 obtain rfl := sj hO124
 try dsimp only at hO101
 obtain rfl := sj hO101
 exact gxF (.int .u8 0) ⟨_, rfl, rfl, (hS138.pick [] rfl rfl)⟩
 try dsimp only at hO124
 refine gx_yes (by as_aux_lemma => kernel_rfl) (gx_seq (fun K128 hK129 => gx_region (gx_kA (.int .u8 2) w118 (gx_nil (gx_thenN (hK129 _ _ (gx_ret ?_)))))))
 refine gx_blkR (gx_thenR ?_)
 obtain rfl := sj hO124
 try dsimp only at hO101
 obtain rfl := sj hO101
 exact gxF (.int .u8 2) ⟨_, rfl, rfl, (hS119.pick [] rfl rfl)⟩
 try dsimp only at hO113
 refine gx_yes (by as_aux_lemma => kernel_rfl) (gx_seq (fun K116 hK117 => gx_region (gx_kA (.int .u8 0) w107 (gx_nil (gx_thenN (hK117 _ _ (gx_ret ?_)))))))
 refine gx_blkR (gx_thenR ?_)
 obtain rfl := sj hO113
 try dsimp only at hO101
 obtain rfl := sj hO101
 exact gxF (.int .u8 0) ⟨_, rfl, rfl, (hS108.pick [] rfl rfl)⟩
 rintro _ w96 ⟨hq666, rfl, hS97⟩
 obtain ⟨u98, rfl⟩ := selfA_u hq666
 try dsimp only at hO101
 refine gx_seq (fun K658 hK659 => gx_region (gx_kA (.slice A0 p0.length c0) w96 (gx_kA (i6 p1) w96 (gx_kA (i6 x7) w96 (gx_kA (i6 x13) w96 (gx_kA (i6 x19) w96 (gx_kA (i6 x25) w96 (gx_kA (i6 x31) w96 ?_))))))))
 have hP660 : St _ _ w96 ([] ++ [poolE ([]) w0]) := hS97
 obtain ⟨x662, hc661, hO101⟩ := bind_in hO101
 try dsimp only at hO101
 refine gx_cA _ (rLat_ok N p0 p1 x7 x13 x19 x25 x31 A0 c0 vs0 ft0 _ hc661 w96 (hS97.inn ho0 hv0) (hP660.offIA ho0)) ?_
 rintro _ w663 ⟨rfl, hT665⟩
 have hS664 : St _ _ w663 [poolE ([]) w0] := hS97.take _ hT665
 refine gx_kA (.int .u8 x662) w663 (gx_nil (gx_thenN (hK659 _ _ (gx_ret ?_))))
 obtain rfl := sj hO101
 exact gxF (.int .u8 x662) ⟨_, rfl, rfl, (hS664.pick [] rfl rfl)⟩
end Go.Proofs.YtdbimchiecdkoaaGreat

namespace Go.Proofs.YtdbimchiecdkoaaGreat
open Go Go.RowKit
set_option maxRecDepth 100000
set_option maxHeartbeats 4000000
set_option linter.unusedVariables false
def rBreaks_L2 (N : Nat) (l9 : List (Int × Int × Int × Bool × Bool)) (x44 : Int) : Nat → (List Int) → Int → Option (List Int)
 | 0, _, _ => none
 | k99+1, l97, x98 => ((ixg l9 x44).bind fun x105 => (if x98 < x105.2.2.1 then ((apx l97 ([0])).bind fun l135 => rBreaks_L2 N l9 x44 k99 l135 (IntKind.i64.wrap (x98 + 1))) else some (l97)))
def rBreaks_L1 (N : Nat) (l9 : List (Int × Int × Int × Bool × Bool)) : Nat → (List Int) → Int → Option (List Int)
 | 0, _, _ => none
 | k45+1, l43, x44 => (if x44 < ((l9.length : Nat) : Int) then (((((if x44 > 0 then ((rBetw N l9 x44).bind fun x75 => some (x75)) else some (0)) : Option (Int)).bind fun x66 => ((apx l43 ([x66])).bind fun l83 => rBreaks_L2 N l9 x44 N l83 1)) : Option (List Int)).bind fun l57 => rBreaks_L1 N l9 k45 l57 (IntKind.i64.wrap (x44 + 1))) else some (l43))
def rBreaks (N : Nat) (p0 : List Int) : Option (List Int) :=
 ((rUnits N p0).bind fun l9 => ((rBreaks_L1 N l9 N ([]) 0 : Option (List Int)).bind fun l31 => ((apx l31 ([2])).bind fun l150 => some l150)))
def rBreaks_R (r : List Int) (w0 : World) (v : Value) (w : World) : Prop := ∃ (A0' : Option Addr) (c0' : Nat), v = .slice A0' r.length c0' ∧ St [] w0 w [rowE .u8 5 A0' c0' r]
theorem rBreaks_ok (N : Nat) (p0 : List Int) (A0 : Option Addr) (c0 : Nat) (r : List Int) (hF : rBreaks N p0 = some r) (w0 : World) (hv0 : Vw [] .i32 w0 A0 c0 p0) :
  Calls Tryz.prog 9 #[.slice A0 p0.length c0] w0 fun e w => ∃ v, e = .returned v ∧ rBreaks_R r w0 v w := by
 have hS0 := (St.start w0).pool0
 unfold rBreaks at hF
 refine calls_of Tryz.func9 rfl ⟨((.slice A0 p0.length c0) :: un 39 ([])).toArray, []⟩ (by kernel_rfl) (gx_seq (fun K1 hK2 => gx_region (gx_k (nS) w0 (gx_nil (gx_thenN (hK2 _ _ (gx_seq (fun K3 hK4 => ?_))))))))
 refine gx_region (gx_k (nS) w0 (gx_nil (gx_thenN (hK4 _ _ (gx_seq (fun K5 hK6 => gx_region (gx_k (.slice A0 p0.length c0) w0 ?_)))))))
 have hP7 : St _ _ w0 ([] ++ [poolE ([]) w0]) := hS0
 obtain ⟨l9, hc8, hF⟩ := bind_in hF
 try dsimp only at hF
 refine gx_c _ (rUnits_ok N p0 A0 c0 _ hc8 w0 (hP7.vwA hv0)) ?_
 rintro _ w15 ⟨A10, c11, vs12, ft14, rfl, hT17, hf13⟩
 have hS16 : St _ _ w15 [poolE ([]) w0, rowG 49 5 (.slice A10 l9.length c11) l9.length vs12, poolE ft14 w15] := hS0.take _ hT17
 obtain ⟨ft18, W19, hS20, hT21, hU22⟩ := hS16.merge 2 0 rfl rfl (by decide)
 have hS20 : St _ _ w15 [poolE ft18 W19, rowG 49 5 (.slice A10 l9.length c11) l9.length vs12] := hS20
 have hT21 : Turn [] w0 w0 ([]) W19 ft18 := hT21
 have hf25 : (fEach enccalamusref13Unit vs12 l9).rd W19 ft18 := hU22 _ hf13
 refine gx_k (.slice A10 l9.length c11) w15 (gx_nil (gx_thenN (hK6 _ _ ?_)))
 obtain ⟨c32, hE33, hO34⟩ := bind_in hF
 refine gx_cut (fun a w => ∃ (l31 : List Int) (A29 : Option Addr) (c30 : Nat), selfA (fun u28 => ⟨((u28 0) :: undef :: (nS) :: (.slice A29 l31.length c30) :: dd u28 4 33 (un 3 ([]))).toArray, []⟩) a ∧ l31 = c32 ∧ St [] w0 w [poolE ft18 W19, rowE .u8 5 A29 c30 l31]) ?_ ?_
 refine gx_seq (fun K35 hK36 => gx_region (gx_k (i6 0) w15 (gx_nil (gx_thenN (hK36 _ _ (gx_block ?_))))))
 have hS37 : St _ _ w15 [poolE ft18 W19, rowG 49 5 (.slice A10 l9.length c11) l9.length vs12, rowE .u8 5 none 0 ([])] := hS20.nilrow .u8 5
 refine gx_loop (fun k a w => ∃ (l43 : List Int) (x44 : Int) (A41 : Option Addr) (c42 : Nat), selfA (fun u40 => ⟨((u40 0) :: undef :: (nS) :: (.slice A41 l43.length c42) :: (.slice A10 l9.length c11) :: (i6 x44) :: dd u40 6 31 (un 3 ([]))).toArray, []⟩) a ∧ rBreaks_L1 N l9 k l43 x44 = some c32 ∧ St [] w0 w [poolE ft18 W19, rowE .u8 5 A41 c42 l43, rowG 49 5 (.slice A10 l9.length c11) l9.length vs12]) N ?_ ?_
 exact ⟨([]), 0, none, 0, selfA_i (by kernel_rfl), hE33, (hS37.pick [0, 2, 1] rfl rfl)⟩
 rintro k45 _ w38 ⟨l43, x44, A41, c42, hq145, hL46, hS39⟩
 obtain ⟨u40, rfl⟩ := selfA_u hq145
 rcases k45 with _ | k45
 cases hL46
 first | rw [rBreaks_L1] at hL46 | unfold rBreaks_L1 at hL46
 refine gx_seq (fun K47 hK48 => gx_seq (fun K49 hK50 => gx_region (gx_k (i6 x44) w38 (gx_k (.slice A10 l9.length c11) w38 (gx_k (i6 ((l9.length : Nat) : Int)) w38 ?_)))))
 rcases if_in hL46 with ⟨h51, hL46⟩ | ⟨h51, hL46⟩
 refine gx_v (.bool true) w38 (rbE (decide_eq_true h51)) (gx_nil (gx_thenN (hK50 _ _ (gx_yes (by kernel_rfl) (gx_pass (gx_thenN (hK48 _ _ ?_)))))))
 obtain ⟨c58, hE59, hO60⟩ := bind_in hL46
 refine gx_cut (fun a w => ∃ (l57 : List Int) (A55 : Option Addr) (c56 : Nat), selfA (fun u54 => ⟨((u40 0) :: undef :: (nS) :: (.slice A55 l57.length c56) :: (.slice A10 l9.length c11) :: (i6 x44) :: dd u54 6 2 (dd u40 8 2 ((i6 x44) :: (u54 11) :: (i6 ((l9.length : Nat) : Int)) :: (.bool true) :: dd u40 14 2 (dd u54 16 21 (un 3 ([])))))).toArray, []⟩) a ∧ l57 = c58 ∧ St [] w0 w [poolE ft18 W19, rowE .u8 5 A55 c56 l57, rowG 49 5 (.slice A10 l9.length c11) l9.length vs12]) ?_ ?_
 refine gx_block (gx_seq (fun K61 hK62 => gx_region (gx_k (.int .u8 0) w38 (gx_nil (gx_thenN (hK62 _ _ ?_))))))
 obtain ⟨c67, hE68, hO69⟩ := bind_in hE59
 refine gx_cut (fun a w => ∃ (x66 : Int), selfA (fun u65 => ⟨((u40 0) :: undef :: (nS) :: (.slice A41 l43.length c42) :: (.slice A10 l9.length c11) :: (i6 x44) :: (.int .u8 x66) :: dd u40 7 3 ((i6 x44) :: (u65 11) :: (i6 ((l9.length : Nat) : Int)) :: (.bool true) :: dd u40 14 2 (dd u65 16 5 (dd u40 21 16 (un 3 ([])))))).toArray, []⟩) a ∧ x66 = c67 ∧ St [] w0 w [poolE ft18 W19, rowE .u8 5 A41 c42 l43, rowG 49 5 (.slice A10 l9.length c11) l9.length vs12]) ?_ ?_
 refine gx_seq (fun K70 hK71 => gx_region (gx_k (i6 x44) w38 ?_))
 rcases if_in hE68 with ⟨h72, hE68⟩ | ⟨h72, hE68⟩
 refine gx_v (.bool true) w38 (rbE (decide_eq_true h72)) (gx_nil (gx_thenN (hK71 _ _ (gx_yes (by kernel_rfl) (gx_region (gx_k (.slice A10 l9.length c11) w38 (gx_k (i6 x44) w38 ?_)))))))
 have hP73 : St _ _ w38 ([] ++ [poolE ft18 W19, rowE .u8 5 A41 c42 l43, rowG 49 5 (.slice A10 l9.length c11) l9.length vs12]) := hS39
 obtain ⟨x75, hc74, hE68⟩ := bind_in hE68
 try dsimp only at hE68
 refine gx_c _ (rBetw_ok N l9 x44 A10 c11 vs12 ((rowG 49 5 (.slice A10 l9.length c11) l9.length vs12).foot ++ ft18) _ hc74 w38 (rowG_sl (e := enccalamusref13Unit) rfl (hS39.get 2 rfl) (hS39.now 0 rfl hf25)) (hP73.offRA 2 rfl (hP73.offPA 0 rfl))) ?_
 rintro _ w76 ⟨rfl, hT78⟩
 have hS77 : St _ _ w76 [poolE ft18 W19, rowE .u8 5 A41 c42 l43, rowG 49 5 (.slice A10 l9.length c11) l9.length vs12] := hS39.take _ hT78
 refine gx_k (.int .u8 x75) w76 (gx_nil (gx_thenN ?_))
 exact ⟨x75, selfA_i (by kernel_rfl), (sj hE68), hS77⟩
 refine gx_v (.bool false) w38 (rbE (decide_eq_false h72)) (gx_nil (gx_thenN (hK71 _ _ (gx_no (by kernel_rfl) (gx_pass (gx_thenN ?_))))))
 exact ⟨0, selfA_i (by kernel_rfl), (sj hE68), hS39⟩
 rintro _ w63 ⟨x66, hq143, rfl, hS64⟩
 obtain ⟨u65, rfl⟩ := selfA_u hq143
 try dsimp only at hO69
 refine gx_seq (fun K79 hK80 => gx_region (gx_k (.slice A41 l43.length c42) w63 (gx_k (.int .u8 x66) w63 (gx_r (st_made .u8 5 [x66] hS64 (by show 1 ≤ 1000000000; decide) (by kernel_rfl)) ?_))))
 rintro _ w81 ⟨rfl, hS82⟩
 have hS82 : St _ _ w81 [poolE ft18 W19, rowE .u8 5 A41 c42 l43, rowG 49 5 (.slice A10 l9.length c11) l9.length vs12, rowE .u8 5 (some ⟨w63.heap.size, 0, none⟩) 1 ([x66])] := hS82
 obtain ⟨l83, ha84, hO69⟩ := bind_in hO69
 obtain ⟨ha84, hq85⟩ := apx_in ha84
 refine gx_r (st_append rfl (by kernel_rfl) (by kernel_rfl) hS82 1 rfl (hS82.row 3 rfl).1 (hS82.row 3 rfl).2 ha84 (by kernel_rfl) (by kernel_rfl)) ?_
 rintro _ w88 ⟨A86, c87, rfl, hS89⟩
 rw [← hq85] at hS89 ⊢
 have hS89 : St _ _ w88 [poolE ft18 W19, rowE .u8 5 A86 c87 l83, rowG 49 5 (.slice A10 l9.length c11) l9.length vs12, rowE .u8 5 (some ⟨w63.heap.size, 0, none⟩) 1 ([x66])] := hS89
 refine gx_k (.slice A86 l83.length c87) w88 (gx_nil (gx_thenN (hK80 _ _ (gx_seq (fun K90 hK91 => gx_region (gx_k (i6 1) w88 (gx_nil ?_)))))))
 refine gx_thenN (hK91 _ _ (gx_block (gx_loop (fun k a w => ∃ (l97 : List Int) (x98 : Int) (A95 : Option Addr) (c96 : Nat), selfA (fun u94 => ⟨((u40 0) :: undef :: (nS) :: (.slice A95 l97.length c96) :: (.slice A10 l9.length c11) :: (i6 x44) :: (.int .u8 x66) :: (i6 x98) :: dd u40 8 2 ((i6 x44) :: (u65 11) :: (i6 ((l9.length : Nat) : Int)) :: (.bool true) :: dd u40 14 2 (dd u65 16 5 ((u94 21) :: (.int .u8 x66) :: dd u94 23 14 (un 3 ([])))))).toArray, []⟩) a ∧ rBreaks_L2 N l9 x44 k l97 x98 = some c58 ∧ St [] w0 w [poolE ft18 W19, rowE .u8 5 A95 c96 l97, rowG 49 5 (.slice A10 l9.length c11) l9.length vs12]) N ?_ ?_)))
 exact ⟨l83, 1, A86, c87, selfA_i (by kernel_rfl), hO69, (hS89.pick [0, 1, 2] rfl rfl)⟩
 rintro k99 _ w92 ⟨l97, x98, A95, c96, hq142, hL100, hS93⟩
 obtain ⟨u94, rfl⟩ := selfA_u hq142
 rcases k99 with _ | k99
 cases hL100
 first | rw [rBreaks_L2] at hL100 | unfold rBreaks_L2 at hL100
 refine gx_seq (fun K101 hK102 => gx_seq (fun K103 hK104 => gx_region (gx_k (i6 x98) w92 (gx_k (.slice A10 l9.length c11) w92 (gx_k (i6 x44) w92 ?_)))))
 obtain ⟨x105, hx106, hL100⟩ := bind_in hL100
 obtain ⟨g107, o108, e109, hA110, he111, h112, ha113⟩ := elem_at (e := enccalamusref13Unit) (rowG_lies (e := enccalamusref13Unit) rfl (hS93.get 2 rfl)) hf25 hx106 (by decide)
 obtain ⟨e114, e115, rfl, h116, h117⟩ := h112
 obtain rfl := h116
 obtain ⟨e118, e119, rfl, h120, h121⟩ := h117
 obtain rfl := h120
 obtain ⟨e122, e123, rfl, h124, h125⟩ := h121
 obtain rfl := h124
 obtain ⟨e126, e127, rfl, h128, h129⟩ := h125
 obtain rfl := h128
 obtain rfl := h129
 have ha113 : ∀ w', Lies w' A10 vs12 → w'.rangeAt g107 o108 [i6 x105.1, .int .i32 x105.2.1, i6 x105.2.2.1, .bool x105.2.2.2.1, .bool x105.2.2.2.2] := ha113
 refine gx_v (.pointer (some ⟨g107, o108, none⟩)) w92 (run_ixaddrN (E := 49) (s := 5) (k := .i64) (c := c11) rfl (by kernel_rfl) (by kernel_rfl) (by kernel_rfl) (fun _ => by kernel_rfl) (ixg_in hx106).1 (ixg_in hx106).2.1 hA110) (gx_k (.pointer (some ⟨g107, o108 + 2, none⟩)) w92 (gx_v (i6 x105.2.2.1) w92 (run_loadN1 2 rfl (by kernel_rfl) (fun _ => by kernel_rfl) (ha113 _ (rowG_lies (e := enccalamusref13Unit) rfl (hS93.get 2 rfl))) rfl) ?_))
 rcases if_in hL100 with ⟨h130, hL100⟩ | ⟨h130, hL100⟩
 refine gx_v (.bool true) w92 (rbE (decide_eq_true h130)) (gx_nil (gx_thenN (hK104 _ _ (gx_yes (by kernel_rfl) (gx_pass (gx_thenN (hK102 _ _ ?_)))))))
 refine gx_seq (fun K131 hK132 => gx_block (gx_region (gx_k (.slice A95 l97.length c96) w92 (gx_r (st_made .u8 5 [0] hS93 (by show 1 ≤ 1000000000; decide) (by kernel_rfl)) ?_))))
 rintro _ w133 ⟨rfl, hS134⟩
 have hS134 : St _ _ w133 [poolE ft18 W19, rowE .u8 5 A95 c96 l97, rowG 49 5 (.slice A10 l9.length c11) l9.length vs12, rowE .u8 5 (some ⟨w92.heap.size, 0, none⟩) 1 ([0])] := hS134
 obtain ⟨l135, ha136, hL100⟩ := bind_in hL100
 obtain ⟨ha136, hq137⟩ := apx_in ha136
 refine gx_r (st_append rfl (by kernel_rfl) (by kernel_rfl) hS134 1 rfl (hS134.row 3 rfl).1 (hS134.row 3 rfl).2 ha136 (by kernel_rfl) (by kernel_rfl)) ?_
 rintro _ w140 ⟨A138, c139, rfl, hS141⟩
 rw [← hq137] at hS141 ⊢
 have hS141 : St _ _ w140 [poolE ft18 W19, rowE .u8 5 A138 c139 l135, rowG 49 5 (.slice A10 l9.length c11) l9.length vs12, rowE .u8 5 (some ⟨w92.heap.size, 0, none⟩) 1 ([0])] := hS141
 refine gx_k (.slice A138 l135.length c139) w140 (gx_nil (gx_blkN (gx_thenN (hK132 _ _ (gx_region (gx_k (i6 x98) w140 (gx_k (i6 (iw (x98 + 1))) w140 (gx_k (i6 (iw (x98 + 1))) w140 (gx_nil ?_)))))))))
 refine gx_thenN ?_
 exact ⟨k99, Nat.lt_succ_self k99, l135, (iw (x98 + 1)), A138, c139, selfA_i (by kernel_rfl), hL100, (hS141.pick [0, 1, 2] rfl rfl)⟩
 refine gx_v (.bool false) w92 (rbE (decide_eq_false h130)) (gx_nil (gx_thenN (hK104 _ _ (gx_no (by kernel_rfl) (gx_exit (gx_thenE (gx_thenE ?_)))))))
 refine gx_blkE (gx_blkN (gx_thenN ?_))
 exact ⟨l97, A95, c96, selfA_i (by kernel_rfl), (sj hL100), hS93⟩
 rintro _ w52 ⟨l57, A55, c56, hq144, rfl, hS53⟩
 obtain ⟨u54, rfl⟩ := selfA_u hq144
 try dsimp only at hO60
 refine gx_region (gx_k (i6 x44) w52 (gx_k (i6 (iw (x44 + 1))) w52 (gx_k (i6 (iw (x44 + 1))) w52 (gx_nil (gx_thenN ?_)))))
 exact ⟨k45, Nat.lt_succ_self k45, l57, (iw (x44 + 1)), A55, c56, selfA_i (by kernel_rfl), hO60, hS53⟩
 refine gx_v (.bool false) w38 (rbE (decide_eq_false h51)) (gx_nil (gx_thenN (hK50 _ _ (gx_no (by kernel_rfl) (gx_exit (gx_thenE (gx_thenE ?_)))))))
 refine gx_blkE (gx_thenN ?_)
 exact ⟨l43, A41, c42, selfA_i (by kernel_rfl), (sj hL46), (hS39.pick [0, 1] rfl rfl)⟩
 rintro _ w26 ⟨l31, A29, c30, hq157, rfl, hS27⟩
 obtain ⟨u28, rfl⟩ := selfA_u hq157
 try dsimp only at hO34
 refine gx_seq (fun K146 hK147 => gx_region (gx_k (.slice A29 l31.length c30) w26 (gx_r (st_made .u8 5 [2] hS27 (by show 1 ≤ 1000000000; decide) (by kernel_rfl)) ?_)))
 rintro _ w148 ⟨rfl, hS149⟩
 have hS149 : St _ _ w148 [poolE ft18 W19, rowE .u8 5 A29 c30 l31, rowE .u8 5 (some ⟨w26.heap.size, 0, none⟩) 1 ([2])] := hS149
 obtain ⟨l150, ha151, hO34⟩ := bind_in hO34
 obtain ⟨ha151, hq152⟩ := apx_in ha151
 refine gx_r (st_append rfl (by kernel_rfl) (by kernel_rfl) hS149 1 rfl (hS149.row 2 rfl).1 (hS149.row 2 rfl).2 ha151 (by kernel_rfl) (by kernel_rfl)) ?_
 rintro _ w155 ⟨A153, c154, rfl, hS156⟩
 rw [← hq152] at hS156 ⊢
 have hS156 : St _ _ w155 [poolE ft18 W19, rowE .u8 5 A153 c154 l150, rowE .u8 5 (some ⟨w26.heap.size, 0, none⟩) 1 ([2])] := hS156
 refine gx_k (.slice A153 l150.length c154) w155 (gx_nil (gx_thenN (hK147 _ _ (gx_ret ?_))))
 obtain rfl := sj hO34
 exact gxF (.slice A153 l150.length c154) ⟨_, rfl, A153, c154, rfl, (hS156.pick [1] rfl rfl)⟩
end Go.Proofs.YtdbimchiecdkoaaGreat

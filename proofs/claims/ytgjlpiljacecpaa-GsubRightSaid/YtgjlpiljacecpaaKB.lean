/-
  GsubRight, walked.
-/
import Derived.Test.YtgjlpiljacecpaaKC
namespace Go.Proofs.Ytgjlpiljacecpaa
open Go Go.RowKit
set_option linter.unusedVariables false
set_option maxRecDepth 100000
set_option maxHeartbeats 4000000
def mWords_L1 (N : Nat) (p0 : List Int) : Nat → (List Int) → Int → Option (List Int)
 | 0, _, _ => none
 | k24+1, l22, x23 => (if x23 < ((p0.length : Nat) : Int) then ((ix p0 x23).bind fun x35 => ((ix p0 x23).bind fun x37 => ((apx l22 ([(IntKind.u8.wrap (Int.fdiv x35 256)), (IntKind.u8.wrap x37)])).bind fun l41 => mWords_L1 N p0 k24 l41 (IntKind.i64.wrap (x23 + 1))))) else some (l22))
def mWords (N : Nat) (p0 : List Int) : Option (List Int) :=
 ((mWords_L1 N p0 N ([]) 0 : Option (List Int)).bind fun l10 => some l10)
def mWords_R (r : List Int) (w0 : World) (v : Value) (w : World) : Prop := ∃ (A0' : Option Addr) (c0' : Nat), v = .slice A0' r.length c0' ∧ St [] w0 w [rowE .u8 5 A0' c0' r]
theorem mWords_ok (N : Nat) (p0 : List Int) (A0 : Option Addr) (c0 : Nat) (r : List Int) (hF : mWords N p0 = some r) (w0 : World) (hv0 : Vw [] .i64 w0 A0 c0 p0) :
  Calls Try.prog 22 #[.slice A0 p0.length c0] w0 fun e w => ∃ v, e = .returned v ∧ mWords_R r w0 v w := by
 have hS0 := St.start w0
 unfold mWords at hF
 refine calls_of Try.func22 rfl ⟨((.slice A0 p0.length c0) :: un 25 ([])).toArray, []⟩ (by kernel_rfl) (gx_seq (fun K1 hK2 => gx_region (gx_k (nS) w0 (gx_nil (gx_thenN (hK2 _ _ (gx_seq (fun K3 hK4 => ?_))))))))
 refine gx_region (gx_k (nS) w0 (gx_nil (gx_thenN (hK4 _ _ ?_))))
 obtain ⟨c11, hE12, hO13⟩ := bind_in hF
 refine gx_cut (fun a w => ∃ (l10 : List Int) (A8 : Option Addr) (c9 : Nat), selfA (fun u7 => ⟨((u7 0) :: undef :: (nS) :: (.slice A8 l10.length c9) :: dd u7 4 21 (undef :: [])).toArray, []⟩) a ∧ l10 = c11 ∧ St [] w0 w [rowE .u8 5 A8 c9 l10]) ?_ ?_
 refine gx_seq (fun K14 hK15 => gx_region (gx_k (i6 0) w0 (gx_nil (gx_thenN (hK15 _ _ (gx_block ?_))))))
 have hS16 : St _ _ w0 [rowE .u8 5 none 0 ([])] := hS0.nilrow .u8 5
 refine gx_loop (fun k a w => ∃ (l22 : List Int) (x23 : Int) (A20 : Option Addr) (c21 : Nat), selfA (fun u19 => ⟨((.slice A0 p0.length c0) :: undef :: (nS) :: (.slice A20 l22.length c21) :: (i6 x23) :: dd u19 5 20 (undef :: [])).toArray, []⟩) a ∧ mWords_L1 N p0 k l22 x23 = some c11 ∧ St [] w0 w [rowE .u8 5 A20 c21 l22]) N ?_ ?_
 exact ⟨([]), 0, none, 0, selfA_i (by kernel_rfl), hE12, hS16⟩
 rintro k24 _ w17 ⟨l22, x23, A20, c21, hq48, hL25, hS18⟩
 obtain ⟨u19, rfl⟩ := selfA_u hq48
 rcases k24 with _ | k24
 cases hL25
 first | rw [mWords_L1] at hL25 | unfold mWords_L1 at hL25
 refine gx_seq (fun K26 hK27 => gx_seq (fun K28 hK29 => gx_region (gx_k (i6 x23) w17 (gx_k (.slice A0 p0.length c0) w17 (gx_k (i6 ((p0.length : Nat) : Int)) w17 ?_)))))
 rcases if_in hL25 with ⟨h30, hL25⟩ | ⟨h30, hL25⟩
 refine gx_v (.bool true) w17 (rbE (decide_eq_true h30)) (gx_nil (gx_thenN (hK29 _ _ (gx_yes (by kernel_rfl) (gx_pass (gx_thenN (hK27 _ _ ?_)))))))
 refine gx_seq (fun K31 hK32 => gx_block (gdst (fun w => St [] w0 w []) 15 ?_))
 have hS34 := hS18.drew
 generalize w17.drew = w33 at hS34 ⊢
 refine gv1 0 11 (.slice A20 l22.length c21) rfl (hS34.pick [] rfl rfl) (gv1 1 12 (.slice A0 p0.length c0) rfl (hS34.pick [] rfl rfl) (gv1 2 13 (i6 x23) rfl (hS34.pick [] rfl rfl) ?_))
 obtain ⟨x35, hx36, hL25⟩ := bind_in hL25
 refine gu1 3 14 (pI x23 A0) rfl (hS34.pick [] rfl rfl) (fun w hSw => rix 3 .i64 hx36 ((hS34.view hv0))) (gu1 4 15 (i6 x35) rfl (hS34.pick [] rfl rfl) (fun w hSw => rlx (hSw.view hv0) hx36) (gv1 5 16 (i6 (Int.fdiv x35 256)) rfl (hS34.pick [] rfl rfl) (gv1 6 17 (.int .u8 (IntKind.u8.wrap (Int.fdiv x35 256))) rfl (hS34.pick [] rfl rfl) (gv1 7 18 (.slice A0 p0.length c0) rfl (hS34.pick [] rfl rfl) (gv1 8 19 (i6 x23) rfl (hS34.pick [] rfl rfl) ?_)))))
 obtain ⟨x37, hx38, hL25⟩ := bind_in hL25
 refine gu1 9 20 (pI x23 A0) rfl (hS34.pick [] rfl rfl) (fun w hSw => rix 3 .i64 hx38 ((hS34.view hv0))) (gu1 10 21 (i6 x37) rfl (hS34.pick [] rfl rfl) (fun w hSw => rlx (hSw.view hv0) hx38) (gv1 11 22 (.int .u8 (IntKind.u8.wrap x37)) rfl (hS34.pick [] rfl rfl) (gdR 12 ⟨some 23, _, _, _, _, _⟩ rfl (st_made .u8 5 [(IntKind.u8.wrap (Int.fdiv x35 256)), (IntKind.u8.wrap x37)] hS34 (by show 2 ≤ 1000000000; decide) (by kernel_rfl)) ?_)))
 rintro _ w39 ⟨rfl, hS40⟩
 have hS40 : St _ _ w39 [rowE .u8 5 A20 c21 l22, rowE .u8 5 (some ⟨w33.heap.size, 0, none⟩) 2 ([(IntKind.u8.wrap (Int.fdiv x35 256)), (IntKind.u8.wrap x37)])] := hS40
 refine ⟨(hS40.pick [] rfl rfl), ?_⟩
 obtain ⟨l41, ha42, hL25⟩ := bind_in hL25
 obtain ⟨ha42, hq43⟩ := apx_in ha42
 refine gdR 13 ⟨some 24, _, _, _, _, _⟩ rfl (st_append rfl (by kernel_rfl) (by kernel_rfl) hS40 0 rfl (hS40.row 1 rfl).1 (hS40.row 1 rfl).2 ha42 (by kernel_rfl) (by kernel_rfl)) ?_
 rintro _ w46 ⟨A44, c45, rfl, hS47⟩
 rw [← hq43] at hS47 ⊢
 have hS47 : St _ _ w46 [rowE .u8 5 A44 c45 l41, rowE .u8 5 (some ⟨w33.heap.size, 0, none⟩) 2 ([(IntKind.u8.wrap (Int.fdiv x35 256)), (IntKind.u8.wrap x37)])] := hS47
 refine ⟨(hS47.pick [] rfl rfl), gv1 14 3 (.slice A44 l41.length c45) rfl (hS47.pick [] rfl rfl) (gd_done (by kernel_rfl) (gx_blkN (gx_thenN (hK32 _ _ (gx_region (gx_k (i6 x23) w46 (gx_k (i6 (iw (x23 + 1))) w46 (gx_k (i6 (iw (x23 + 1))) w46 ?_))))))))⟩
 refine gx_nil (gx_thenN ?_)
 exact ⟨k24, Nat.lt_succ_self k24, l41, (iw (x23 + 1)), A44, c45, selfA_i (by kernel_rfl), hL25, (hS47.pick [0] rfl rfl)⟩
 refine gx_v (.bool false) w17 (rbE (decide_eq_false h30)) (gx_nil (gx_thenN (hK29 _ _ (gx_no (by kernel_rfl) (gx_exit (gx_thenE (gx_thenE ?_)))))))
 refine gx_blkE (gx_thenN ?_)
 exact ⟨l22, A20, c21, selfA_i (by kernel_rfl), (sj hL25), hS18⟩
 rintro _ w5 ⟨l10, A8, c9, hq51, rfl, hS6⟩
 obtain ⟨u7, rfl⟩ := selfA_u hq51
 try dsimp only at hO13
 refine gx_seq (fun K49 hK50 => gx_region (gx_k (.slice A8 l10.length c9) w5 (gx_k (.slice A8 l10.length c9) w5 (gx_nil (gx_thenN (hK50 _ _ (gx_ret ?_)))))))
 obtain rfl := sj hO13
 exact gxF (.slice A8 l10.length c9) ⟨_, rfl, A8, c9, rfl, hS6⟩
def fWorks7 (N : Nat) : Option (Bool) :=
 ((mWords N ([1, 0, 10, 10, 12, 0, 1, 4, 4, 0, 1, 8, 1, 8, 1, 14, 1, 1, 5, 1, 4, 9, 2, 6])).bind fun l9 => ((qOpen N l9).bind fun (l18, b22) => ((gParse N l18 b22 (10 : Int)).bind fun (l29, l34, x39, _b28) => (((if x39 = 0 then (if ((l34.length : Nat) : Int) = 0 then some (true) else some (false)) else some (false)) : Option (Bool)).bind fun b58 => (((match b58 with | true => (if ((l29.length : Nat) : Int) = 1 then some (true) else some (false)) | false => some (false)) : Option (Bool)).bind fun b68 => (((match b68 with | true => ((ixg l29 (0 : Int)).bind fun x82 => (if (((x82.2.2.1).length : Nat) : Int) = 1 then some (true) else some (false))) | false => some (false)) : Option (Bool)).bind fun b77 => (((match b77 with | true => ((ixg l29 (0 : Int)).bind fun x120 => ((ixg x120.2.2.1 (0 : Int)).bind fun x149 => (if (((x149.2.2.1).length : Nat) : Int) = 1 then some (true) else some (false)))) | false => some (false)) : Option (Bool)).bind fun b115 => (((match b115 with | true => ((ixg l29 (0 : Int)).bind fun x219 => ((ixg x219.2.2.1 (0 : Int)).bind fun x248 => ((ixg x248.2.2.1 (0 : Int)).bind fun x309 => (if x309.2 = 9 then some (true) else some (false))))) | false => some (false)) : Option (Bool)).bind fun b214 => (match b214 with | true => ((ixg l29 (0 : Int)).bind fun x327 => ((ixg x327.2.2.1 (0 : Int)).bind fun x356 => ((ixg x356.2.2.1 (0 : Int)).bind fun x417 => ((kSameW N x417.1 ([5, 6])).bind fun b438 => some b438)))) | false => some false)))))))))
def fWorks7_R (r : Bool) (w0 : World) (v : Value) (w : World) : Prop := v = .bool r ∧ St [] w0 w []
theorem fWorks7_ok (N : Nat)  (r : Bool) (hF : fWorks7 N = some r) (w0 : World)  :
  Calls Try.prog 8 #[] w0 fun e w => ∃ v, e = .returned v ∧ fWorks7_R r w0 v w := by
 have hS0 := (St.start w0).pool0
 unfold fWorks7 at hF
 refine calls_of Try.func8 rfl ⟨(un 70 ([])).toArray, []⟩ (by kernel_rfl) (gx_seq (fun K1 hK2 => gx_region (gx_k (.bool false) w0 (gx_nil (gx_thenN (hK2 _ _ (gx_seq (fun K3 hK4 => ?_))))))))
 refine gx_region (gx_r (st_made .i64 3 [1, 0, 10, 10, 12, 0, 1, 4, 4, 0, 1, 8, 1, 8, 1, 14, 1, 1, 5, 1, 4, 9, 2, 6] hS0 (by show 24 ≤ 1000000000; decide) (by kernel_rfl)) ?_)
 rintro _ w5 ⟨rfl, hS6⟩
 have hS6 : St _ _ w5 [poolE ([]) w0, rowE .i64 3 (some ⟨w0.heap.size, 0, none⟩) 24 ([1, 0, 10, 10, 12, 0, 1, 4, 4, 0, 1, 8, 1, 8, 1, 14, 1, 1, 5, 1, 4, 9, 2, 6])] := hS6
 have hP7 : St _ _ w5 ([] ++ [poolE ([]) w0, rowE .i64 3 (some ⟨w0.heap.size, 0, none⟩) 24 ([1, 0, 10, 10, 12, 0, 1, 4, 4, 0, 1, 8, 1, 8, 1, 14, 1, 1, 5, 1, 4, 9, 2, 6])]) := hS6
 obtain ⟨l9, hc8, hF⟩ := bind_in hF
 try dsimp only at hF
 refine gx_c _ (mWords_ok N ([1, 0, 10, 10, 12, 0, 1, 4, 4, 0, 1, 8, 1, 8, 1, 14, 1, 1, 5, 1, 4, 9, 2, 6]) (some ⟨w0.heap.size, 0, none⟩) 24 _ hc8 w5 (hP7.vwB 1 rfl)) ?_
 rintro _ w12 ⟨A10, c11, rfl, hT14⟩
 have hS13 : St _ _ w12 [poolE ([]) w0, rowE .i64 3 (some ⟨w0.heap.size, 0, none⟩) 24 ([1, 0, 10, 10, 12, 0, 1, 4, 4, 0, 1, 8, 1, 8, 1, 14, 1, 1, 5, 1, 4, 9, 2, 6]), rowE .u8 5 A10 c11 l9] := hS6.take _ hT14
 have hP15 : St _ _ w12 ([] ++ [poolE ([]) w0, rowE .i64 3 (some ⟨w0.heap.size, 0, none⟩) 24 ([1, 0, 10, 10, 12, 0, 1, 4, 4, 0, 1, 8, 1, 8, 1, 14, 1, 1, 5, 1, 4, 9, 2, 6]), rowE .u8 5 A10 c11 l9]) := hS13
 obtain ⟨⟨l18, b22⟩, hc16, hF⟩ := bind_in hF
 try dsimp only at hF
 refine gx_c _ (qOpen_ok N l9 A10 c11 _ hc16 w12 (hP15.vwB 2 rfl)) ?_
 rintro _ w23 ⟨g17, A19, c20, g21, rfl, hT25⟩
 have hS24 : St _ _ w23 [poolE ([]) w0, rowE .i64 3 (some ⟨w0.heap.size, 0, none⟩) 24 ([1, 0, 10, 10, 12, 0, 1, 4, 4, 0, 1, 8, 1, 8, 1, 14, 1, 1, 5, 1, 4, 9, 2, 6]), rowE .u8 5 A10 c11 l9, eR g17 g21 A19 l18 c20, rowE .u8 5 A19 c20 l18, eS g21 b22] := hS13.take _ hT25
 have hP26 : St _ _ w23 ([eR g17 g21 A19 l18 c20, eS g21 b22] ++ [poolE ([]) w0, rowE .i64 3 (some ⟨w0.heap.size, 0, none⟩) 24 ([1, 0, 10, 10, 12, 0, 1, 4, 4, 0, 1, 8, 1, 8, 1, 14, 1, 1, 5, 1, 4, 9, 2, 6]), rowE .u8 5 A10 c11 l9, rowE .u8 5 A19 c20 l18]) := hS24.pick [3, 5, 0, 1, 2, 4] rfl rfl
 obtain ⟨⟨l29, l34, x39, b28⟩, hc27, hF⟩ := bind_in hF
 try dsimp only at hF
 refine gx_c _ (gParse_ok N l18 b22 (10 : Int) g17 A19 c20 g21 _ hc27 w23 (hP26.vwB 3 rfl) hP26.part) ?_
 rintro _ w41 ⟨A30, c31, vs32, A35, c36, vs37, ft40, rfl, hT43, hf33, hf38⟩
 have hS42 : St _ _ w41 [poolE ([]) w0, rowE .i64 3 (some ⟨w0.heap.size, 0, none⟩) 24 ([1, 0, 10, 10, 12, 0, 1, 4, 4, 0, 1, 8, 1, 8, 1, 14, 1, 1, 5, 1, 4, 9, 2, 6]), rowE .u8 5 A10 c11 l9, rowE .u8 5 A19 c20 l18, eR g17 g21 A19 l18 c20, eS g21 b28, rowG 35 4 (.slice A30 l29.length c31) l29.length vs32, rowG 52 5 (.slice A35 l34.length c36) l34.length vs37, poolE ft40 w41] := hP26.lendN _ hT43
 obtain ⟨ft44, W45, hS46, hT47, hU48⟩ := hS42.merge 8 0 rfl rfl (by decide)
 have hS46 : St _ _ w41 [poolE ft44 W45, rowE .i64 3 (some ⟨w0.heap.size, 0, none⟩) 24 ([1, 0, 10, 10, 12, 0, 1, 4, 4, 0, 1, 8, 1, 8, 1, 14, 1, 1, 5, 1, 4, 9, 2, 6]), rowE .u8 5 A10 c11 l9, rowE .u8 5 A19 c20 l18, eR g17 g21 A19 l18 c20, eS g21 b28, rowG 35 4 (.slice A30 l29.length c31) l29.length vs32, rowG 52 5 (.slice A35 l34.length c36) l34.length vs37] := hS46
 have hT47 : Turn [] w0 w0 ([]) W45 ft44 := hT47
 have hf51 : (fEach encapiLookup vs32 l29).rd W45 ft44 := hU48 _ hf33
 have hf52 : (fEach (pairE encapiTag (rowOf (intE .i64))) vs37 l34).rd W45 ft44 := hU48 _ hf38
 refine gx_k (.tuple #[.slice A30 l29.length c31, .slice A35 l34.length c36, i6 x39]) w41 (gx_k (.slice A30 l29.length c31) w41 (gx_k (.slice A35 l34.length c36) w41 (gx_k (i6 x39) w41 (gx_k (.slice A30 l29.length c31) w41 (gx_k (.slice A35 l34.length c36) w41 (gx_k (i6 x39) w41 (gx_nil (gx_thenN (hK4 _ _ (gx_seq (fun K53 hK54 => gx_region (gx_k (i6 x39) w41 ?_))))))))))))
 obtain ⟨c59, hE60, hO61⟩ := bind_in hF
 refine gx_part (l1 := [_, _, _, _, _, _]) (fun a w => ∃ (b58 : Bool), selfA (fun u57 => ⟨((.bool false) :: (.slice A30 l29.length c31) :: (u57 2) :: (i6 x39) :: dd u57 4 3 ((vP g17) :: dd u57 8 3 ((i6 x39) :: (i6 x39) :: dd u57 13 5 ((.bool b58) :: un 51 ([]))))).toArray, []⟩) a ∧ b58 = c59 ∧ St [] w0 w [poolE ft44 W45, rowE .u8 5 A19 c20 l18, eR g17 g21 A19 l18 c20, eS g21 b28, rowG 35 4 (.slice A30 l29.length c31) l29.length vs32]) rfl ?_ ?_
 rcases if_in hE60 with ⟨h63, hE60⟩ | ⟨h63, hE60⟩
 refine gx_v (.bool true) w41 (rbE (decide_eq_true h63)) (gx_k (.bool true) w41 (gx_k (.slice A35 l34.length c36) w41 (gx_k (i6 ((l34.length : Nat) : Int)) w41 ?_)))
 rcases if_in hE60 with ⟨h64, hE60⟩ | ⟨h64, hE60⟩
 refine gx_v (.bool true) w41 (rbE (decide_eq_true h64)) (gx_k (.bool true) w41 (gx_nil (gx_thenN ?_)))
 exact ⟨true, selfA_i (by kernel_rfl), (sj hE60), (hS46.pick [0, 3, 4, 5, 6] rfl rfl)⟩
 refine gx_v (.bool false) w41 (rbE (decide_eq_false h64)) (gx_k (.bool false) w41 (gx_nil (gx_thenN ?_)))
 exact ⟨false, selfA_i (by kernel_rfl), (sj hE60), (hS46.pick [0, 3, 4, 5, 6] rfl rfl)⟩
 refine gx_v (.bool false) w41 (rbE (decide_eq_false h63)) (gx_k (.bool false) w41 (gx_o (gx_o (gx_o (gx_k (.bool false) w41 (gx_nil (gx_thenN ?_)))))))
 exact ⟨false, selfA_i (by kernel_rfl), (sj hE60), (hS46.pick [0, 3, 4, 5, 6] rfl rfl)⟩
 rintro _ w55 ⟨b58, hq62, rfl, hS56⟩
 obtain ⟨u57, rfl⟩ := selfA_u hq62
 try dsimp only at hO61
 obtain ⟨c69, hE70, hO71⟩ := bind_in hO61
 refine gx_part (l1 := [_, _, _, _, _]) (fun a w => ∃ (b68 : Bool), selfA (fun u67 => ⟨((.bool false) :: (.slice A30 l29.length c31) :: (u57 2) :: (i6 x39) :: dd u57 4 3 ((vP g17) :: dd u57 8 3 ((i6 x39) :: (i6 x39) :: dd u57 13 5 ((.bool b58) :: dd u67 19 4 ((.bool b68) :: un 46 ([])))))).toArray, []⟩) a ∧ b68 = c69 ∧ St [] w0 w [poolE ft44 W45, rowE .u8 5 A19 c20 l18, eR g17 g21 A19 l18 c20, eS g21 b28, rowG 35 4 (.slice A30 l29.length c31) l29.length vs32]) rfl ?_ ?_
 refine gx_k (.bool b58) w55 ?_
 rcases b58 with _ | _
 try dsimp only at hE70
 refine gx_o (gx_o (gx_o (gx_k (.bool false) w55 (gx_nil (gx_thenN ?_)))))
 exact ⟨false, selfA_i (by kernel_rfl), (sj hE70), hS56⟩
 try dsimp only at hE70
 refine gx_k (.slice A30 l29.length c31) w55 (gx_k (i6 ((l29.length : Nat) : Int)) w55 ?_)
 rcases if_in hE70 with ⟨h73, hE70⟩ | ⟨h73, hE70⟩
 refine gx_v (.bool true) w55 (rbE (decide_eq_true h73)) (gx_k (.bool true) w55 (gx_nil (gx_thenN ?_)))
 exact ⟨true, selfA_i (by kernel_rfl), (sj hE70), hS56⟩
 refine gx_v (.bool false) w55 (rbE (decide_eq_false h73)) (gx_k (.bool false) w55 (gx_nil (gx_thenN ?_)))
 exact ⟨false, selfA_i (by kernel_rfl), (sj hE70), hS56⟩
 rintro _ w65 ⟨b68, hq72, rfl, hS66⟩
 obtain ⟨u67, rfl⟩ := selfA_u hq72
 try dsimp only at hO71
 obtain ⟨c78, hE79, hO80⟩ := bind_in hO71
 refine gx_part (l1 := [_, _, _, _, _, _, _, _]) (fun a w => ∃ (b77 : Bool), selfA (fun u76 => ⟨((.bool false) :: (.slice A30 l29.length c31) :: (u57 2) :: (i6 x39) :: dd u57 4 3 ((vP g17) :: dd u57 8 3 ((i6 x39) :: (i6 x39) :: dd u57 13 5 ((.bool b58) :: dd u67 19 4 ((.bool b68) :: dd u76 24 7 ((.bool b77) :: un 38 ([]))))))).toArray, []⟩) a ∧ b77 = c78 ∧ St [] w0 w [poolE ft44 W45, rowE .u8 5 A19 c20 l18, eR g17 g21 A19 l18 c20, eS g21 b28, rowG 35 4 (.slice A30 l29.length c31) l29.length vs32]) rfl ?_ ?_
 refine gx_k (.bool b68) w65 ?_
 rcases b68 with _ | _
 try dsimp only at hE79
 refine gx_o (gx_o (gx_o (gx_o (gx_o (gx_o (gx_k (.bool false) w65 (gx_nil (gx_thenN ?_))))))))
 exact ⟨false, selfA_i (by kernel_rfl), (sj hE79), hS66⟩
 try dsimp only at hE79
 refine gx_k (.slice A30 l29.length c31) w65 ?_
 obtain ⟨x82, hx83, hE79⟩ := bind_in hE79
 obtain ⟨g84, o85, e86, hA87, he88, h89, ha90⟩ := elem_at (e := encapiLookup) (rowG_lies (e := encapiLookup) rfl (hS66.get 4 rfl)) hf51 hx83 (by decide)
 obtain ⟨e91, e92, rfl, h93, h94⟩ := h89
 obtain rfl := h93
 obtain ⟨e95, e96, rfl, h97, h98⟩ := h94
 obtain rfl := h97
 obtain ⟨e99, e100, rfl, h101, h102⟩ := h98
 obtain ⟨A103, c104, vs105, rfl, hf106⟩ := h101
 obtain ⟨A107, c108, vs109, rfl, hf110⟩ := h102
 have ha90 : ∀ w', Lies w' A30 vs32 → w'.rangeAt g84 o85 [u6 x82.1, u6 x82.2.1, .slice A103 ((x82.2.2.1).length) c104, .slice A107 ((x82.2.2.2).length) c108] := ha90
 refine gx_v (.pointer (some ⟨g84, o85, none⟩)) w65 (run_ixaddrN (E := 35) (s := 4) (k := .i64) (c := c31) rfl (by kernel_rfl) (by kernel_rfl) (by kernel_rfl) (fun _ => by kernel_rfl) (ixg_in hx83).1 (ixg_in hx83).2.1 hA87) (gx_k (.pointer (some ⟨g84, o85 + 2, none⟩)) w65 (gx_v (.slice A103 ((x82.2.2.1).length) c104) w65 (run_loadN1 2 rfl (by kernel_rfl) (fun _ => by kernel_rfl) (ha90 _ (rowG_lies (e := encapiLookup) rfl (hS66.get 4 rfl))) rfl) (gx_k (i6 (((x82.2.2.1).length : Nat) : Int)) w65 ?_)))
 rcases if_in hE79 with ⟨h111, hE79⟩ | ⟨h111, hE79⟩
 refine gx_v (.bool true) w65 (rbE (decide_eq_true h111)) (gx_k (.bool true) w65 (gx_nil (gx_thenN ?_)))
 exact ⟨true, selfA_i (by kernel_rfl), (sj hE79), hS66⟩
 refine gx_v (.bool false) w65 (rbE (decide_eq_false h111)) (gx_k (.bool false) w65 (gx_nil (gx_thenN ?_)))
 exact ⟨false, selfA_i (by kernel_rfl), (sj hE79), hS66⟩
 rintro _ w74 ⟨b77, hq81, rfl, hS75⟩
 obtain ⟨u76, rfl⟩ := selfA_u hq81
 try dsimp only at hO80
 obtain ⟨c116, hE117, hO118⟩ := bind_in hO80
 refine gx_part (l1 := [_, _, _, _, _, _, _, _, _, _, _]) (fun a w => ∃ (b115 : Bool), selfA (fun u114 => ⟨((.bool false) :: (.slice A30 l29.length c31) :: (u57 2) :: (i6 x39) :: dd u57 4 3 ((vP g17) :: dd u57 8 3 ((i6 x39) :: (i6 x39) :: dd u57 13 5 ((.bool b58) :: dd u67 19 4 ((.bool b68) :: dd u76 24 7 ((.bool b77) :: dd u114 32 10 ((.bool b115) :: un 27 ([])))))))).toArray, []⟩) a ∧ b115 = c116 ∧ St [] w0 w [poolE ft44 W45, rowE .u8 5 A19 c20 l18, eR g17 g21 A19 l18 c20, eS g21 b28, rowG 35 4 (.slice A30 l29.length c31) l29.length vs32]) rfl ?_ ?_
 refine gx_k (.bool b77) w74 ?_
 rcases b77 with _ | _
 try dsimp only at hE117
 refine gx_o (gx_o (gx_o (gx_o (gx_o (gx_o (gx_o (gx_o (gx_o (gx_k (.bool false) w74 (gx_nil (gx_thenN ?_)))))))))))
 exact ⟨false, selfA_i (by kernel_rfl), (sj hE117), hS75⟩
 try dsimp only at hE117
 refine gx_k (.slice A30 l29.length c31) w74 ?_
 obtain ⟨x120, hx121, hE117⟩ := bind_in hE117
 obtain ⟨g122, o123, e124, hA125, he126, h127, ha128⟩ := elem_at (e := encapiLookup) (rowG_lies (e := encapiLookup) rfl (hS75.get 4 rfl)) hf51 hx121 (by decide)
 obtain ⟨e129, e130, rfl, h131, h132⟩ := h127
 obtain rfl := h131
 obtain ⟨e133, e134, rfl, h135, h136⟩ := h132
 obtain rfl := h135
 obtain ⟨e137, e138, rfl, h139, h140⟩ := h136
 obtain ⟨A141, c142, vs143, rfl, hf144⟩ := h139
 obtain ⟨A145, c146, vs147, rfl, hf148⟩ := h140
 have ha128 : ∀ w', Lies w' A30 vs32 → w'.rangeAt g122 o123 [u6 x120.1, u6 x120.2.1, .slice A141 ((x120.2.2.1).length) c142, .slice A145 ((x120.2.2.2).length) c146] := ha128
 refine gx_v (.pointer (some ⟨g122, o123, none⟩)) w74 (run_ixaddrN (E := 35) (s := 4) (k := .i64) (c := c31) rfl (by kernel_rfl) (by kernel_rfl) (by kernel_rfl) (fun _ => by kernel_rfl) (ixg_in hx121).1 (ixg_in hx121).2.1 hA125) (gx_k (.pointer (some ⟨g122, o123 + 2, none⟩)) w74 (gx_v (.slice A141 ((x120.2.2.1).length) c142) w74 (run_loadN1 2 rfl (by kernel_rfl) (fun _ => by kernel_rfl) (ha128 _ (rowG_lies (e := encapiLookup) rfl (hS75.get 4 rfl))) rfl) ?_))
 obtain ⟨x149, hx150, hE117⟩ := bind_in hE117
 obtain ⟨g151, o152, e153, hA154, he155, h156, ha157⟩ := elem_at (e := encapiSub) (sl_lies (hS75.now 0 rfl hf144)) (sl_each hf144) hx150 (by decide)
 obtain ⟨e158, e159, rfl, h160, h161⟩ := h156
 obtain ⟨A162, c163, vs164, rfl, hf165⟩ := h160
 obtain ⟨e166, e167, rfl, h168, h169⟩ := h161
 obtain ⟨A170, c171, vs172, rfl, hf173⟩ := h168
 obtain ⟨e174, e175, rfl, h176, h177⟩ := h169
 obtain ⟨A178, c179, vs180, rfl, hf181⟩ := h176
 obtain ⟨e182, e183, rfl, h184, h185⟩ := h177
 obtain ⟨A186, c187, vs188, rfl, hf189⟩ := h184
 obtain ⟨e190, e191, rfl, h192, h193⟩ := h185
 obtain ⟨A194, c195, vs196, rfl, hf197⟩ := h192
 obtain ⟨e198, e199, rfl, h200, h201⟩ := h193
 obtain ⟨A202, c203, vs204, rfl, hf205⟩ := h200
 obtain ⟨A206, c207, vs208, rfl, hf209⟩ := h201
 have ha157 : ∀ w', Lies w' A141 vs143 → w'.rangeAt g151 o152 [.slice A162 ((x149.1).length) c163, .slice A170 ((x149.2.1).length) c171, .slice A178 ((x149.2.2.1).length) c179, .slice A186 ((x149.2.2.2.1).length) c187, .slice A194 ((x149.2.2.2.2.1).length) c195, .slice A202 ((x149.2.2.2.2.2.1).length) c203, .slice A206 ((x149.2.2.2.2.2.2).length) c207] := ha157
 refine gx_v (.pointer (some ⟨g151, o152, none⟩)) w74 (run_ixaddrN (E := 43) (s := 7) (k := .i64) (c := c142) rfl (by kernel_rfl) (by kernel_rfl) (by kernel_rfl) (fun _ => by kernel_rfl) (ixg_in hx150).1 (ixg_in hx150).2.1 hA154) (gx_k (.pointer (some ⟨g151, o152 + 2, none⟩)) w74 (gx_v (.slice A178 ((x149.2.2.1).length) c179) w74 (run_loadN1 2 rfl (by kernel_rfl) (fun _ => by kernel_rfl) (ha157 _ (sl_lies (hS75.now 0 rfl hf144))) rfl) (gx_k (i6 (((x149.2.2.1).length : Nat) : Int)) w74 ?_)))
 rcases if_in hE117 with ⟨h210, hE117⟩ | ⟨h210, hE117⟩
 refine gx_v (.bool true) w74 (rbE (decide_eq_true h210)) (gx_k (.bool true) w74 (gx_nil (gx_thenN ?_)))
 exact ⟨true, selfA_i (by kernel_rfl), (sj hE117), hS75⟩
 refine gx_v (.bool false) w74 (rbE (decide_eq_false h210)) (gx_k (.bool false) w74 (gx_nil (gx_thenN ?_)))
 exact ⟨false, selfA_i (by kernel_rfl), (sj hE117), hS75⟩
 rintro _ w112 ⟨b115, hq119, rfl, hS113⟩
 obtain ⟨u114, rfl⟩ := selfA_u hq119
 try dsimp only at hO118
 obtain ⟨c215, hE216, hO217⟩ := bind_in hO118
 refine gx_part (l1 := [_, _, _, _, _, _, _, _, _, _, _, _, _]) (fun a w => ∃ (b214 : Bool), selfA (fun u213 => ⟨((.bool false) :: (.slice A30 l29.length c31) :: (u57 2) :: (i6 x39) :: dd u57 4 3 ((vP g17) :: dd u57 8 3 ((i6 x39) :: (i6 x39) :: dd u57 13 5 ((.bool b58) :: dd u67 19 4 ((.bool b68) :: dd u76 24 7 ((.bool b77) :: dd u114 32 10 ((.bool b115) :: dd u213 43 12 ((.bool b214) :: un 14 ([]))))))))).toArray, []⟩) a ∧ b214 = c215 ∧ St [] w0 w [poolE ft44 W45, rowE .u8 5 A19 c20 l18, eR g17 g21 A19 l18 c20, eS g21 b28, rowG 35 4 (.slice A30 l29.length c31) l29.length vs32]) rfl ?_ ?_
 refine gx_k (.bool b115) w112 ?_
 rcases b115 with _ | _
 try dsimp only at hE216
 refine gx_o (gx_o (gx_o (gx_o (gx_o (gx_o (gx_o (gx_o (gx_o (gx_o (gx_o (gx_k (.bool false) w112 (gx_nil (gx_thenN ?_)))))))))))))
 exact ⟨false, selfA_i (by kernel_rfl), (sj hE216), hS113⟩
 try dsimp only at hE216
 refine gx_k (.slice A30 l29.length c31) w112 ?_
 obtain ⟨x219, hx220, hE216⟩ := bind_in hE216
 obtain ⟨g221, o222, e223, hA224, he225, h226, ha227⟩ := elem_at (e := encapiLookup) (rowG_lies (e := encapiLookup) rfl (hS113.get 4 rfl)) hf51 hx220 (by decide)
 obtain ⟨e228, e229, rfl, h230, h231⟩ := h226
 obtain rfl := h230
 obtain ⟨e232, e233, rfl, h234, h235⟩ := h231
 obtain rfl := h234
 obtain ⟨e236, e237, rfl, h238, h239⟩ := h235
 obtain ⟨A240, c241, vs242, rfl, hf243⟩ := h238
 obtain ⟨A244, c245, vs246, rfl, hf247⟩ := h239
 have ha227 : ∀ w', Lies w' A30 vs32 → w'.rangeAt g221 o222 [u6 x219.1, u6 x219.2.1, .slice A240 ((x219.2.2.1).length) c241, .slice A244 ((x219.2.2.2).length) c245] := ha227
 refine gx_v (.pointer (some ⟨g221, o222, none⟩)) w112 (run_ixaddrN (E := 35) (s := 4) (k := .i64) (c := c31) rfl (by kernel_rfl) (by kernel_rfl) (by kernel_rfl) (fun _ => by kernel_rfl) (ixg_in hx220).1 (ixg_in hx220).2.1 hA224) (gx_k (.pointer (some ⟨g221, o222 + 2, none⟩)) w112 (gx_v (.slice A240 ((x219.2.2.1).length) c241) w112 (run_loadN1 2 rfl (by kernel_rfl) (fun _ => by kernel_rfl) (ha227 _ (rowG_lies (e := encapiLookup) rfl (hS113.get 4 rfl))) rfl) ?_))
 obtain ⟨x248, hx249, hE216⟩ := bind_in hE216
 obtain ⟨g250, o251, e252, hA253, he254, h255, ha256⟩ := elem_at (e := encapiSub) (sl_lies (hS113.now 0 rfl hf243)) (sl_each hf243) hx249 (by decide)
 obtain ⟨e257, e258, rfl, h259, h260⟩ := h255
 obtain ⟨A261, c262, vs263, rfl, hf264⟩ := h259
 obtain ⟨e265, e266, rfl, h267, h268⟩ := h260
 obtain ⟨A269, c270, vs271, rfl, hf272⟩ := h267
 obtain ⟨e273, e274, rfl, h275, h276⟩ := h268
 obtain ⟨A277, c278, vs279, rfl, hf280⟩ := h275
 obtain ⟨e281, e282, rfl, h283, h284⟩ := h276
 obtain ⟨A285, c286, vs287, rfl, hf288⟩ := h283
 obtain ⟨e289, e290, rfl, h291, h292⟩ := h284
 obtain ⟨A293, c294, vs295, rfl, hf296⟩ := h291
 obtain ⟨e297, e298, rfl, h299, h300⟩ := h292
 obtain ⟨A301, c302, vs303, rfl, hf304⟩ := h299
 obtain ⟨A305, c306, vs307, rfl, hf308⟩ := h300
 have ha256 : ∀ w', Lies w' A240 vs242 → w'.rangeAt g250 o251 [.slice A261 ((x248.1).length) c262, .slice A269 ((x248.2.1).length) c270, .slice A277 ((x248.2.2.1).length) c278, .slice A285 ((x248.2.2.2.1).length) c286, .slice A293 ((x248.2.2.2.2.1).length) c294, .slice A301 ((x248.2.2.2.2.2.1).length) c302, .slice A305 ((x248.2.2.2.2.2.2).length) c306] := ha256
 refine gx_v (.pointer (some ⟨g250, o251, none⟩)) w112 (run_ixaddrN (E := 43) (s := 7) (k := .i64) (c := c241) rfl (by kernel_rfl) (by kernel_rfl) (by kernel_rfl) (fun _ => by kernel_rfl) (ixg_in hx249).1 (ixg_in hx249).2.1 hA253) (gx_k (.pointer (some ⟨g250, o251 + 2, none⟩)) w112 (gx_v (.slice A277 ((x248.2.2.1).length) c278) w112 (run_loadN1 2 rfl (by kernel_rfl) (fun _ => by kernel_rfl) (ha256 _ (sl_lies (hS113.now 0 rfl hf243))) rfl) ?_))
 obtain ⟨x309, hx310, hE216⟩ := bind_in hE216
 obtain ⟨g311, o312, e313, hA314, he315, h316, ha317⟩ := elem_at (e := (pairE (rowOf (intE .u16)) (intE .u16))) (sl_lies (hS113.now 0 rfl hf280)) (sl_each hf280) hx310 (by decide)
 obtain ⟨e318, e319, rfl, h320, h321⟩ := h316
 obtain ⟨A322, c323, vs324, rfl, hf325⟩ := h320
 obtain rfl := h321
 have ha317 : ∀ w', Lies w' A277 vs279 → w'.rangeAt g311 o312 [.slice A322 ((x309.1).length) c323, u6 x309.2] := ha317
 refine gx_v (.pointer (some ⟨g311, o312, none⟩)) w112 (run_ixaddrN (E := 62) (s := 2) (k := .i64) (c := c278) rfl (by kernel_rfl) (by kernel_rfl) (by kernel_rfl) (fun _ => by kernel_rfl) (ixg_in hx310).1 (ixg_in hx310).2.1 hA314) (gx_k (.pointer (some ⟨g311, o312 + 1, none⟩)) w112 (gx_v (u6 x309.2) w112 (run_loadN1 1 rfl (by kernel_rfl) (fun _ => by kernel_rfl) (ha317 _ (sl_lies (hS113.now 0 rfl hf280))) rfl) ?_))
 rcases if_in hE216 with ⟨h326, hE216⟩ | ⟨h326, hE216⟩
 refine gx_v (.bool true) w112 (rbE (decide_eq_true h326)) (gx_k (.bool true) w112 (gx_nil (gx_thenN ?_)))
 exact ⟨true, selfA_i (by kernel_rfl), (sj hE216), hS113⟩
 refine gx_v (.bool false) w112 (rbE (decide_eq_false h326)) (gx_k (.bool false) w112 (gx_nil (gx_thenN ?_)))
 exact ⟨false, selfA_i (by kernel_rfl), (sj hE216), hS113⟩
 rintro _ w211 ⟨b214, hq218, rfl, hS212⟩
 obtain ⟨u213, rfl⟩ := selfA_u hq218
 try dsimp only at hO217
 refine gx_k (.bool b214) w211 ?_
 rcases b214 with _ | _
 try dsimp only at hO217
 refine gx_o (gx_o (gx_o (gx_o (gx_o (gx_o (gx_o (gx_o (gx_o (gx_o (gx_o (gx_o (gx_k (.bool false) w211 (gx_k (.bool false) w211 (gx_nil (gx_thenN (hK54 _ _ (gx_ret ?_)))))))))))))))))
 obtain rfl := sj hO217
 exact gxF (.bool false) ⟨_, rfl, rfl, (hS212.pick [] rfl rfl)⟩
 try dsimp only at hO217
 refine gx_k (.slice A30 l29.length c31) w211 ?_
 obtain ⟨x327, hx328, hO217⟩ := bind_in hO217
 obtain ⟨g329, o330, e331, hA332, he333, h334, ha335⟩ := elem_at (e := encapiLookup) (rowG_lies (e := encapiLookup) rfl (hS212.get 4 rfl)) hf51 hx328 (by decide)
 obtain ⟨e336, e337, rfl, h338, h339⟩ := h334
 obtain rfl := h338
 obtain ⟨e340, e341, rfl, h342, h343⟩ := h339
 obtain rfl := h342
 obtain ⟨e344, e345, rfl, h346, h347⟩ := h343
 obtain ⟨A348, c349, vs350, rfl, hf351⟩ := h346
 obtain ⟨A352, c353, vs354, rfl, hf355⟩ := h347
 have ha335 : ∀ w', Lies w' A30 vs32 → w'.rangeAt g329 o330 [u6 x327.1, u6 x327.2.1, .slice A348 ((x327.2.2.1).length) c349, .slice A352 ((x327.2.2.2).length) c353] := ha335
 refine gx_v (.pointer (some ⟨g329, o330, none⟩)) w211 (run_ixaddrN (E := 35) (s := 4) (k := .i64) (c := c31) rfl (by kernel_rfl) (by kernel_rfl) (by kernel_rfl) (fun _ => by kernel_rfl) (ixg_in hx328).1 (ixg_in hx328).2.1 hA332) (gx_k (.pointer (some ⟨g329, o330 + 2, none⟩)) w211 (gx_v (.slice A348 ((x327.2.2.1).length) c349) w211 (run_loadN1 2 rfl (by kernel_rfl) (fun _ => by kernel_rfl) (ha335 _ (rowG_lies (e := encapiLookup) rfl (hS212.get 4 rfl))) rfl) ?_))
 obtain ⟨x356, hx357, hO217⟩ := bind_in hO217
 obtain ⟨g358, o359, e360, hA361, he362, h363, ha364⟩ := elem_at (e := encapiSub) (sl_lies (hS212.now 0 rfl hf351)) (sl_each hf351) hx357 (by decide)
 obtain ⟨e365, e366, rfl, h367, h368⟩ := h363
 obtain ⟨A369, c370, vs371, rfl, hf372⟩ := h367
 obtain ⟨e373, e374, rfl, h375, h376⟩ := h368
 obtain ⟨A377, c378, vs379, rfl, hf380⟩ := h375
 obtain ⟨e381, e382, rfl, h383, h384⟩ := h376
 obtain ⟨A385, c386, vs387, rfl, hf388⟩ := h383
 obtain ⟨e389, e390, rfl, h391, h392⟩ := h384
 obtain ⟨A393, c394, vs395, rfl, hf396⟩ := h391
 obtain ⟨e397, e398, rfl, h399, h400⟩ := h392
 obtain ⟨A401, c402, vs403, rfl, hf404⟩ := h399
 obtain ⟨e405, e406, rfl, h407, h408⟩ := h400
 obtain ⟨A409, c410, vs411, rfl, hf412⟩ := h407
 obtain ⟨A413, c414, vs415, rfl, hf416⟩ := h408
 have ha364 : ∀ w', Lies w' A348 vs350 → w'.rangeAt g358 o359 [.slice A369 ((x356.1).length) c370, .slice A377 ((x356.2.1).length) c378, .slice A385 ((x356.2.2.1).length) c386, .slice A393 ((x356.2.2.2.1).length) c394, .slice A401 ((x356.2.2.2.2.1).length) c402, .slice A409 ((x356.2.2.2.2.2.1).length) c410, .slice A413 ((x356.2.2.2.2.2.2).length) c414] := ha364
 refine gx_v (.pointer (some ⟨g358, o359, none⟩)) w211 (run_ixaddrN (E := 43) (s := 7) (k := .i64) (c := c349) rfl (by kernel_rfl) (by kernel_rfl) (by kernel_rfl) (fun _ => by kernel_rfl) (ixg_in hx357).1 (ixg_in hx357).2.1 hA361) (gx_k (.pointer (some ⟨g358, o359 + 2, none⟩)) w211 (gx_v (.slice A385 ((x356.2.2.1).length) c386) w211 (run_loadN1 2 rfl (by kernel_rfl) (fun _ => by kernel_rfl) (ha364 _ (sl_lies (hS212.now 0 rfl hf351))) rfl) ?_))
 obtain ⟨x417, hx418, hO217⟩ := bind_in hO217
 obtain ⟨g419, o420, e421, hA422, he423, h424, ha425⟩ := elem_at (e := (pairE (rowOf (intE .u16)) (intE .u16))) (sl_lies (hS212.now 0 rfl hf388)) (sl_each hf388) hx418 (by decide)
 obtain ⟨e426, e427, rfl, h428, h429⟩ := h424
 obtain ⟨A430, c431, vs432, rfl, hf433⟩ := h428
 obtain rfl := h429
 have ha425 : ∀ w', Lies w' A385 vs387 → w'.rangeAt g419 o420 [.slice A430 ((x417.1).length) c431, u6 x417.2] := ha425
 refine gx_v (.pointer (some ⟨g419, o420, none⟩)) w211 (run_ixaddrN (E := 62) (s := 2) (k := .i64) (c := c386) rfl (by kernel_rfl) (by kernel_rfl) (by kernel_rfl) (fun _ => by kernel_rfl) (ixg_in hx418).1 (ixg_in hx418).2.1 hA422) (gx_k (.pointer (some ⟨g419, o420, none⟩)) w211 (gx_v (.slice A430 ((x417.1).length) c431) w211 (run_loadN1 0 rfl (by kernel_rfl) (fun _ => by kernel_rfl) (ha425 _ (sl_lies (hS212.now 0 rfl hf388))) rfl) (gx_r (st_made .u16 31 [5, 6] hS212 (by show 2 ≤ 1000000000; decide) (by kernel_rfl)) ?_)))
 rintro _ w434 ⟨rfl, hS435⟩
 have hS435 : St _ _ w434 [poolE ft44 W45, rowE .u8 5 A19 c20 l18, eR g17 g21 A19 l18 c20, eS g21 b28, rowG 35 4 (.slice A30 l29.length c31) l29.length vs32, rowE .u16 31 (some ⟨w211.heap.size, 0, none⟩) 2 ([5, 6])] := hS435
 have hP436 : St _ _ w434 ([] ++ [poolE ft44 W45, rowE .u8 5 A19 c20 l18, eR g17 g21 A19 l18 c20, eS g21 b28, rowG 35 4 (.slice A30 l29.length c31) l29.length vs32, rowE .u16 31 (some ⟨w211.heap.size, 0, none⟩) 2 ([5, 6])]) := hS435
 obtain ⟨b438, hc437, hO217⟩ := bind_in hO217
 try dsimp only at hO217
 refine gx_c _ (kSameW_ok N x417.1 ([5, 6]) A430 c431 (some ⟨w211.heap.size, 0, none⟩) 2 _ hc437 w434 (St.vwF (hP436.offPA 0 rfl) (hS435.now 0 rfl hf433)) (hP436.vwB 5 rfl)) ?_
 rintro _ w439 ⟨rfl, hT441⟩
 have hS440 : St _ _ w439 [poolE ft44 W45, rowE .u8 5 A19 c20 l18, eR g17 g21 A19 l18 c20, eS g21 b28, rowG 35 4 (.slice A30 l29.length c31) l29.length vs32, rowE .u16 31 (some ⟨w211.heap.size, 0, none⟩) 2 ([5, 6])] := hS435.take _ hT441
 refine gx_k (.bool b438) w439 (gx_k (.bool b438) w439 (gx_nil (gx_thenN (hK54 _ _ (gx_ret ?_)))))
 obtain rfl := sj hO217
 exact gxF (.bool b438) ⟨_, rfl, rfl, (hS440.pick [] rfl rfl)⟩
def fGRight_L2 (N : Nat) (p1 : Int) (l32 : List (Int × Int × (List ((List (Int × Int)) × (List (Int × List Int)) × (List (List Int × Int)) × List (List Int) × List (List Int) × List (List Int) × List (Int × Int))) × List ((List (Int × Int × Int)) × (List (Int × Int × Int × Int)) × List (Int × List (Bool × Int × Int))))) (x82 : Int) : Nat → Int → Option (Ctl (Unit) (Bool))
 | 0, _ => none
 | k102+1, x101 => ((ixg l32 x82).bind fun x108 => (if x101 < (((x108.2.2.1).length : Nat) : Int) then ((ixg l32 x82).bind fun x144 => ((ixg l32 x82).bind fun x173 => ((ixg x173.2.2.1 x101).bind fun x202 => ((kRightSub N x144.1 x202.1 x202.2.1 x202.2.2.1 x202.2.2.2.1 x202.2.2.2.2.1 x202.2.2.2.2.2.1 x202.2.2.2.2.2.2 p1 ((l32.length : Nat) : Int)).bind fun b265 => (match b265 with | true => fGRight_L2 N p1 l32 x82 k102 (IntKind.i64.wrap (x101 + 1)) | false => some (Ctl.ret false)))))) else some (Ctl.go ())))
def fGRight_L1 (N : Nat) (p1 : Int) (l32 : List (Int × Int × (List ((List (Int × Int)) × (List (Int × List Int)) × (List (List Int × Int)) × List (List Int) × List (List Int) × List (List Int) × List (Int × Int))) × List ((List (Int × Int × Int)) × (List (Int × Int × Int × Int)) × List (Int × List (Bool × Int × Int))))) : Nat → Int → Option (Ctl (Unit) (Bool))
 | 0, _ => none
 | k83+1, x82 => (if x82 < ((l32.length : Nat) : Int) then ((fGRight_L2 N p1 l32 x82 N 0 : Option (Ctl (Unit) (Bool))).bind fun | Ctl.go () => fGRight_L1 N p1 l32 k83 (IntKind.i64.wrap (x82 + 1)) | Ctl.ret r => some (Ctl.ret r)) else some (Ctl.go ()))
def fGRight (N : Nat) (p0 : List Int) (p1 : Int) : Option (Bool) :=
 (if ((p0.length : Nat) : Int) > 3000 then ((fWorks7 N ).bind fun b12 => some b12) else ((qOpen N p0).bind fun (l21, b25) => ((gParse N l21 b25 p1).bind fun (l32, l37, x42, _b31) => (if x42 ≠ 0 then (if ((l32.length : Nat) : Int) = 0 then (if ((l37.length : Nat) : Int) = 0 then ((fWorks7 N ).bind fun b67 => some b67) else some false) else some false) else ((fGRight_L1 N p1 l32 N 0 : Option (Ctl (Unit) (Bool))).bind fun | Ctl.go () => ((kRightL N l32 p1 true).bind fun b278 => (match b278 with | true => ((kRightF N l37 ((l32.length : Nat) : Int)).bind fun b284 => (match b284 with | true => ((fWorks7 N ).bind fun b290 => some b290) | false => some false)) | false => some false)) | Ctl.ret r => some r)))))
def fGRight_R (r : Bool) (w0 : World) (v : Value) (w : World) : Prop := v = .bool r ∧ St [] w0 w []
theorem fGRight_ok (N : Nat) (p0 : List Int) (p1 : Int) (A0 : Option Addr) (c0 : Nat) (r : Bool) (hF : fGRight N p0 p1 = some r) (w0 : World) (hv0 : Vw [] .u8 w0 A0 c0 p0) :
  Calls Try.prog 3 #[.slice A0 p0.length c0, .int .i64 p1] w0 fun e w => ∃ v, e = .returned v ∧ fGRight_R r w0 v w := by
 have hS0 := (St.start w0).pool0
 unfold fGRight at hF
 refine calls_of Try.func3 rfl ⟨((.slice A0 p0.length c0) :: (i6 p1) :: un 79 ([])).toArray, []⟩ (by kernel_rfl) (gx_seq (fun K1 hK2 => gx_region (gx_k (.bool false) w0 (gx_nil (gx_thenN (hK2 _ _ (gx_seq (fun K3 hK4 => ?_))))))))
 refine gx_seq (fun K5 hK6 => gx_region (gx_k (.slice A0 p0.length c0) w0 (gx_k (i6 ((p0.length : Nat) : Int)) w0 ?_)))
 rcases if_in hF with ⟨h7, hF⟩ | ⟨h7, hF⟩
 refine gx_v (.bool true) w0 (rbE (decide_eq_true h7)) (gx_nil (gx_thenN (hK6 _ _ (gx_yes (by kernel_rfl) (gx_seq (fun K8 hK9 => gx_region ?_))))))
 have hP10 : St _ _ w0 ([] ++ [poolE ([]) w0]) := hS0
 obtain ⟨b12, hc11, hF⟩ := bind_in hF
 try dsimp only at hF
 refine gx_c _ (fWorks7_ok N  _ hc11 w0 ) ?_
 rintro _ w13 ⟨rfl, hT15⟩
 have hS14 : St _ _ w13 [poolE ([]) w0] := hS0.take _ hT15
 refine gx_k (.bool b12) w13 (gx_nil (gx_thenN (hK9 _ _ (gx_ret (gx_thenR ?_)))))
 obtain rfl := sj hF
 exact gxF (.bool b12) ⟨_, rfl, rfl, (hS14.pick [] rfl rfl)⟩
 refine gx_v (.bool false) w0 (rbE (decide_eq_false h7)) (gx_nil (gx_thenN (hK6 _ _ (gx_no (by kernel_rfl) (gx_pass (gx_thenN (hK4 _ _ ?_)))))))
 refine gx_seq (fun K16 hK17 => gx_region (gx_k (.slice A0 p0.length c0) w0 ?_))
 have hP18 : St _ _ w0 ([] ++ [poolE ([]) w0]) := hS0
 obtain ⟨⟨l21, b25⟩, hc19, hF⟩ := bind_in hF
 try dsimp only at hF
 refine gx_c _ (qOpen_ok N p0 A0 c0 _ hc19 w0 (hP18.vwA hv0)) ?_
 rintro _ w26 ⟨g20, A22, c23, g24, rfl, hT28⟩
 have hS27 : St _ _ w26 [poolE ([]) w0, eR g20 g24 A22 l21 c23, rowE .u8 5 A22 c23 l21, eS g24 b25] := hS0.take _ hT28
 refine gx_k (i6 p1) w26 ?_
 have hP29 : St _ _ w26 ([eR g20 g24 A22 l21 c23, eS g24 b25] ++ [poolE ([]) w0, rowE .u8 5 A22 c23 l21]) := hS27.pick [1, 3, 0, 2] rfl rfl
 obtain ⟨⟨l32, l37, x42, b31⟩, hc30, hF⟩ := bind_in hF
 try dsimp only at hF
 refine gx_c _ (gParse_ok N l21 b25 p1 g20 A22 c23 g24 _ hc30 w26 (hP29.vwB 1 rfl) hP29.part) ?_
 rintro _ w44 ⟨A33, c34, vs35, A38, c39, vs40, ft43, rfl, hT46, hf36, hf41⟩
 have hS45 : St _ _ w44 [poolE ([]) w0, rowE .u8 5 A22 c23 l21, eR g20 g24 A22 l21 c23, eS g24 b31, rowG 35 4 (.slice A33 l32.length c34) l32.length vs35, rowG 52 5 (.slice A38 l37.length c39) l37.length vs40, poolE ft43 w44] := hP29.lendN _ hT46
 obtain ⟨ft47, W48, hS49, hT50, hU51⟩ := hS45.merge 6 0 rfl rfl (by decide)
 have hS49 : St _ _ w44 [poolE ft47 W48, rowE .u8 5 A22 c23 l21, eR g20 g24 A22 l21 c23, eS g24 b31, rowG 35 4 (.slice A33 l32.length c34) l32.length vs35, rowG 52 5 (.slice A38 l37.length c39) l37.length vs40] := hS49
 have hT50 : Turn [] w0 w0 ([]) W48 ft47 := hT50
 have hf54 : (fEach encapiLookup vs35 l32).rd W48 ft47 := hU51 _ hf36
 have hf55 : (fEach (pairE encapiTag (rowOf (intE .i64))) vs40 l37).rd W48 ft47 := hU51 _ hf41
 refine gx_k (.tuple #[.slice A33 l32.length c34, .slice A38 l37.length c39, i6 x42]) w44 (gx_k (.slice A33 l32.length c34) w44 (gx_k (.slice A38 l37.length c39) w44 (gx_k (i6 x42) w44 (gx_k (.slice A33 l32.length c34) w44 (gx_k (.slice A38 l37.length c39) w44 (gx_k (i6 x42) w44 (gx_nil (gx_thenN (hK17 _ _ (gx_seq (fun K56 hK57 => gx_seq (fun K58 hK59 => gx_region (gx_k (i6 x42) w44 ?_)))))))))))))
 rcases if_in hF with ⟨h60, hF⟩ | ⟨h60, hF⟩
 refine gx_v (.bool true) w44 (rbE (ne_yes h60)) (gx_nil (gx_thenN (hK59 _ _ (gx_yes (by kernel_rfl) (gx_seq (fun K61 hK62 => gx_region (gx_k (.slice A33 l32.length c34) w44 (gx_k (i6 ((l32.length : Nat) : Int)) w44 ?_))))))))
 rcases if_in hF with ⟨h63, hF⟩ | ⟨h63, hF⟩
 refine gx_v (.bool true) w44 (rbE (decide_eq_true h63)) (gx_k (.bool true) w44 (gx_k (.slice A38 l37.length c39) w44 (gx_k (i6 ((l37.length : Nat) : Int)) w44 ?_)))
 rcases if_in hF with ⟨h64, hF⟩ | ⟨h64, hF⟩
 refine gx_v (.bool true) w44 (rbE (decide_eq_true h64)) (gx_k (.bool true) w44 (gx_k (.bool true) w44 ?_))
 have hP65 : St _ _ w44 ([] ++ [poolE ft47 W48, rowE .u8 5 A22 c23 l21, eR g20 g24 A22 l21 c23, eS g24 b31, rowG 35 4 (.slice A33 l32.length c34) l32.length vs35, rowG 52 5 (.slice A38 l37.length c39) l37.length vs40]) := hS49
 obtain ⟨b67, hc66, hF⟩ := bind_in hF
 try dsimp only at hF
 refine gx_c _ (fWorks7_ok N  _ hc66 w44 ) ?_
 rintro _ w68 ⟨rfl, hT70⟩
 have hS69 : St _ _ w68 [poolE ft47 W48, rowE .u8 5 A22 c23 l21, eR g20 g24 A22 l21 c23, eS g24 b31, rowG 35 4 (.slice A33 l32.length c34) l32.length vs35, rowG 52 5 (.slice A38 l37.length c39) l37.length vs40] := hS49.take _ hT70
 refine gx_k (.bool b67) w68 (gx_k (.bool b67) w68 (gx_nil (gx_thenN (hK62 _ _ (gx_ret (gx_thenR ?_))))))
 obtain rfl := sj hF
 exact gxF (.bool b67) ⟨_, rfl, rfl, (hS69.pick [] rfl rfl)⟩
 refine gx_v (.bool false) w44 (rbE (decide_eq_false h64)) (gx_k (.bool false) w44 (gx_k (.bool false) w44 (gx_o (gx_k (.bool false) w44 (gx_k (.bool false) w44 (gx_nil (gx_thenN (hK62 _ _ (gx_ret (gx_thenR ?_))))))))))
 obtain rfl := sj hF
 exact gxF (.bool false) ⟨_, rfl, rfl, (hS49.pick [] rfl rfl)⟩
 refine gx_v (.bool false) w44 (rbE (decide_eq_false h63)) (gx_k (.bool false) w44 (gx_o (gx_o (gx_o (gx_k (.bool false) w44 (gx_k (.bool false) w44 (gx_o (gx_k (.bool false) w44 (gx_k (.bool false) w44 (gx_nil (gx_thenN (hK62 _ _ (gx_ret (gx_thenR ?_))))))))))))))
 obtain rfl := sj hF
 exact gxF (.bool false) ⟨_, rfl, rfl, (hS49.pick [] rfl rfl)⟩
 refine gx_v (.bool false) w44 (rbE (ne_no h60)) (gx_nil (gx_thenN (hK59 _ _ (gx_no (by kernel_rfl) (gx_pass (gx_thenN (hK57 _ _ ?_)))))))
 obtain ⟨c74, hE75, hO76⟩ := bind_in hF
 refine gx_cut (fun a w => selfA (fun u73 => ⟨((u73 0) :: (i6 p1) :: undef :: undef :: (u73 4) :: (.slice A33 l32.length c34) :: (.slice A38 l37.length c39) :: (i6 x42) :: dd u73 8 3 ((i6 ((p0.length : Nat) : Int)) :: (.bool false) :: undef :: dd u73 14 2 ((vP g20) :: (i6 p1) :: dd u73 18 3 ((i6 x42) :: (i6 x42) :: (.bool false) :: un 11 (dd u73 35 34 (un 12 ([]))))))).toArray, []⟩) a ∧ Ctl.go () = c74 ∧ St [] w0 w [poolE ft47 W48, rowE .u8 5 A22 c23 l21, eR g20 g24 A22 l21 c23, eS g24 b31, rowG 35 4 (.slice A33 l32.length c34) l32.length vs35, rowG 52 5 (.slice A38 l37.length c39) l37.length vs40]) ?_ ?_
 refine gx_seq (fun K77 hK78 => gx_region (gx_k (i6 0) w44 (gx_nil (gx_thenN (hK78 _ _ (gx_block (gx_loop (fun k a w => ∃ (x82 : Int), selfA (fun u81 => ⟨((u81 0) :: (i6 p1) :: undef :: undef :: (u81 4) :: (.slice A33 l32.length c34) :: (.slice A38 l37.length c39) :: (i6 x42) :: (i6 x82) :: dd u81 9 2 ((i6 ((p0.length : Nat) : Int)) :: (.bool false) :: undef :: dd u81 14 2 ((vP g20) :: (i6 p1) :: dd u81 18 3 ((i6 x42) :: (i6 x42) :: (.bool false) :: un 11 (dd u81 35 34 (un 12 ([]))))))).toArray, []⟩) a ∧ fGRight_L1 N p1 l32 k x82 = some c74 ∧ St [] w0 w [poolE ft47 W48, rowE .u8 5 A22 c23 l21, eR g20 g24 A22 l21 c23, eS g24 b31, rowG 35 4 (.slice A33 l32.length c34) l32.length vs35, rowG 52 5 (.slice A38 l37.length c39) l37.length vs40]) N ?_ ?_)))))))
 exact ⟨0, selfA_i (by kernel_rfl), hE75, hS49⟩
 rintro k83 _ w79 ⟨x82, hq273, hL84, hS80⟩
 obtain ⟨u81, rfl⟩ := selfA_u hq273
 rcases k83 with _ | k83
 cases hL84
 first | rw [fGRight_L1] at hL84 | unfold fGRight_L1 at hL84
 refine gx_seq (fun K85 hK86 => gx_seq (fun K87 hK88 => gx_region (gx_k (i6 x82) w79 (gx_k (.slice A33 l32.length c34) w79 (gx_k (i6 ((l32.length : Nat) : Int)) w79 ?_)))))
 rcases if_in hL84 with ⟨h89, hL84⟩ | ⟨h89, hL84⟩
 refine gx_v (.bool true) w79 (rbE (decide_eq_true h89)) (gx_nil (gx_thenN (hK88 _ _ (gx_yes (by kernel_rfl) (gx_pass (gx_thenN (hK86 _ _ ?_)))))))
 obtain ⟨c93, hE94, hO95⟩ := bind_in hL84
 refine gx_cut (fun a w => selfA (fun u92 => ⟨((u81 0) :: (i6 p1) :: undef :: undef :: (u92 4) :: (.slice A33 l32.length c34) :: (.slice A38 l37.length c39) :: (i6 x42) :: (i6 x82) :: (u92 9) :: (u81 10) :: (i6 ((p0.length : Nat) : Int)) :: (.bool false) :: undef :: dd u81 14 2 ((vP g20) :: (i6 p1) :: dd u81 18 3 ((i6 x42) :: (i6 x42) :: (.bool false) :: un 11 ((i6 x82) :: (u92 36) :: (i6 ((l32.length : Nat) : Int)) :: (.bool true) :: dd u81 39 2 (dd u92 41 28 (un 12 ([]))))))).toArray, []⟩) a ∧ Ctl.go () = c93 ∧ St [] w0 w [poolE ft47 W48, rowE .u8 5 A22 c23 l21, eR g20 g24 A22 l21 c23, eS g24 b31, rowG 35 4 (.slice A33 l32.length c34) l32.length vs35, rowG 52 5 (.slice A38 l37.length c39) l37.length vs40]) ?_ ?_
 refine gx_block (gx_seq (fun K96 hK97 => gx_region (gx_k (i6 0) w79 (gx_nil (gx_thenN (hK97 _ _ (gx_block ?_)))))))
 refine gx_loop (fun k a w => ∃ (x101 : Int), selfA (fun u100 => ⟨((u81 0) :: (i6 p1) :: undef :: undef :: (u100 4) :: (.slice A33 l32.length c34) :: (.slice A38 l37.length c39) :: (i6 x42) :: (i6 x82) :: (i6 x101) :: (u81 10) :: (i6 ((p0.length : Nat) : Int)) :: (.bool false) :: undef :: dd u81 14 2 ((vP g20) :: (i6 p1) :: dd u81 18 3 ((i6 x42) :: (i6 x42) :: (.bool false) :: un 11 ((i6 x82) :: (u100 36) :: (i6 ((l32.length : Nat) : Int)) :: (.bool true) :: dd u81 39 2 (dd u100 41 28 (un 12 ([]))))))).toArray, []⟩) a ∧ fGRight_L2 N p1 l32 x82 k x101 = some c93 ∧ St [] w0 w [poolE ft47 W48, rowE .u8 5 A22 c23 l21, eR g20 g24 A22 l21 c23, eS g24 b31, rowG 35 4 (.slice A33 l32.length c34) l32.length vs35, rowG 52 5 (.slice A38 l37.length c39) l37.length vs40]) N ?_ ?_
 exact ⟨0, selfA_i (by kernel_rfl), hE94, hS80⟩
 rintro k102 _ w98 ⟨x101, hq271, hL103, hS99⟩
 obtain ⟨u100, rfl⟩ := selfA_u hq271
 rcases k102 with _ | k102
 cases hL103
 first | rw [fGRight_L2] at hL103 | unfold fGRight_L2 at hL103
 refine gx_seq (fun K104 hK105 => gx_seq (fun K106 hK107 => gx_region (gx_k (i6 x101) w98 (gx_k (.slice A33 l32.length c34) w98 (gx_k (i6 x82) w98 ?_)))))
 obtain ⟨x108, hx109, hL103⟩ := bind_in hL103
 obtain ⟨g110, o111, e112, hA113, he114, h115, ha116⟩ := elem_at (e := encapiLookup) (rowG_lies (e := encapiLookup) rfl (hS99.get 4 rfl)) hf54 hx109 (by decide)
 obtain ⟨e117, e118, rfl, h119, h120⟩ := h115
 obtain rfl := h119
 obtain ⟨e121, e122, rfl, h123, h124⟩ := h120
 obtain rfl := h123
 obtain ⟨e125, e126, rfl, h127, h128⟩ := h124
 obtain ⟨A129, c130, vs131, rfl, hf132⟩ := h127
 obtain ⟨A133, c134, vs135, rfl, hf136⟩ := h128
 have ha116 : ∀ w', Lies w' A33 vs35 → w'.rangeAt g110 o111 [u6 x108.1, u6 x108.2.1, .slice A129 ((x108.2.2.1).length) c130, .slice A133 ((x108.2.2.2).length) c134] := ha116
 refine gx_v (.pointer (some ⟨g110, o111, none⟩)) w98 (run_ixaddrN (E := 35) (s := 4) (k := .i64) (c := c34) rfl (by kernel_rfl) (by kernel_rfl) (by kernel_rfl) (fun _ => by kernel_rfl) (ixg_in hx109).1 (ixg_in hx109).2.1 hA113) (gx_k (.pointer (some ⟨g110, o111 + 2, none⟩)) w98 (gx_v (.slice A129 ((x108.2.2.1).length) c130) w98 (run_loadN1 2 rfl (by kernel_rfl) (fun _ => by kernel_rfl) (ha116 _ (rowG_lies (e := encapiLookup) rfl (hS99.get 4 rfl))) rfl) (gx_k (i6 (((x108.2.2.1).length : Nat) : Int)) w98 ?_)))
 rcases if_in hL103 with ⟨h137, hL103⟩ | ⟨h137, hL103⟩
 refine gx_v (.bool true) w98 (rbE (decide_eq_true h137)) (gx_nil (gx_thenN (hK107 _ _ (gx_yes (by kernel_rfl) (gx_pass (gx_thenN (hK105 _ _ ?_)))))))
 refine gx_seq (fun K138 hK139 => gx_block (gx_seq (fun K140 hK141 => gdst (fun w => St [] w0 w [poolE ft47 W48, rowE .u8 5 A22 c23 l21, eR g20 g24 A22 l21 c23, eS g24 b31, rowG 35 4 (.slice A33 l32.length c34) l32.length vs35, rowG 52 5 (.slice A38 l37.length c39) l37.length vs40]) 18 ?_)))
 have hS143 := hS99.drew
 generalize w98.drew = w142 at hS143 ⊢
 refine gv1 0 51 (.slice A33 l32.length c34) rfl hS143 (gv1 1 52 (i6 x82) rfl hS143 ?_)
 obtain ⟨x144, hx145, hL103⟩ := bind_in hL103
 obtain ⟨g146, o147, e148, hA149, he150, h151, ha152⟩ := elem_at (e := encapiLookup) (rowG_lies (e := encapiLookup) rfl (hS143.get 4 rfl)) hf54 hx145 (by decide)
 obtain ⟨e153, e154, rfl, h155, h156⟩ := h151
 obtain rfl := h155
 obtain ⟨e157, e158, rfl, h159, h160⟩ := h156
 obtain rfl := h159
 obtain ⟨e161, e162, rfl, h163, h164⟩ := h160
 obtain ⟨A165, c166, vs167, rfl, hf168⟩ := h163
 obtain ⟨A169, c170, vs171, rfl, hf172⟩ := h164
 have ha152 : ∀ w', Lies w' A33 vs35 → w'.rangeAt g146 o147 [u6 x144.1, u6 x144.2.1, .slice A165 ((x144.2.2.1).length) c166, .slice A169 ((x144.2.2.2).length) c170] := ha152
 refine gu1 2 53 (.pointer (some ⟨g146, o147, none⟩)) rfl hS143 (fun w hSw => run_ixaddrN (E := 35) (s := 4) (k := .i64) (c := c34) rfl (by kernel_rfl) (by kernel_rfl) (by kernel_rfl) (fun _ => by kernel_rfl) (ixg_in hx145).1 (ixg_in hx145).2.1 hA149) (gv1 3 54 (.pointer (some ⟨g146, o147, none⟩)) rfl hS143 (gu1 4 55 (u6 x144.1) rfl hS143 (fun w hSw => run_loadN1 0 rfl (by kernel_rfl) (fun _ => by kernel_rfl) (ha152 _ (rowG_lies (e := encapiLookup) rfl (hSw.get 4 rfl))) rfl) (gv1 5 56 (.slice A33 l32.length c34) rfl hS143 (gv1 6 57 (i6 x82) rfl hS143 ?_))))
 obtain ⟨x173, hx174, hL103⟩ := bind_in hL103
 obtain ⟨g175, o176, e177, hA178, he179, h180, ha181⟩ := elem_at (e := encapiLookup) (rowG_lies (e := encapiLookup) rfl (hS143.get 4 rfl)) hf54 hx174 (by decide)
 obtain ⟨e182, e183, rfl, h184, h185⟩ := h180
 obtain rfl := h184
 obtain ⟨e186, e187, rfl, h188, h189⟩ := h185
 obtain rfl := h188
 obtain ⟨e190, e191, rfl, h192, h193⟩ := h189
 obtain ⟨A194, c195, vs196, rfl, hf197⟩ := h192
 obtain ⟨A198, c199, vs200, rfl, hf201⟩ := h193
 have ha181 : ∀ w', Lies w' A33 vs35 → w'.rangeAt g175 o176 [u6 x173.1, u6 x173.2.1, .slice A194 ((x173.2.2.1).length) c195, .slice A198 ((x173.2.2.2).length) c199] := ha181
 refine gu1 7 58 (.pointer (some ⟨g175, o176, none⟩)) rfl hS143 (fun w hSw => run_ixaddrN (E := 35) (s := 4) (k := .i64) (c := c34) rfl (by kernel_rfl) (by kernel_rfl) (by kernel_rfl) (fun _ => by kernel_rfl) (ixg_in hx174).1 (ixg_in hx174).2.1 hA178) (gv1 8 59 (.pointer (some ⟨g175, o176 + 2, none⟩)) rfl hS143 (gu1 9 60 (.slice A194 ((x173.2.2.1).length) c195) rfl hS143 (fun w hSw => run_loadN1 2 rfl (by kernel_rfl) (fun _ => by kernel_rfl) (ha181 _ (rowG_lies (e := encapiLookup) rfl (hSw.get 4 rfl))) rfl) (gv1 10 61 (i6 x101) rfl hS143 ?_)))
 obtain ⟨x202, hx203, hL103⟩ := bind_in hL103
 obtain ⟨g204, o205, e206, hA207, he208, h209, ha210⟩ := elem_at (e := encapiSub) (sl_lies (hS143.now 0 rfl hf197)) (sl_each hf197) hx203 (by decide)
 obtain ⟨e211, e212, rfl, h213, h214⟩ := h209
 obtain ⟨A215, c216, vs217, rfl, hf218⟩ := h213
 obtain ⟨e219, e220, rfl, h221, h222⟩ := h214
 obtain ⟨A223, c224, vs225, rfl, hf226⟩ := h221
 obtain ⟨e227, e228, rfl, h229, h230⟩ := h222
 obtain ⟨A231, c232, vs233, rfl, hf234⟩ := h229
 obtain ⟨e235, e236, rfl, h237, h238⟩ := h230
 obtain ⟨A239, c240, vs241, rfl, hf242⟩ := h237
 obtain ⟨e243, e244, rfl, h245, h246⟩ := h238
 obtain ⟨A247, c248, vs249, rfl, hf250⟩ := h245
 obtain ⟨e251, e252, rfl, h253, h254⟩ := h246
 obtain ⟨A255, c256, vs257, rfl, hf258⟩ := h253
 obtain ⟨A259, c260, vs261, rfl, hf262⟩ := h254
 have ha210 : ∀ w', Lies w' A194 vs196 → w'.rangeAt g204 o205 [.slice A215 ((x202.1).length) c216, .slice A223 ((x202.2.1).length) c224, .slice A231 ((x202.2.2.1).length) c232, .slice A239 ((x202.2.2.2.1).length) c240, .slice A247 ((x202.2.2.2.2.1).length) c248, .slice A255 ((x202.2.2.2.2.2.1).length) c256, .slice A259 ((x202.2.2.2.2.2.2).length) c260] := ha210
 refine gu1 11 62 (.pointer (some ⟨g204, o205, none⟩)) rfl hS143 (fun w hSw => run_ixaddrN (E := 43) (s := 7) (k := .i64) (c := c195) rfl (by kernel_rfl) (by kernel_rfl) (by kernel_rfl) (fun _ => by kernel_rfl) (ixg_in hx203).1 (ixg_in hx203).2.1 hA207) (gu1 12 63 (.agg #[.slice A215 ((x202.1).length) c216, .slice A223 ((x202.2.1).length) c224, .slice A231 ((x202.2.2.1).length) c232, .slice A239 ((x202.2.2.2.1).length) c240, .slice A247 ((x202.2.2.2.2.1).length) c248, .slice A255 ((x202.2.2.2.2.2.1).length) c256, .slice A259 ((x202.2.2.2.2.2.2).length) c260]) rfl hS143 (fun w hSw => run_loadNG (d := _) (ec := [.slice A215 ((x202.1).length) c216, .slice A223 ((x202.2.1).length) c224, .slice A231 ((x202.2.2.1).length) c232, .slice A239 ((x202.2.2.2.1).length) c240, .slice A247 ((x202.2.2.2.2.1).length) c248, .slice A255 ((x202.2.2.2.2.2.1).length) c256, .slice A259 ((x202.2.2.2.2.2.2).length) c260]) rfl (by kernel_rfl) (ha210 _ (sl_lies (hSw.now 0 rfl hf197))) rfl rfl (by kernel_rfl)) (gv1 13 64 (i6 p1) rfl hS143 (gv1 14 65 (.slice A33 l32.length c34) rfl hS143 (gv1 15 66 (i6 ((l32.length : Nat) : Int)) rfl hS143 ?_))))
 have hP263 : St _ _ w142 ([] ++ [poolE ft47 W48, rowE .u8 5 A22 c23 l21, eR g20 g24 A22 l21 c23, eS g24 b31, rowG 35 4 (.slice A33 l32.length c34) l32.length vs35, rowG 52 5 (.slice A38 l37.length c39) l37.length vs40]) := hS143
 obtain ⟨b265, hc264, hL103⟩ := bind_in hL103
 try dsimp only at hL103
 refine gdC 16 ⟨some 67, _, _, _, _, _⟩ _ rfl (by kernel_rfl) (kRightSub_ok N x144.1 x202.1 x202.2.1 x202.2.2.1 x202.2.2.2.1 x202.2.2.2.2.1 x202.2.2.2.2.2.1 x202.2.2.2.2.2.2 p1 ((l32.length : Nat) : Int) A215 c216 vs217 ft47 A223 c224 vs225 ft47 A231 c232 vs233 ft47 A239 c240 vs241 ft47 A247 c248 vs249 ft47 A255 c256 vs257 ft47 A259 c260 vs261 ft47 _ hc264 w142 (hS143.now 0 rfl hf218) (hP263.offPA 0 rfl) (hS143.now 0 rfl hf226) (hP263.offPA 0 rfl) (hS143.now 0 rfl hf234) (hP263.offPA 0 rfl) (hS143.now 0 rfl hf242) (hP263.offPA 0 rfl) (hS143.now 0 rfl hf250) (hP263.offPA 0 rfl) (hS143.now 0 rfl hf258) (hP263.offPA 0 rfl) (hS143.now 0 rfl hf262) (hP263.offPA 0 rfl)) ?_
 rintro _ w266 ⟨rfl, hT268⟩
 have hS267 : St _ _ w266 [poolE ft47 W48, rowE .u8 5 A22 c23 l21, eR g20 g24 A22 l21 c23, eS g24 b31, rowG 35 4 (.slice A33 l32.length c34) l32.length vs35, rowG 52 5 (.slice A38 l37.length c39) l37.length vs40] := hS143.take _ hT268
 refine ⟨hS267, ?_⟩
 rcases b265 with _ | _
 try dsimp only at hL103
 refine gv1 17 68 (.bool true) rfl hS267 (gd_done (by kernel_rfl) (gx_thenN (hK141 _ _ (gx_yes (by kernel_rfl) (gx_seq (fun K269 hK270 => gx_region (gx_k (.bool false) w266 ?_)))))))
 refine gx_nil (gx_thenN (hK270 _ _ (gx_ret (gx_blkR (gx_thenR (gx_thenR (gx_blkR ?_)))))))
 refine gx_blkR (gx_thenR ?_)
 obtain rfl := sj hL103
 try dsimp only at hO95
 refine gx_thenR (gx_blkR (gx_thenR ?_))
 obtain rfl := sj hO95
 try dsimp only at hO76
 obtain rfl := sj hO76
 exact gxF (.bool false) ⟨_, rfl, rfl, (hS267.pick [] rfl rfl)⟩
 try dsimp only at hL103
 refine gv1 17 68 (.bool false) rfl hS267 (gd_done (by kernel_rfl) (gx_thenN (hK141 _ _ (gx_no (by kernel_rfl) (gx_pass (gx_blkN (gx_thenN ?_)))))))
 refine hK139 _ _ (gx_region (gx_k (i6 x101) w266 (gx_k (i6 (iw (x101 + 1))) w266 (gx_k (i6 (iw (x101 + 1))) w266 (gx_nil (gx_thenN ?_))))))
 exact ⟨k102, Nat.lt_succ_self k102, (iw (x101 + 1)), selfA_i (by kernel_rfl), hL103, hS267⟩
 refine gx_v (.bool false) w98 (rbE (decide_eq_false h137)) (gx_nil (gx_thenN (hK107 _ _ (gx_no (by kernel_rfl) (gx_exit (gx_thenE (gx_thenE ?_)))))))
 refine gx_blkE (gx_blkN (gx_thenN ?_))
 exact ⟨selfA_i (by kernel_rfl), (sj hL103), hS99⟩
 rintro _ w90 ⟨hq272, rfl, hS91⟩
 obtain ⟨u92, rfl⟩ := selfA_u hq272
 try dsimp only at hO95
 refine gx_region (gx_k (i6 x82) w90 (gx_k (i6 (iw (x82 + 1))) w90 (gx_k (i6 (iw (x82 + 1))) w90 (gx_nil (gx_thenN ?_)))))
 exact ⟨k83, Nat.lt_succ_self k83, (iw (x82 + 1)), selfA_i (by kernel_rfl), hO95, hS91⟩
 refine gx_v (.bool false) w79 (rbE (decide_eq_false h89)) (gx_nil (gx_thenN (hK88 _ _ (gx_no (by kernel_rfl) (gx_exit (gx_thenE (gx_thenE ?_)))))))
 refine gx_blkE (gx_thenN ?_)
 exact ⟨selfA_i (by kernel_rfl), (sj hL84), hS80⟩
 rintro _ w71 ⟨hq294, rfl, hS72⟩
 obtain ⟨u73, rfl⟩ := selfA_u hq294
 try dsimp only at hO76
 refine gx_seq (fun K274 hK275 => gx_region (gx_k (.slice A33 l32.length c34) w71 (gx_k (i6 p1) w71 ?_)))
 have hP276 : St _ _ w71 ([] ++ [poolE ft47 W48, rowE .u8 5 A22 c23 l21, eR g20 g24 A22 l21 c23, eS g24 b31, rowG 35 4 (.slice A33 l32.length c34) l32.length vs35, rowG 52 5 (.slice A38 l37.length c39) l37.length vs40]) := hS72
 obtain ⟨b278, hc277, hO76⟩ := bind_in hO76
 try dsimp only at hO76
 refine gx_c _ (kRightL_ok N l32 p1 true A33 c34 vs35 ((rowG 35 4 (.slice A33 l32.length c34) l32.length vs35).foot ++ ft47) _ hc277 w71 (rowG_sl (e := encapiLookup) rfl (hS72.get 4 rfl) (hS72.now 0 rfl hf54)) (hP276.offRA 4 rfl (hP276.offPA 0 rfl))) ?_
 rintro _ w279 ⟨rfl, hT281⟩
 have hS280 : St _ _ w279 [poolE ft47 W48, rowE .u8 5 A22 c23 l21, eR g20 g24 A22 l21 c23, eS g24 b31, rowG 35 4 (.slice A33 l32.length c34) l32.length vs35, rowG 52 5 (.slice A38 l37.length c39) l37.length vs40] := hS72.take _ hT281
 refine gx_k (.bool b278) w279 ?_
 rcases b278 with _ | _
 try dsimp only at hO76
 refine gx_o (gx_o (gx_o (gx_o (gx_k (.bool false) w279 (gx_k (.bool false) w279 (gx_o (gx_k (.bool false) w279 (gx_k (.bool false) w279 (gx_nil (gx_thenN (hK275 _ _ (gx_ret ?_))))))))))))
 obtain rfl := sj hO76
 exact gxF (.bool false) ⟨_, rfl, rfl, (hS280.pick [] rfl rfl)⟩
 try dsimp only at hO76
 refine gx_k (.slice A38 l37.length c39) w279 (gx_k (.slice A33 l32.length c34) w279 (gx_k (i6 ((l32.length : Nat) : Int)) w279 ?_))
 have hP282 : St _ _ w279 ([] ++ [poolE ft47 W48, rowE .u8 5 A22 c23 l21, eR g20 g24 A22 l21 c23, eS g24 b31, rowG 35 4 (.slice A33 l32.length c34) l32.length vs35, rowG 52 5 (.slice A38 l37.length c39) l37.length vs40]) := hS280
 obtain ⟨b284, hc283, hO76⟩ := bind_in hO76
 try dsimp only at hO76
 refine gx_c _ (kRightF_ok N l37 ((l32.length : Nat) : Int) A38 c39 vs40 ((rowG 52 5 (.slice A38 l37.length c39) l37.length vs40).foot ++ ft47) _ hc283 w279 (rowG_sl (e := (pairE encapiTag (rowOf (intE .i64)))) rfl (hS280.get 5 rfl) (hS280.now 0 rfl hf55)) (hP282.offRA 5 rfl (hP282.offPA 0 rfl))) ?_
 rintro _ w285 ⟨rfl, hT287⟩
 have hS286 : St _ _ w285 [poolE ft47 W48, rowE .u8 5 A22 c23 l21, eR g20 g24 A22 l21 c23, eS g24 b31, rowG 35 4 (.slice A33 l32.length c34) l32.length vs35, rowG 52 5 (.slice A38 l37.length c39) l37.length vs40] := hS280.take _ hT287
 refine gx_k (.bool b284) w285 (gx_k (.bool b284) w285 ?_)
 rcases b284 with _ | _
 try dsimp only at hO76
 refine gx_o (gx_k (.bool false) w285 (gx_k (.bool false) w285 (gx_nil (gx_thenN (hK275 _ _ (gx_ret ?_))))))
 obtain rfl := sj hO76
 exact gxF (.bool false) ⟨_, rfl, rfl, (hS286.pick [] rfl rfl)⟩
 try dsimp only at hO76
 have hP288 : St _ _ w285 ([] ++ [poolE ft47 W48, rowE .u8 5 A22 c23 l21, eR g20 g24 A22 l21 c23, eS g24 b31, rowG 35 4 (.slice A33 l32.length c34) l32.length vs35, rowG 52 5 (.slice A38 l37.length c39) l37.length vs40]) := hS286
 obtain ⟨b290, hc289, hO76⟩ := bind_in hO76
 try dsimp only at hO76
 refine gx_c _ (fWorks7_ok N  _ hc289 w285 ) ?_
 rintro _ w291 ⟨rfl, hT293⟩
 have hS292 : St _ _ w291 [poolE ft47 W48, rowE .u8 5 A22 c23 l21, eR g20 g24 A22 l21 c23, eS g24 b31, rowG 35 4 (.slice A33 l32.length c34) l32.length vs35, rowG 52 5 (.slice A38 l37.length c39) l37.length vs40] := hS286.take _ hT293
 refine gx_k (.bool b290) w291 (gx_k (.bool b290) w291 (gx_nil (gx_thenN (hK275 _ _ (gx_ret ?_)))))
 obtain rfl := sj hO76
 exact gxF (.bool b290) ⟨_, rfl, rfl, (hS292.pick [] rfl rfl)⟩
end Go.Proofs.Ytgjlpiljacecpaa

/-
  slices.Sort, walked.
-/
import Derived.Test.YtgjlpiljacecpaaZ3
namespace Go.Proofs.Ytgjlpiljacecpaa
open Go Go.RowKit
set_option linter.unusedVariables false
set_option maxRecDepth 100000
set_option maxHeartbeats 4000000
def zPdq_L1 (N : Nat) (self : List Int → Int → Int → Int → Option (List Int)) : Nat → (List Int) → Int → Int → Int → Bool → Bool → Option (List Int)
 | 0, _, _, _, _, _, _ => none
 | k15+1, l9, x10, x11, x12, b13, b14 => (if (IntKind.i64.wrap (x11 - x10)) ≤ 12 then ((zIns N l9 x10 x11).bind fun l28 => some l28) else (if x12 = 0 then ((zHeap N l9 x10 x11).bind fun l42 => some l42) else (((match b13 with | true => some ((l9, x12)) | false => ((zBreak N l9 x10 x11).bind fun l62 => some ((l62, (IntKind.i64.wrap (x12 - 1)))))) : Option (List Int × Int)).bind fun (l51, x52) => ((zPiv N l51 x10 x11).bind fun (x71, x72) => (((if x72 = 2 then ((zRev N l51 x10 x11).bind fun l93 => some ((l93, (IntKind.i64.wrap ((IntKind.i64.wrap (x11 - 1)) - (IntKind.i64.wrap (x71 - x10)))), 1))) else some ((l51, x71, x72))) : Option (List Int × Int × Int)).bind fun (l80, x81, x82) => (((match b13 with | true => (match b14 with | true => (if x82 = 1 then ((zPart N l80 x10 x11).bind fun (b115, l116) => (match b115 with | true => some (Ctl.ret l116) | false => some (Ctl.go l116))) else some (Ctl.go l80)) | false => some (Ctl.go l80)) | false => some (Ctl.go l80)) : Option (Ctl (List Int) (List Int))).bind fun | Ctl.go l104 => (((if x10 > 0 then ((ix l104 (IntKind.i64.wrap (x10 - 1))).bind fun x133 => ((ix l104 x81).bind fun x135 => ((zLess N x133 x135).bind fun b139 => (match b139 with | true => some (false) | false => some (true))))) else some (false)) : Option (Bool)).bind fun b126 => (match b126 with | true => ((zEq N l104 x10 x11 x81).bind fun (x147, l148) => zPdq_L1 N self k15 l148 x147 x11 x52 b13 b14) | false => ((zCut N l104 x10 x11 x81).bind fun (x159, b160, l161) => (if (IntKind.i64.wrap (x159 - x10)) < (IntKind.i64.wrap (x11 - x159)) then (if (IntKind.i64.wrap (x159 - x10)) ≥ (IntKind.i64.wrap (Int.tdiv (IntKind.i64.wrap (x11 - x10)) 8)) then ((self l161 x10 x159 x52).bind fun l182 => zPdq_L1 N self k15 l182 (IntKind.i64.wrap (x159 + 1)) x11 x52 true b160) else ((self l161 x10 x159 x52).bind fun l191 => zPdq_L1 N self k15 l191 (IntKind.i64.wrap (x159 + 1)) x11 x52 false b160)) else (if (IntKind.i64.wrap (x11 - x159)) ≥ (IntKind.i64.wrap (Int.tdiv (IntKind.i64.wrap (x11 - x10)) 8)) then ((self l161 (IntKind.i64.wrap (x159 + 1)) x11 x52).bind fun l203 => zPdq_L1 N self k15 l203 x10 x159 x52 true b160) else ((self l161 (IntKind.i64.wrap (x159 + 1)) x11 x52).bind fun l212 => zPdq_L1 N self k15 l212 x10 x159 x52 false b160)))))) | Ctl.ret r => some r))))))
def zPdqB (N : Nat) (self : List Int → Int → Int → Int → Option (List Int)) (p0 : List Int) (p1 : Int) (p2 : Int) (p3 : Int) : Option (List Int) :=
 zPdq_L1 N self N p0 p1 p2 p3 true true
def zPdq_R (p0 : List Int) (p1 : Int) (p2 : Int) (p3 : Int) (A0 : Option Addr) (c0 : Nat) (r : List Int) (w0 : World) (v : Value) (w : World) : Prop := v = .tuple #[] ∧ St (foots [rowE .u16 31 A0 c0 p0]) w0 w [rowE .u16 31 A0 c0 r] ∧ r.length = p0.length
theorem zPdqB_ok (N : Nat) (self : List Int → Int → Int → Int → Option (List Int)) (hself : ∀ (p0 : List Int) (p1 : Int) (p2 : Int) (p3 : Int) (A0 : Option Addr) (c0 : Nat) (r : List Int), self p0 p1 p2 p3 = some r → ∀ (w0 : World) (hl : St (foots [rowE .u16 31 A0 c0 p0]) w0 w0 [rowE .u16 31 A0 c0 p0]), Calls Try.prog 99 #[.slice A0 p0.length c0, .int .i64 p1, .int .i64 p2, .int .i64 p3] w0 fun e w => ∃ v, e = .returned v ∧ zPdq_R p0 p1 p2 p3 A0 c0 r w0 v w) (p0 : List Int) (p1 : Int) (p2 : Int) (p3 : Int) (A0 : Option Addr) (c0 : Nat) (r : List Int) (hF : zPdqB N self p0 p1 p2 p3 = some r) (w0 : World) (hl : St (foots [rowE .u16 31 A0 c0 p0]) w0 w0 [rowE .u16 31 A0 c0 p0]) :
  Calls Try.prog 99 #[.slice A0 p0.length c0, .int .i64 p1, .int .i64 p2, .int .i64 p3] w0 fun e w => ∃ v, e = .returned v ∧ zPdq_R p0 p1 p2 p3 A0 c0 r w0 v w := by
 have hS0 := hl
 unfold zPdqB at hF
 refine calls_of Try.func99 rfl ⟨((.slice A0 p0.length c0) :: (i6 p1) :: (i6 p2) :: (i6 p3) :: un 130 ([])).toArray, []⟩ (by kernel_rfl) (gx_seq (fun K1 hK2 => gx_region (gx_k (.bool true) w0 (gx_nil (gx_thenN (hK2 _ _ (gx_seq (fun K3 hK4 => ?_))))))))
 refine gx_region (gx_k (.bool true) w0 (gx_nil (gx_thenN (hK4 _ _ (gx_block (gx_loop (fun k a w => ∃ (l9 : List Int) (x10 : Int) (x11 : Int) (x12 : Int) (b13 : Bool) (b14 : Bool), selfA (fun u7 => ⟨((.slice A0 p0.length c0) :: (i6 x10) :: (i6 x11) :: (i6 x12) :: un 4 ((.bool b13) :: (.bool b14) :: dd u7 10 124 ([]))).toArray, []⟩) a ∧ zPdq_L1 N self k l9 x10 x11 x12 b13 b14 = some r ∧ St (foots [rowE .u16 31 A0 c0 p0]) w0 w [rowE .u16 31 A0 c0 l9] ∧ p0.length = l9.length) N ?_ ?_))))))
 exact ⟨p0, p1, p2, p3, true, true, selfA_i (by kernel_rfl), hF, hS0, rfl⟩
 rintro k15 _ w5 ⟨l9, x10, x11, x12, b13, b14, hq221, hL16, hS6, hn8⟩
 obtain ⟨u7, rfl⟩ := selfA_u hq221
 rcases k15 with _ | k15
 cases hL16
 first | rw [zPdq_L1] at hL16 | unfold zPdq_L1 at hL16
 refine gx_block (gx_seq (fun K17 hK18 => gx_region (gx_k (i6 x11) w5 (gx_k (i6 x10) w5 (gx_k (i6 (iw (x11 - x10))) w5 (gx_k (i6 (iw (x11 - x10))) w5 (gx_nil (gx_thenN (hK18 _ _ (gx_seq (fun K19 hK20 => ?_)))))))))))
 refine gx_seq (fun K21 hK22 => gx_region (gx_k (i6 (iw (x11 - x10))) w5 ?_))
 rcases if_in hL16 with ⟨h23, hL16⟩ | ⟨h23, hL16⟩
 refine gx_v (.bool true) w5 (rbE (decide_eq_true h23)) (gx_nil (gx_thenN (hK22 _ _ (gx_yes (by kernel_rfl) (gx_seq (fun K24 hK25 => gx_region (gx_k (.slice A0 p0.length c0) w5 (gx_k (i6 x10) w5 (gx_k (i6 x11) w5 ?_)))))))))
 have hP26 : St _ _ w5 ([rowE .u16 31 A0 c0 l9] ++ []) := hS6
 obtain ⟨l28, hc27, hL16⟩ := bind_in hL16
 try dsimp only at hL16
 refine gx_call (zIns_R l9 x10 x11 A0 c0 l28 w5) (by kernel_rfl) (by rw [← hn8] <;> kernel_rfl) (zIns_ok N l9 x10 x11 A0 c0 _ hc27 w5 hP26.part) ?_
 rintro _ w30 ⟨rfl, hT32, hl29⟩
 have hS31 : St _ _ w30 [rowE .u16 31 A0 c0 l28] := hP26.lendN _ hT32
 refine gx_nil (gx_thenN (hK25 _ _ (gx_ret (gx_thenR (gx_blkR (gx_thenR (gx_blkR ?_)))))))
 obtain rfl := sj hL16
 exact gxF (.tuple #[]) ⟨_, rfl, rfl, hS31, ((hn8.trans hl29.symm)).symm⟩
 refine gx_v (.bool false) w5 (rbE (decide_eq_false h23)) (gx_nil (gx_thenN (hK22 _ _ (gx_no (by kernel_rfl) (gx_pass (gx_thenN (hK20 _ _ ?_)))))))
 refine gx_seq (fun K33 hK34 => gx_seq (fun K35 hK36 => gx_region (gx_k (i6 x12) w5 ?_)))
 rcases if_in hL16 with ⟨h37, hL16⟩ | ⟨h37, hL16⟩
 refine gx_v (.bool true) w5 (rbE (decide_eq_true h37)) (gx_nil (gx_thenN (hK36 _ _ (gx_yes (by kernel_rfl) (gx_seq (fun K38 hK39 => gx_region (gx_k (.slice A0 p0.length c0) w5 (gx_k (i6 x10) w5 (gx_k (i6 x11) w5 ?_)))))))))
 have hP40 : St _ _ w5 ([rowE .u16 31 A0 c0 l9] ++ []) := hS6
 obtain ⟨l42, hc41, hL16⟩ := bind_in hL16
 try dsimp only at hL16
 refine gx_call (zHeap_R l9 x10 x11 A0 c0 l42 w5) (by kernel_rfl) (by rw [← hn8] <;> kernel_rfl) (zHeap_ok N l9 x10 x11 A0 c0 _ hc41 w5 hP40.part) ?_
 rintro _ w44 ⟨rfl, hT46, hl43⟩
 have hS45 : St _ _ w44 [rowE .u16 31 A0 c0 l42] := hP40.lendN _ hT46
 refine gx_nil (gx_thenN (hK39 _ _ (gx_ret (gx_thenR (gx_blkR (gx_thenR (gx_blkR ?_)))))))
 obtain rfl := sj hL16
 exact gxF (.tuple #[]) ⟨_, rfl, rfl, hS45, ((hn8.trans hl43.symm)).symm⟩
 refine gx_v (.bool false) w5 (rbE (decide_eq_false h37)) (gx_nil (gx_thenN (hK36 _ _ (gx_no (by kernel_rfl) (gx_pass (gx_thenN (hK34 _ _ ?_)))))))
 obtain ⟨c53, hE54, hO55⟩ := bind_in hL16
 refine gx_cut (fun a w => ∃ (l51 : List Int) (x52 : Int), selfA (fun u49 => ⟨((.slice A0 p0.length c0) :: (i6 x10) :: (i6 x11) :: (i6 x52) :: un 4 ((.bool b13) :: (.bool b14) :: (i6 (iw (x11 - x10))) :: dd u7 11 8 ((i6 x11) :: (i6 x10) :: (i6 (iw (x11 - x10))) :: (i6 (iw (x11 - x10))) :: (.bool false) :: dd u7 24 4 ((i6 x12) :: (.bool false) :: dd u7 30 4 (dd u49 34 8 (dd u7 42 92 ([]))))))).toArray, []⟩) a ∧ (l51, x52) = c53 ∧ St (foots [rowE .u16 31 A0 c0 p0]) w0 w [rowE .u16 31 A0 c0 l51] ∧ p0.length = l51.length) ?_ ?_
 refine gx_seq (fun K56 hK57 => gx_region (gx_k (.bool b13) w5 ?_))
 rcases b13 with _ | _
 try dsimp only at hE54
 refine gx_k (.bool true) w5 (gx_nil (gx_thenN (hK57 _ _ (gx_yes (by kernel_rfl) (gx_seq (fun K58 hK59 => gx_region (gx_k (.slice A0 p0.length c0) w5 (gx_k (i6 x10) w5 (gx_k (i6 x11) w5 ?_)))))))))
 have hP60 : St _ _ w5 ([rowE .u16 31 A0 c0 l9] ++ []) := hS6
 obtain ⟨l62, hc61, hE54⟩ := bind_in hE54
 try dsimp only at hE54
 refine gx_call (zBreak_R l9 x10 x11 A0 c0 l62 w5) (by kernel_rfl) (by rw [← hn8] <;> kernel_rfl) (zBreak_ok N l9 x10 x11 A0 c0 _ hc61 w5 hP60.part) ?_
 rintro _ w64 ⟨rfl, hT66, hl63⟩
 have hS65 : St _ _ w64 [rowE .u16 31 A0 c0 l62] := hP60.lendN _ hT66
 refine gx_nil (gx_thenN (hK59 _ _ (gx_region (gx_k (i6 x12) w64 (gx_k (i6 (iw (x12 - 1))) w64 (gx_k (i6 (iw (x12 - 1))) w64 (gx_nil (gx_thenN ?_))))))))
 exact ⟨l62, (iw (x12 - 1)), selfA_i (by kernel_rfl), (sj hE54), hS65, (hn8.trans hl63.symm)⟩
 try dsimp only at hE54
 refine gx_k (.bool false) w5 (gx_nil (gx_thenN (hK57 _ _ (gx_no (by kernel_rfl) (gx_pass (gx_thenN ?_))))))
 exact ⟨l9, x12, selfA_i (by kernel_rfl), (sj hE54), hS6, hn8⟩
 rintro _ w47 ⟨l51, x52, hq220, rfl, hS48, hn50⟩
 obtain ⟨u49, rfl⟩ := selfA_u hq220
 try dsimp only at hO55
 refine gx_seq (fun K67 hK68 => gx_region (gx_k (.slice A0 p0.length c0) w47 (gx_k (i6 x10) w47 (gx_k (i6 x11) w47 ?_))))
 have hP69 : St _ _ w47 ([] ++ [rowE .u16 31 A0 c0 l51]) := hS48
 obtain ⟨⟨x71, x72⟩, hc70, hO55⟩ := bind_in hO55
 try dsimp only at hO55
 refine gx_call (zPiv_R (x71, x72) w47) (by kernel_rfl) (by rw [← hn50] <;> kernel_rfl) (zPiv_ok N l51 x10 x11 A0 c0 _ hc70 w47 (hP69.vwB 0 rfl)) ?_
 rintro _ w73 ⟨rfl, hT75⟩
 have hS74 : St _ _ w73 [rowE .u16 31 A0 c0 l51] := hS48.take _ hT75
 refine gx_k (.tuple #[i6 x71, i6 x72]) w73 (gx_k (i6 x71) w73 (gx_k (i6 x72) w73 (gx_k (i6 x71) w73 (gx_k (i6 x72) w73 (gx_nil (gx_thenN (hK68 _ _ ?_)))))))
 obtain ⟨c83, hE84, hO85⟩ := bind_in hO55
 refine gx_cut (fun a w => ∃ (l80 : List Int) (x81 : Int) (x82 : Int), selfA (fun u78 => ⟨((.slice A0 p0.length c0) :: (i6 x10) :: (i6 x11) :: (i6 x52) :: un 4 ((.bool b13) :: (.bool b14) :: (i6 (iw (x11 - x10))) :: (i6 x81) :: (i6 x82) :: dd u7 13 6 ((i6 x11) :: (i6 x10) :: (i6 (iw (x11 - x10))) :: (i6 (iw (x11 - x10))) :: (.bool false) :: dd u7 24 4 ((i6 x12) :: (.bool false) :: dd u7 30 4 (dd u49 34 8 (dd u78 42 2 ((i6 x10) :: (i6 x11) :: (u78 46) :: (i6 x71) :: (i6 x72) :: dd u78 49 12 (dd u7 61 73 ([]))))))))).toArray, []⟩) a ∧ (l80, x81, x82) = c83 ∧ St (foots [rowE .u16 31 A0 c0 p0]) w0 w [rowE .u16 31 A0 c0 l80] ∧ p0.length = l80.length) ?_ ?_
 refine gx_seq (fun K86 hK87 => gx_region (gx_k (i6 x72) w73 ?_))
 rcases if_in hE84 with ⟨h88, hE84⟩ | ⟨h88, hE84⟩
 refine gx_v (.bool true) w73 (rbE (decide_eq_true h88)) (gx_nil (gx_thenN (hK87 _ _ (gx_yes (by kernel_rfl) (gx_seq (fun K89 hK90 => gx_region (gx_k (.slice A0 p0.length c0) w73 (gx_k (i6 x10) w73 (gx_k (i6 x11) w73 ?_)))))))))
 have hP91 : St _ _ w73 ([rowE .u16 31 A0 c0 l51] ++ []) := hS74
 obtain ⟨l93, hc92, hE84⟩ := bind_in hE84
 try dsimp only at hE84
 refine gx_call (zRev_R l51 x10 x11 A0 c0 l93 w73) (by kernel_rfl) (by rw [← hn50] <;> kernel_rfl) (zRev_ok N l51 x10 x11 A0 c0 _ hc92 w73 hP91.part) ?_
 rintro _ w95 ⟨rfl, hT97, hl94⟩
 have hS96 : St _ _ w95 [rowE .u16 31 A0 c0 l93] := hP91.lendN _ hT97
 refine gx_nil (gx_thenN (hK90 _ _ (gx_seq (fun K98 hK99 => gx_region (gx_k (i6 x11) w95 (gx_k (i6 (iw (x11 - 1))) w95 (gx_k (i6 x71) w95 (gx_k (i6 x10) w95 (gx_k (i6 (iw (x71 - x10))) w95 (gx_k (i6 (iw ((iw (x11 - 1)) - (iw (x71 - x10))))) w95 (gx_k (i6 (iw ((iw (x11 - 1)) - (iw (x71 - x10))))) w95 (gx_nil (gx_thenN ?_)))))))))))))
 refine hK99 _ _ (gx_region (gx_k (i6 1) w95 (gx_nil (gx_thenN ?_))))
 exact ⟨l93, (iw ((iw (x11 - 1)) - (iw (x71 - x10)))), 1, selfA_i (by kernel_rfl), (sj hE84), hS96, (hn50.trans hl94.symm)⟩
 refine gx_v (.bool false) w73 (rbE (decide_eq_false h88)) (gx_nil (gx_thenN (hK87 _ _ (gx_no (by kernel_rfl) (gx_pass (gx_thenN ?_))))))
 exact ⟨l51, x71, x72, selfA_i (by kernel_rfl), (sj hE84), hS74, hn50⟩
 rintro _ w76 ⟨l80, x81, x82, hq219, rfl, hS77, hn79⟩
 obtain ⟨u78, rfl⟩ := selfA_u hq219
 try dsimp only at hO85
 obtain ⟨c105, hE106, hO107⟩ := bind_in hO85
 refine gx_cut (fun a w => ∃ (l104 : List Int), selfA (fun u102 => ⟨((.slice A0 p0.length c0) :: (i6 x10) :: (i6 x11) :: (i6 x52) :: un 4 ((.bool b13) :: (.bool b14) :: (i6 (iw (x11 - x10))) :: (i6 x81) :: (i6 x82) :: dd u7 13 6 ((i6 x11) :: (i6 x10) :: (i6 (iw (x11 - x10))) :: (i6 (iw (x11 - x10))) :: (.bool false) :: dd u7 24 4 ((i6 x12) :: (.bool false) :: dd u7 30 4 (dd u49 34 8 (dd u78 42 2 ((i6 x10) :: (i6 x11) :: (u78 46) :: (i6 x71) :: (i6 x72) :: dd u78 49 12 (dd u102 61 12 (dd u7 73 61 ([])))))))))).toArray, []⟩) a ∧ Ctl.go l104 = c105 ∧ St (foots [rowE .u16 31 A0 c0 p0]) w0 w [rowE .u16 31 A0 c0 l104] ∧ p0.length = l104.length) ?_ ?_
 refine gx_seq (fun K108 hK109 => gx_region (gx_k (.bool b13) w76 (gx_k (.bool b13) w76 ?_)))
 rcases b13 with _ | _
 try dsimp only at hE106
 refine gx_o (gx_k (.bool false) w76 (gx_k (.bool false) w76 (gx_o (gx_o (gx_k (.bool false) w76 (gx_nil (gx_thenN (hK109 _ _ (gx_no (by kernel_rfl) (gx_pass (gx_thenN ?_)))))))))))
 exact ⟨l80, selfA_i (by kernel_rfl), (sj hE106), hS77, hn79⟩
 try dsimp only at hE106
 refine gx_k (.bool b14) w76 (gx_k (.bool b14) w76 (gx_k (.bool b14) w76 ?_))
 rcases b14 with _ | _
 try dsimp only at hE106
 refine gx_o (gx_o (gx_k (.bool false) w76 (gx_nil (gx_thenN (hK109 _ _ (gx_no (by kernel_rfl) (gx_pass (gx_thenN ?_))))))))
 exact ⟨l80, selfA_i (by kernel_rfl), (sj hE106), hS77, hn79⟩
 try dsimp only at hE106
 refine gx_k (i6 x82) w76 ?_
 rcases if_in hE106 with ⟨h110, hE106⟩ | ⟨h110, hE106⟩
 refine gx_v (.bool true) w76 (rbE (decide_eq_true h110)) (gx_k (.bool true) w76 (gx_nil (gx_thenN (hK109 _ _ (gx_yes (by kernel_rfl) (gx_seq (fun K111 hK112 => gx_region ?_)))))))
 refine gx_k (.slice A0 p0.length c0) w76 (gx_k (i6 x10) w76 (gx_k (i6 x11) w76 ?_))
 have hP113 : St _ _ w76 ([rowE .u16 31 A0 c0 l80] ++ []) := hS77
 obtain ⟨⟨b115, l116⟩, hc114, hE106⟩ := bind_in hE106
 try dsimp only at hE106
 refine gx_call (zPart_R l80 x10 x11 A0 c0 (b115, l116) w76) (by kernel_rfl) (by rw [← hn79] <;> kernel_rfl) (zPart_ok N l80 x10 x11 A0 c0 _ hc114 w76 hP113.part) ?_
 rintro _ w118 ⟨rfl, hT120, hl117⟩
 have hS119 : St _ _ w118 [rowE .u16 31 A0 c0 l116] := hP113.lendN _ hT120
 refine gx_nil (gx_thenN (hK112 _ _ ?_))
 rcases b115 with _ | _
 try dsimp only at hE106
 refine gx_no (by kernel_rfl) (gx_pass (gx_thenN ?_))
 exact ⟨l116, selfA_i (by kernel_rfl), (sj hE106), hS119, (hn79.trans hl117.symm)⟩
 try dsimp only at hE106
 refine gx_yes (by kernel_rfl) (gx_ret (gx_thenR ?_))
 obtain rfl := sj hE106
 try dsimp only at hO107
 refine gx_blkR (gx_thenR (gx_blkR ?_))
 obtain rfl := sj hO107
 exact gxF (.tuple #[]) ⟨_, rfl, rfl, hS119, ((hn79.trans hl117.symm)).symm⟩
 refine gx_v (.bool false) w76 (rbE (decide_eq_false h110)) (gx_k (.bool false) w76 (gx_nil (gx_thenN (hK109 _ _ (gx_no (by kernel_rfl) (gx_pass (gx_thenN ?_)))))))
 exact ⟨l80, selfA_i (by kernel_rfl), (sj hE106), hS77, hn79⟩
 rintro _ w100 ⟨l104, hq218, rfl, hS101, hn103⟩
 obtain ⟨u102, rfl⟩ := selfA_u hq218
 try dsimp only at hO107
 refine gx_seq (fun K121 hK122 => ?_)
 obtain ⟨c127, hE128, hO129⟩ := bind_in hO107
 refine gx_cut (fun a w => ∃ (b126 : Bool), selfA (fun u125 => ⟨((.slice A0 p0.length c0) :: (i6 x10) :: (i6 x11) :: (i6 x52) :: un 4 ((.bool b13) :: (.bool b14) :: (i6 (iw (x11 - x10))) :: (i6 x81) :: (i6 x82) :: dd u7 13 6 ((i6 x11) :: (i6 x10) :: (i6 (iw (x11 - x10))) :: (i6 (iw (x11 - x10))) :: (.bool false) :: dd u7 24 4 ((i6 x12) :: (.bool false) :: dd u7 30 4 (dd u49 34 8 (dd u78 42 2 ((i6 x10) :: (i6 x11) :: (u78 46) :: (i6 x71) :: (i6 x72) :: dd u78 49 12 (dd u102 61 12 (dd u125 73 14 ((.bool b126) :: dd u7 88 46 ([]))))))))))).toArray, []⟩) a ∧ b126 = c127 ∧ St (foots [rowE .u16 31 A0 c0 p0]) w0 w [rowE .u16 31 A0 c0 l104]) ?_ ?_
 refine gdst (fun w => St (foots [rowE .u16 31 A0 c0 p0]) w0 w [rowE .u16 31 A0 c0 l104]) 15 ?_
 have hS131 := hS101.drew
 generalize w100.drew = w130 at hS131 ⊢
 refine gv1 0 73 (i6 x10) rfl hS131 ?_
 rcases if_in hE128 with ⟨h132, hE128⟩ | ⟨h132, hE128⟩
 refine gu1 1 74 (.bool true) rfl hS131 (rbT h132) (gv1 2 75 (.bool true) rfl hS131 (gv1 3 76 (.slice A0 p0.length c0) rfl hS131 (gv1 4 77 (i6 x10) rfl hS131 (gv1 5 78 (i6 (iw (x10 - 1))) rfl hS131 ?_))))
 obtain ⟨x133, hx134, hE128⟩ := bind_in hE128
 refine gu1 6 79 (pI (iw (x10 - 1)) A0) rfl hS131 (fun w hSw => riy 31 .i64 hx134 hn103 (((hS131.row 0 rfl).1))) (gu1 7 80 (u6 x133) rfl hS131 (fun w hSw => rlx (hSw.row 0 rfl).1 hx134) (gv1 8 81 (.slice A0 p0.length c0) rfl hS131 (gv1 9 82 (i6 x81) rfl hS131 ?_)))
 obtain ⟨x135, hx136, hE128⟩ := bind_in hE128
 refine gu1 10 83 (pI x81 A0) rfl hS131 (fun w hSw => riy 31 .i64 hx136 hn103 (((hS131.row 0 rfl).1))) (gu1 11 84 (u6 x135) rfl hS131 (fun w hSw => rlx (hSw.row 0 rfl).1 hx136) ?_)
 have hP137 : St _ _ w130 ([] ++ [rowE .u16 31 A0 c0 l104]) := hS131
 obtain ⟨b139, hc138, hE128⟩ := bind_in hE128
 try dsimp only at hE128
 refine gdC 12 ⟨some 85, _, _, _, _, _⟩ _ rfl (by kernel_rfl) (zLess_ok N x133 x135 _ hc138 w130 ) ?_
 rintro _ w140 ⟨rfl, hT142⟩
 have hS141 : St _ _ w140 [rowE .u16 31 A0 c0 l104] := hS131.take _ hT142
 refine ⟨hS141, ?_⟩
 rcases b139 with _ | _
 try dsimp only at hE128
 refine gv1 13 86 (.bool true) rfl hS141 (gv1 14 87 (.bool true) rfl hS141 (gd_done (by kernel_rfl) (gx_thenN ?_)))
 exact ⟨true, selfA_i (by kernel_rfl), (sj hE128), hS141⟩
 try dsimp only at hE128
 refine gv1 13 86 (.bool false) rfl hS141 (gv1 14 87 (.bool false) rfl hS141 (gd_done (by kernel_rfl) (gx_thenN ?_)))
 exact ⟨false, selfA_i (by kernel_rfl), (sj hE128), hS141⟩
 refine gu1 1 74 (.bool false) rfl hS131 (rbF h132) (gv1 2 75 (.bool false) rfl hS131 (gz1 3 76 rfl hS131 (gz1 4 77 rfl hS131 (gz1 5 78 rfl hS131 (gz1 6 79 rfl hS131 (gz1 7 80 rfl hS131 (gz1 8 81 rfl hS131 ?_)))))))
 refine gz1 9 82 rfl hS131 (gz1 10 83 rfl hS131 (gz1 11 84 rfl hS131 (gz1 12 85 rfl hS131 (gz1 13 86 rfl hS131 (gv1 14 87 (.bool false) rfl hS131 (gd_done (by kernel_rfl) (gx_thenN ?_)))))))
 exact ⟨false, selfA_i (by kernel_rfl), (sj hE128), hS131⟩
 rintro _ w123 ⟨b126, hq217, rfl, hS124⟩
 obtain ⟨u125, rfl⟩ := selfA_u hq217
 try dsimp only at hO129
 rcases b126 with _ | _
 try dsimp only at hO129
 refine gx_no (by kernel_rfl) (gx_pass (gx_thenN (hK122 _ _ (gx_seq (fun K155 hK156 => gx_region (gx_k (.slice A0 p0.length c0) w123 (gx_k (i6 x10) w123 (gx_k (i6 x11) w123 (gx_k (i6 x81) w123 ?_)))))))))
 have hP157 : St _ _ w123 ([rowE .u16 31 A0 c0 l104] ++ []) := hS124
 obtain ⟨⟨x159, b160, l161⟩, hc158, hO129⟩ := bind_in hO129
 try dsimp only at hO129
 refine gx_call (zCut_R l104 x10 x11 x81 A0 c0 (x159, b160, l161) w123) (by kernel_rfl) (by rw [← hn103] <;> kernel_rfl) (zCut_ok N l104 x10 x11 x81 A0 c0 _ hc158 w123 hP157.part) ?_
 rintro _ w163 ⟨rfl, hT165, hl162⟩
 have hS164 : St _ _ w163 [rowE .u16 31 A0 c0 l161] := hP157.lendN _ hT165
 refine gx_k (.tuple #[i6 x159, .bool b160]) w163 (gx_k (i6 x159) w163 (gx_k (.bool b160) w163 (gx_k (i6 x159) w163 (gx_k (.bool b160) w163 (gx_nil (gx_thenN (hK156 _ _ (gx_seq (fun K166 hK167 => gx_region (gx_k (.bool b160) w163 (gx_k (.bool b160) w163 (gx_nil ?_))))))))))))
 refine gx_thenN (hK167 _ _ (gx_seq (fun K168 hK169 => gx_region (gx_k (i6 x159) w163 (gx_k (i6 x10) w163 (gx_k (i6 (iw (x159 - x10))) w163 (gx_k (i6 x11) w163 (gx_k (i6 x159) w163 (gx_k (i6 (iw (x11 - x159))) w163 (gx_k (i6 (iw (x159 - x10))) w163 (gx_k (i6 (iw (x11 - x159))) w163 (gx_nil (gx_thenN (hK169 _ _ ?_))))))))))))))
 refine gx_seq (fun K170 hK171 => gx_region (gx_k (i6 (iw (x11 - x10))) w163 (gx_k (i6 (iw (Int.tdiv (iw (x11 - x10)) 8))) w163 (gx_k (i6 (iw (Int.tdiv (iw (x11 - x10)) 8))) w163 (gx_nil (gx_thenN (hK171 _ _ (gx_seq (fun K172 hK173 => gx_region ?_)))))))))
 refine gx_k (i6 (iw (x159 - x10))) w163 (gx_k (i6 (iw (x11 - x159))) w163 ?_)
 rcases if_in hO129 with ⟨h174, hO129⟩ | ⟨h174, hO129⟩
 refine gx_v (.bool true) w163 (rbE (decide_eq_true h174)) (gx_nil (gx_thenN (hK173 _ _ (gx_yes (by kernel_rfl) (gx_seq (fun K175 hK176 => gx_region (gx_k (i6 (iw (x159 - x10))) w163 (gx_k (i6 (iw (Int.tdiv (iw (x11 - x10)) 8))) w163 ?_))))))))
 rcases if_in hO129 with ⟨h177, hO129⟩ | ⟨h177, hO129⟩
 refine gx_v (.bool true) w163 (rbE (decide_eq_true h177)) (gx_k (.bool true) w163 (gx_nil (gx_thenN (hK176 _ _ (gx_seq (fun K178 hK179 => gx_region (gx_k (.slice A0 p0.length c0) w163 (gx_k (i6 x10) w163 (gx_k (i6 x159) w163 (gx_k (i6 x52) w163 ?_))))))))))
 have hP180 : St _ _ w163 ([rowE .u16 31 A0 c0 l161] ++ []) := hS164
 obtain ⟨l182, hc181, hO129⟩ := bind_in hO129
 try dsimp only at hO129
 refine gx_call (zPdq_R l161 x10 x159 x52 A0 c0 l182 w163) (by kernel_rfl) (by rw [← (hn103.trans hl162.symm)] <;> kernel_rfl) (hself l161 x10 x159 x52 A0 c0 _ hc181 w163 hP180.part) ?_
 rintro _ w184 ⟨rfl, hT186, hl183⟩
 have hS185 : St _ _ w184 [rowE .u16 31 A0 c0 l182] := hP180.lendN _ hT186
 refine gx_nil (gx_thenN (hK179 _ _ (gx_region (gx_k (i6 x159) w184 (gx_k (i6 (iw (x159 + 1))) w184 (gx_k (i6 (iw (x159 + 1))) w184 (gx_nil (gx_blkN (gx_thenN ?_)))))))))
 exact ⟨k15, Nat.lt_succ_self k15, l182, (iw (x159 + 1)), x11, x52, true, b160, selfA_i (by kernel_rfl), hO129, hS185, ((hn103.trans hl162.symm).trans hl183.symm)⟩
 refine gx_v (.bool false) w163 (rbE (decide_eq_false h177)) (gx_k (.bool false) w163 (gx_nil (gx_thenN (hK176 _ _ (gx_seq (fun K187 hK188 => gx_region (gx_k (.slice A0 p0.length c0) w163 (gx_k (i6 x10) w163 (gx_k (i6 x159) w163 (gx_k (i6 x52) w163 ?_))))))))))
 have hP189 : St _ _ w163 ([rowE .u16 31 A0 c0 l161] ++ []) := hS164
 obtain ⟨l191, hc190, hO129⟩ := bind_in hO129
 try dsimp only at hO129
 refine gx_call (zPdq_R l161 x10 x159 x52 A0 c0 l191 w163) (by kernel_rfl) (by rw [← (hn103.trans hl162.symm)] <;> kernel_rfl) (hself l161 x10 x159 x52 A0 c0 _ hc190 w163 hP189.part) ?_
 rintro _ w193 ⟨rfl, hT195, hl192⟩
 have hS194 : St _ _ w193 [rowE .u16 31 A0 c0 l191] := hP189.lendN _ hT195
 refine gx_nil (gx_thenN (hK188 _ _ (gx_region (gx_k (i6 x159) w193 (gx_k (i6 (iw (x159 + 1))) w193 (gx_k (i6 (iw (x159 + 1))) w193 (gx_nil (gx_blkN (gx_thenN ?_)))))))))
 exact ⟨k15, Nat.lt_succ_self k15, l191, (iw (x159 + 1)), x11, x52, false, b160, selfA_i (by kernel_rfl), hO129, hS194, ((hn103.trans hl162.symm).trans hl192.symm)⟩
 refine gx_v (.bool false) w163 (rbE (decide_eq_false h174)) (gx_nil (gx_thenN (hK173 _ _ (gx_no (by kernel_rfl) (gx_seq (fun K196 hK197 => gx_region (gx_k (i6 (iw (x11 - x159))) w163 (gx_k (i6 (iw (Int.tdiv (iw (x11 - x10)) 8))) w163 ?_))))))))
 rcases if_in hO129 with ⟨h198, hO129⟩ | ⟨h198, hO129⟩
 refine gx_v (.bool true) w163 (rbE (decide_eq_true h198)) (gx_k (.bool true) w163 (gx_nil (gx_thenN (hK197 _ _ (gx_seq (fun K199 hK200 => gx_region (gx_k (.slice A0 p0.length c0) w163 (gx_k (i6 x159) w163 (gx_k (i6 (iw (x159 + 1))) w163 (gx_k (i6 x11) w163 (gx_k (i6 x52) w163 ?_)))))))))))
 have hP201 : St _ _ w163 ([rowE .u16 31 A0 c0 l161] ++ []) := hS164
 obtain ⟨l203, hc202, hO129⟩ := bind_in hO129
 try dsimp only at hO129
 refine gx_call (zPdq_R l161 (iw (x159 + 1)) x11 x52 A0 c0 l203 w163) (by kernel_rfl) (by rw [← (hn103.trans hl162.symm)] <;> kernel_rfl) (hself l161 (iw (x159 + 1)) x11 x52 A0 c0 _ hc202 w163 hP201.part) ?_
 rintro _ w205 ⟨rfl, hT207, hl204⟩
 have hS206 : St _ _ w205 [rowE .u16 31 A0 c0 l203] := hP201.lendN _ hT207
 refine gx_nil (gx_thenN (hK200 _ _ (gx_region (gx_k (i6 x159) w205 (gx_k (i6 x159) w205 (gx_nil (gx_blkN (gx_thenN ?_))))))))
 exact ⟨k15, Nat.lt_succ_self k15, l203, x10, x159, x52, true, b160, selfA_i (by kernel_rfl), hO129, hS206, ((hn103.trans hl162.symm).trans hl204.symm)⟩
 refine gx_v (.bool false) w163 (rbE (decide_eq_false h198)) (gx_k (.bool false) w163 (gx_nil (gx_thenN (hK197 _ _ (gx_seq (fun K208 hK209 => gx_region (gx_k (.slice A0 p0.length c0) w163 (gx_k (i6 x159) w163 (gx_k (i6 (iw (x159 + 1))) w163 (gx_k (i6 x11) w163 (gx_k (i6 x52) w163 ?_)))))))))))
 have hP210 : St _ _ w163 ([rowE .u16 31 A0 c0 l161] ++ []) := hS164
 obtain ⟨l212, hc211, hO129⟩ := bind_in hO129
 try dsimp only at hO129
 refine gx_call (zPdq_R l161 (iw (x159 + 1)) x11 x52 A0 c0 l212 w163) (by kernel_rfl) (by rw [← (hn103.trans hl162.symm)] <;> kernel_rfl) (hself l161 (iw (x159 + 1)) x11 x52 A0 c0 _ hc211 w163 hP210.part) ?_
 rintro _ w214 ⟨rfl, hT216, hl213⟩
 have hS215 : St _ _ w214 [rowE .u16 31 A0 c0 l212] := hP210.lendN _ hT216
 refine gx_nil (gx_thenN (hK209 _ _ (gx_region (gx_k (i6 x159) w214 (gx_k (i6 x159) w214 (gx_nil (gx_blkN (gx_thenN ?_))))))))
 exact ⟨k15, Nat.lt_succ_self k15, l212, x10, x159, x52, false, b160, selfA_i (by kernel_rfl), hO129, hS215, ((hn103.trans hl162.symm).trans hl213.symm)⟩
 try dsimp only at hO129
 refine gx_yes (by kernel_rfl) (gx_seq (fun K143 hK144 => gx_region (gx_k (.slice A0 p0.length c0) w123 (gx_k (i6 x10) w123 (gx_k (i6 x11) w123 (gx_k (i6 x81) w123 ?_))))))
 have hP145 : St _ _ w123 ([rowE .u16 31 A0 c0 l104] ++ []) := hS124
 obtain ⟨⟨x147, l148⟩, hc146, hO129⟩ := bind_in hO129
 try dsimp only at hO129
 refine gx_call (zEq_R l104 x10 x11 x81 A0 c0 (x147, l148) w123) (by kernel_rfl) (by rw [← hn103] <;> kernel_rfl) (zEq_ok N l104 x10 x11 x81 A0 c0 _ hc146 w123 hP145.part) ?_
 rintro _ w150 ⟨rfl, hT152, hl149⟩
 have hS151 : St _ _ w150 [rowE .u16 31 A0 c0 l148] := hP145.lendN _ hT152
 refine gx_k (i6 x147) w150 (gx_nil (gx_thenN (hK144 _ _ (gx_seq (fun K153 hK154 => gx_region (gx_k (i6 x147) w150 (gx_k (i6 x147) w150 (gx_nil ?_))))))))
 refine gx_thenN (hK154 _ _ (gx_exit (gx_thenE (gx_blkE (gx_thenN ?_)))))
 exact ⟨k15, Nat.lt_succ_self k15, l148, x147, x11, x52, b13, b14, selfA_i (by kernel_rfl), hO129, hS151, (hn103.trans hl149.symm)⟩
 def zPdq_Q (N : Nat) : Nat → List Int → Int → Int → Int → Option (List Int)
 | 0, _, _, _, _ => none
 | n + 1, p0, p1, p2, p3 => zPdqB N (zPdq_Q N n) p0 p1 p2 p3
theorem zPdq_Q_ok (N : Nat) : ∀ (n : Nat) (p0 : List Int) (p1 : Int) (p2 : Int) (p3 : Int) (A0 : Option Addr) (c0 : Nat) (r : List Int), zPdq_Q N n p0 p1 p2 p3 = some r → ∀ (w0 : World) (hl : St (foots [rowE .u16 31 A0 c0 p0]) w0 w0 [rowE .u16 31 A0 c0 p0]), Calls Try.prog 99 #[.slice A0 p0.length c0, .int .i64 p1, .int .i64 p2, .int .i64 p3] w0 fun e w => ∃ v, e = .returned v ∧ zPdq_R p0 p1 p2 p3 A0 c0 r w0 v w
 | 0, _, _, _, _, _, _, _, h => by cases h
 | n + 1, p0, p1, p2, p3, A0, c0, r, h => fun w0 hl => zPdqB_ok N (zPdq_Q N n) (zPdq_Q_ok N n) p0 p1 p2 p3 A0 c0 r h w0 hl
def zPdq (N : Nat) (p0 : List Int) (p1 : Int) (p2 : Int) (p3 : Int) : Option (List Int) := zPdq_Q N N p0 p1 p2 p3
theorem zPdq_ok (N : Nat) (p0 : List Int) (p1 : Int) (p2 : Int) (p3 : Int) (A0 : Option Addr) (c0 : Nat) (r : List Int) (hF : zPdq N p0 p1 p2 p3 = some r) (w0 : World) (hl : St (foots [rowE .u16 31 A0 c0 p0]) w0 w0 [rowE .u16 31 A0 c0 p0]) :
  Calls Try.prog 99 #[.slice A0 p0.length c0, .int .i64 p1, .int .i64 p2, .int .i64 p3] w0 fun e w => ∃ v, e = .returned v ∧ zPdq_R p0 p1 p2 p3 A0 c0 r w0 v w :=
 zPdq_Q_ok N N p0 p1 p2 p3 A0 c0 r hF w0 hl
def zSort (N : Nat) (p0 : List Int) : Option (List Int) :=
 ((zLen N (IntKind.u64.wrap ((p0.length : Nat) : Int))).bind fun x5 => ((zPdq N p0 (0 : Int) ((p0.length : Nat) : Int) x5).bind fun l11 => some l11))
def zSort_R (p0 : List Int) (A0 : Option Addr) (c0 : Nat) (r : List Int) (w0 : World) (v : Value) (w : World) : Prop := v = .tuple #[] ∧ St (foots [rowE .u16 31 A0 c0 p0]) w0 w [rowE .u16 31 A0 c0 r] ∧ r.length = p0.length
theorem zSort_ok (N : Nat) (p0 : List Int) (A0 : Option Addr) (c0 : Nat) (r : List Int) (hF : zSort N p0 = some r) (w0 : World) (hl : St (foots [rowE .u16 31 A0 c0 p0]) w0 w0 [rowE .u16 31 A0 c0 p0]) :
  Calls Try.prog 84 #[.slice A0 p0.length c0] w0 fun e w => ∃ v, e = .returned v ∧ zSort_R p0 A0 c0 r w0 v w := by
 have hS0 := hl
 unfold zSort at hF
 refine calls_of Try.func84 rfl ⟨((.slice A0 p0.length c0) :: un 10 ([])).toArray, []⟩ (by kernel_rfl) (gx_seq (fun K1 hK2 => gx_region (gx_k (.slice A0 p0.length c0) w0 (gx_k (i6 ((p0.length : Nat) : Int)) w0 (gx_k (i6 ((p0.length : Nat) : Int)) w0 (gx_nil (gx_thenN (hK2 _ _ (gx_region ?_)))))))))
 refine gx_k (.slice A0 p0.length c0) w0 (gx_k (i6 ((p0.length : Nat) : Int)) w0 (gx_k (i6 ((p0.length : Nat) : Int)) w0 (gx_k (.int .u64 (IntKind.u64.wrap ((p0.length : Nat) : Int))) w0 ?_)))
 have hP3 : St _ _ w0 ([] ++ [rowE .u16 31 A0 c0 p0]) := hS0
 obtain ⟨x5, hc4, hF⟩ := bind_in hF
 try dsimp only at hF
 refine gx_c _ (zLen_ok N (IntKind.u64.wrap ((p0.length : Nat) : Int)) _ hc4 w0 ) ?_
 rintro _ w6 ⟨rfl, hT8⟩
 have hS7 : St _ _ w6 [rowE .u16 31 A0 c0 p0] := hS0.take _ hT8
 have hP9 : St _ _ w6 ([rowE .u16 31 A0 c0 p0] ++ []) := hS7
 obtain ⟨l11, hc10, hF⟩ := bind_in hF
 try dsimp only at hF
 refine gx_c _ (zPdq_ok N p0 (0 : Int) ((p0.length : Nat) : Int) x5 A0 c0 _ hc10 w6 hP9.part) ?_
 rintro _ w13 ⟨rfl, hT15, hl12⟩
 have hS14 : St _ _ w13 [rowE .u16 31 A0 c0 l11] := hP9.lendN _ hT15
 refine gx_nil ?_
 obtain rfl := sj hF
 exact gx_finN (.tuple #[]) (by kernel_rfl) (by kernel_rfl) ⟨_, rfl, rfl, hS14, (hl12.symm).symm⟩
end Go.Proofs.Ytgjlpiljacecpaa

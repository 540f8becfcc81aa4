/-
  The document's later rules, walked.
-/
import Derived.Test.YtdbimchiecdkoaaGreatRU
namespace Go.Proofs.YtdbimchiecdkoaaGreat
open Go Go.RowKit
set_option maxRecDepth 100000
set_option maxHeartbeats 4000000
set_option linter.unusedVariables false
def rLat (N : Nat) (p0 : List (Int × Int × Int × Bool × Bool)) (p1 : Int) (p2 : Int) (p3 : Int) (_p4 : Int) (p5 : Int) (p6 : Int) : Option (Int) :=
 ((((((rLet N p2).bind fun b21 => (match b21 with | true => (if p3 = 27 then some (true) else some (false)) | false => some (false))) : Option (Bool)).bind fun b15 => (match b15 with | true => some (true) | false => (if p2 = 27 then ((rLet N p3).bind fun b29 => some (b29)) else some (false)))) : Option (Bool)).bind fun b8 => (match b8 with | true => some 0 | false => (((((if p2 = 26 then ((rIn N p3 ([29, 30, 31])).bind fun b55 => some (b55)) else some (false)) : Option (Bool)).bind fun b46 => (match b46 with | true => some (true) | false => ((rIn N p2 ([29, 30, 31])).bind fun b63 => (match b63 with | true => (if p3 = 25 then some (true) else some (false)) | false => some (false))))) : Option (Bool)).bind fun b39 => (match b39 with | true => some 0 | false => (((((if p2 = 26 then ((rLet N p3).bind fun b88 => some (b88)) else (if p2 = 25 then ((rLet N p3).bind fun b95 => some (b95)) else some (false))) : Option (Bool)).bind fun b81 => (match b81 with | true => some (true) | false => ((rLet N p2).bind fun b101 => (match b101 with | true => (if p3 = 26 then some (true) else (if p3 = 25 then some (true) else some (false))) | false => some (false))))) : Option (Bool)).bind fun b74 => (match b74 with | true => some 0 | false => (((((if p3 = 25 then some (true) else (if p3 = 26 then some (true) else some (false))) : Option (Bool)).bind fun b120 => (match b120 with | true => (((if p2 = 21 then some (true) else (if p2 = 20 then some (true) else some (false))) : Option (Bool)).bind fun b130 => (((match b130 with | true => (if p1 ≥ 2 then some (true) else some (false)) | false => some (false)) : Option (Bool)).bind fun b140 => (((match b140 with | true => ((rNum N p0 (IntKind.i64.wrap (p1 - 2))).bind fun b156 => some (b156)) | false => some (false)) : Option (Bool)).bind fun b149 => (match b149 with | true => some (true) | false => ((rNum N p0 (IntKind.i64.wrap (p1 - 1))).bind fun b162 => some (b162)))))) | false => some (false))) : Option (Bool)).bind fun b113 => (match b113 with | true => some 0 | false => (((((if p2 = 25 then some (true) else (if p2 = 26 then some (true) else some (false))) : Option (Bool)).bind fun b178 => (match b178 with | true => (if p3 = 27 then some (true) else (if p3 = 19 then (if p5 = 27 then some (true) else (if p5 = 23 then (if p6 = 27 then some (true) else some (false)) else some (false))) else some (false))) | false => some (false))) : Option (Bool)).bind fun b171 => (match b171 with | true => some 0 | false => (((((if p2 = 14 then (if p3 = 27 then some (true) else some (false)) else (if p2 = 23 then (if p3 = 27 then some (true) else some (false)) else some (false))) : Option (Bool)).bind fun b202 => (match b202 with | true => some (true) | false => ((rNum N p0 (IntKind.i64.wrap (p1 - 1))).bind fun b212 => (match b212 with | true => (if p3 = 27 then some (true) else some (false)) | false => some (false))))) : Option (Bool)).bind fun b195 => (match b195 with | true => some 0 | false => (((((if p2 = 33 then ((rIn N p3 ([33, 34, 36, 37])).bind fun b239 => some (b239)) else some (false)) : Option (Bool)).bind fun b230 => (match b230 with | true => some (true) | false => (((((if p2 = 34 then some (true) else (if p2 = 36 then some (true) else some (false))) : Option (Bool)).bind fun b253 => (match b253 with | true => (if p3 = 34 then some (true) else (if p3 = 35 then some (true) else some (false))) | false => some (false))) : Option (Bool)).bind fun b246 => (match b246 with | true => some (true) | false => (if p2 = 35 then (if p3 = 35 then some (true) else some (false)) else (if p2 = 37 then (if p3 = 35 then some (true) else some (false)) else some (false))))))) : Option (Bool)).bind fun b223 => (match b223 with | true => some 0 | false => ((((((rHan N p2).bind fun b286 => (match b286 with | true => (if p3 = 25 then some (true) else some (false)) | false => some (false))) : Option (Bool)).bind fun b280 => (match b280 with | true => some (true) | false => (if p2 = 26 then ((rHan N p3).bind fun b294 => some (b294)) else some (false)))) : Option (Bool)).bind fun b273 => (match b273 with | true => some 0 | false => ((((((rLet N p2).bind fun b317 => (match b317 with | true => ((rLet N p3).bind fun b323 => some (b323)) | false => some (false))) : Option (Bool)).bind fun b311 => (match b311 with | true => some (true) | false => (if p2 = 23 then ((rLet N p3).bind fun b330 => some (b330)) else some (false)))) : Option (Bool)).bind fun b304 => (match b304 with | true => some 0 | false => ((((((((rLet N p2).bind fun b361 => (match b361 with | true => some (true) | false => (if p2 = 27 then some (true) else some (false)))) : Option (Bool)).bind fun b354 => (((match b354 with | true => (if p3 = 19 then some (true) else some (false)) | false => some (false)) : Option (Bool)).bind fun b369 => (match b369 with | true => ((ixg p0 p1).bind fun x375 => (match x375.2.2.2.2 with | true => some (false) | false => some (true))) | false => some (false)))) : Option (Bool)).bind fun b347 => (match b347 with | true => some (true) | false => (((if p2 = 20 then ((ixg p0 (IntKind.i64.wrap (p1 - 1))).bind fun x410 => (match x410.2.2.2.2 with | true => some (false) | false => some (true))) else some (false)) : Option (Bool)).bind fun b404 => (match b404 with | true => ((rLet N p3).bind fun b438 => (match b438 with | true => some (true) | false => (if p3 = 27 then some (true) else some (false)))) | false => some (false))))) : Option (Bool)).bind fun b340 => (match b340 with | true => some 0 | false => (((((if p2 = 32 then (if p3 = 32 then some (true) else some (false)) else some (false)) : Option (Bool)).bind fun b458 => (match b458 with | true => ((rOdd N p0 (IntKind.i64.wrap (p1 - 1))).bind fun b467 => some (b467)) | false => some (false))) : Option (Bool)).bind fun b451 => (match b451 with | true => some 0 | false => (if p2 = 30 then (if p3 = 31 then some 0 else some 1) else some 1)))))))))))))))))))))))
def rLat_R (r : Int) (w0 : World) (v : Value) (w : World) : Prop := v = .int .u8 r ∧ St [] w0 w []
theorem rLat_ok (N : Nat) (p0 : List (Int × Int × Int × Bool × Bool)) (p1 : Int) (p2 : Int) (p3 : Int) (p4 : Int) (p5 : Int) (p6 : Int) (A0 : Option Addr) (c0 : Nat) (vs0 : List Value) (ft0 : List Nat) (r : Int) (hF : rLat N p0 p1 p2 p3 p4 p5 p6 = some r) (w0 : World) (hv0 : (fSl enccalamusref13Unit A0 c0 vs0 p0).rd w0 ft0) (ho0 : Off [] w0 ft0) :
  Calls Tryz.prog 74 #[.slice A0 p0.length c0, .int .i64 p1, .int .i64 p2, .int .i64 p3, .int .i64 p4, .int .i64 p5, .int .i64 p6] w0 fun e w => ∃ v, e = .returned v ∧ rLat_R r w0 v w := by
 have hS0 := (St.start w0).pool0
 unfold rLat at hF
 refine calls_of Tryz.func74 rfl ⟨((.slice A0 p0.length c0) :: (i6 p1) :: (i6 p2) :: (i6 p3) :: (i6 p4) :: (i6 p5) :: (i6 p6) :: un 249 ([])).toArray, []⟩ (by as_aux_lemma => kernel_rfl) (gx_seq (fun K1 hK2 => gx_region (gx_kA (.int .u8 0) w0 (gx_nil (gx_thenN (hK2 _ _ (gx_seq (fun K3 hK4 => ?_))))))))
 refine gx_block ?_
 obtain ⟨c9, hE10, hO11⟩ := bind_in hF
 refine gx_cut (fun a w => ∃ (b8 : Bool), selfA (fun u7 => ⟨((.slice A0 p0.length c0) :: (i6 p1) :: (i6 p2) :: (i6 p3) :: (i6 p4) :: (i6 p5) :: (i6 p6) :: un 7 ((.int .u8 0) :: (.bool b8) :: dd u7 16 12 (un 228 ([])))).toArray, []⟩) a ∧ b8 = c9 ∧ St [] w0 w [poolE ([]) w0]) ?_ ?_
 obtain ⟨c16, hE17, hO18⟩ := bind_in hE10
 refine gx_cut (fun a w => ∃ (b15 : Bool), selfA (fun u14 => ⟨((.slice A0 p0.length c0) :: (i6 p1) :: (i6 p2) :: (i6 p3) :: (i6 p4) :: (i6 p5) :: (i6 p6) :: un 7 ((.int .u8 0) :: (.bool b15) :: dd u14 16 6 (un 234 ([])))).toArray, []⟩) a ∧ b15 = c16 ∧ St [] w0 w [poolE ([]) w0]) ?_ ?_
 refine gx_region (gx_kA (i6 p2) w0 ?_)
 have hP19 : St _ _ w0 ([] ++ [poolE ([]) w0]) := hS0
 obtain ⟨b21, hc20, hE17⟩ := bind_in hE17
 try dsimp only at hE17
 refine gx_cA _ (rLet_ok N p2 _ hc20 w0 ) ?_
 rintro _ w22 ⟨rfl, hT24⟩
 have hS23 : St _ _ w22 [poolE ([]) w0] := hS0.take _ hT24
 refine gx_kA (.bool b21) w22 ?_
 rcases b21 with _ | _
 try dsimp only at hE17
 refine gx_oA (gx_oA (gx_kA (.bool false) w22 (gx_kA (.bool false) w22 (gx_nil (gx_thenN ?_)))))
 exact ⟨false, selfX, (sj hE17), hS23⟩
 try dsimp only at hE17
 refine gx_kA (i6 p3) w22 ?_
 rcases if_in hE17 with ⟨h25, hE17⟩ | ⟨h25, hE17⟩
 refine gx_vA (.bool true) w22 (rbE (decide_eq_true h25)) (gx_kA (.bool true) w22 (gx_kA (.bool true) w22 (gx_nil (gx_thenN ?_))))
 exact ⟨true, selfX, (sj hE17), hS23⟩
 refine gx_vA (.bool false) w22 (rbE (decide_eq_false h25)) (gx_kA (.bool false) w22 (gx_kA (.bool false) w22 (gx_nil (gx_thenN ?_))))
 exact ⟨false, selfX, (sj hE17), hS23⟩
 rintro _ w12 ⟨b15, hq33, rfl, hS13⟩
 obtain ⟨u14, rfl⟩ := selfA_u hq33
 try dsimp only at hO18
 rcases b15 with _ | _
 try dsimp only at hO18
 refine gx_no (by as_aux_lemma => kernel_rfl) (gx_region (gx_kA (i6 p2) w12 ?_))
 rcases if_in hO18 with ⟨h26, hO18⟩ | ⟨h26, hO18⟩
 refine gx_vA (.bool true) w12 (rbE (decide_eq_true h26)) (gx_kA (.bool true) w12 (gx_kA (i6 p3) w12 ?_))
 have hP27 : St _ _ w12 ([] ++ [poolE ([]) w0]) := hS13
 obtain ⟨b29, hc28, hO18⟩ := bind_in hO18
 try dsimp only at hO18
 refine gx_cA _ (rLet_ok N p3 _ hc28 w12 ) ?_
 rintro _ w30 ⟨rfl, hT32⟩
 have hS31 : St _ _ w30 [poolE ([]) w0] := hS13.take _ hT32
 refine gx_kA (.bool b29) w30 (gx_kA (.bool b29) w30 (gx_nil (gx_thenN ?_)))
 exact ⟨b29, selfX, (sj hO18), hS31⟩
 refine gx_vA (.bool false) w12 (rbE (decide_eq_false h26)) (gx_kA (.bool false) w12 (gx_oA (gx_oA (gx_kA (.bool false) w12 (gx_kA (.bool false) w12 (gx_nil (gx_thenN ?_)))))))
 exact ⟨false, selfX, (sj hO18), hS13⟩
 try dsimp only at hO18
 refine gx_yes (by as_aux_lemma => kernel_rfl) (gx_pass (gx_thenN ?_))
 exact ⟨true, selfX, (sj hO18), hS13⟩
 rintro _ w5 ⟨b8, hq491, rfl, hS6⟩
 obtain ⟨u7, rfl⟩ := selfA_u hq491
 try dsimp only at hO11
 rcases b8 with _ | _
 try dsimp only at hO11
 refine gx_no (by as_aux_lemma => kernel_rfl) ?_
 obtain ⟨c40, hE41, hO42⟩ := bind_in hO11
 refine gx_cut (fun a w => ∃ (b39 : Bool), selfA (fun u38 => ⟨((.slice A0 p0.length c0) :: (i6 p1) :: (i6 p2) :: (i6 p3) :: (i6 p4) :: (i6 p5) :: (i6 p6) :: un 7 ((.int .u8 0) :: (.bool false) :: dd u7 16 12 ((.bool b39) :: dd u38 29 14 (un 213 ([]))))).toArray, []⟩) a ∧ b39 = c40 ∧ St [] w0 w [poolE ([]) w0]) ?_ ?_
 obtain ⟨c47, hE48, hO49⟩ := bind_in hE41
 refine gx_cut (fun a w => ∃ (b46 : Bool), selfA (fun u45 => ⟨((.slice A0 p0.length c0) :: (i6 p1) :: (i6 p2) :: (i6 p3) :: (i6 p4) :: (i6 p5) :: (i6 p6) :: un 7 ((.int .u8 0) :: (.bool false) :: dd u7 16 12 ((.bool b46) :: dd u45 29 7 (un 220 ([]))))).toArray, []⟩) a ∧ b46 = c47 ∧ St [] w0 w [poolE ([]) w0]) ?_ ?_
 refine gx_region (gx_kA (i6 p2) w5 ?_)
 rcases if_in hE48 with ⟨h50, hE48⟩ | ⟨h50, hE48⟩
 refine gx_vA (.bool true) w5 (rbE (decide_eq_true h50)) (gx_kA (.bool true) w5 (gx_kA (i6 p3) w5 (gx_rA (st_made .i64 3 [29, 30, 31] hS6 (by show 3 ≤ 1000000000; decide) (by as_aux_lemma => kernel_rfl)) ?_)))
 rintro _ w51 ⟨rfl, hS52⟩
 have hS52 : St _ _ w51 [poolE ([]) w0, rowE .i64 3 (some ⟨w5.heap.size, 0, none⟩) 3 ([29, 30, 31])] := hS52
 have hP53 : St _ _ w51 ([] ++ [poolE ([]) w0, rowE .i64 3 (some ⟨w5.heap.size, 0, none⟩) 3 ([29, 30, 31])]) := hS52
 obtain ⟨b55, hc54, hE48⟩ := bind_in hE48
 try dsimp only at hE48
 refine gx_cA _ (rIn_ok N p3 ([29, 30, 31]) (some ⟨w5.heap.size, 0, none⟩) 3 _ hc54 w51 (hP53.vwB 1 rfl)) ?_
 rintro _ w56 ⟨rfl, hT58⟩
 have hS57 : St _ _ w56 [poolE ([]) w0, rowE .i64 3 (some ⟨w5.heap.size, 0, none⟩) 3 ([29, 30, 31])] := hS52.take _ hT58
 refine gx_kA (.bool b55) w56 (gx_kA (.bool b55) w56 (gx_nil (gx_thenN ?_)))
 exact ⟨b55, selfX, (sj hE48), (hS57.pick [0] rfl rfl)⟩
 refine gx_vA (.bool false) w5 (rbE (decide_eq_false h50)) (gx_kA (.bool false) w5 (gx_oA (gx_oA (gx_oA (gx_kA (.bool false) w5 (gx_kA (.bool false) w5 (gx_nil (gx_thenN ?_))))))))
 exact ⟨false, selfX, (sj hE48), hS6⟩
 rintro _ w43 ⟨b46, hq68, rfl, hS44⟩
 obtain ⟨u45, rfl⟩ := selfA_u hq68
 try dsimp only at hO49
 rcases b46 with _ | _
 try dsimp only at hO49
 refine gx_no (by as_aux_lemma => kernel_rfl) (gx_region (gx_kA (i6 p2) w43 (gx_rA (st_made .i64 3 [29, 30, 31] hS44 (by show 3 ≤ 1000000000; decide) (by as_aux_lemma => kernel_rfl)) ?_)))
 rintro _ w59 ⟨rfl, hS60⟩
 have hS60 : St _ _ w59 [poolE ([]) w0, rowE .i64 3 (some ⟨w43.heap.size, 0, none⟩) 3 ([29, 30, 31])] := hS60
 have hP61 : St _ _ w59 ([] ++ [poolE ([]) w0, rowE .i64 3 (some ⟨w43.heap.size, 0, none⟩) 3 ([29, 30, 31])]) := hS60
 obtain ⟨b63, hc62, hO49⟩ := bind_in hO49
 try dsimp only at hO49
 refine gx_cA _ (rIn_ok N p2 ([29, 30, 31]) (some ⟨w43.heap.size, 0, none⟩) 3 _ hc62 w59 (hP61.vwB 1 rfl)) ?_
 rintro _ w64 ⟨rfl, hT66⟩
 have hS65 : St _ _ w64 [poolE ([]) w0, rowE .i64 3 (some ⟨w43.heap.size, 0, none⟩) 3 ([29, 30, 31])] := hS60.take _ hT66
 refine gx_kA (.bool b63) w64 ?_
 rcases b63 with _ | _
 try dsimp only at hO49
 refine gx_oA (gx_oA (gx_kA (.bool false) w64 (gx_kA (.bool false) w64 (gx_nil (gx_thenN ?_)))))
 exact ⟨false, selfX, (sj hO49), (hS65.pick [0] rfl rfl)⟩
 try dsimp only at hO49
 refine gx_kA (i6 p3) w64 ?_
 rcases if_in hO49 with ⟨h67, hO49⟩ | ⟨h67, hO49⟩
 refine gx_vA (.bool true) w64 (rbE (decide_eq_true h67)) (gx_kA (.bool true) w64 (gx_kA (.bool true) w64 (gx_nil (gx_thenN ?_))))
 exact ⟨true, selfX, (sj hO49), (hS65.pick [0] rfl rfl)⟩
 refine gx_vA (.bool false) w64 (rbE (decide_eq_false h67)) (gx_kA (.bool false) w64 (gx_kA (.bool false) w64 (gx_nil (gx_thenN ?_))))
 exact ⟨false, selfX, (sj hO49), (hS65.pick [0] rfl rfl)⟩
 try dsimp only at hO49
 refine gx_yes (by as_aux_lemma => kernel_rfl) (gx_pass (gx_thenN ?_))
 exact ⟨true, selfX, (sj hO49), hS44⟩
 rintro _ w36 ⟨b39, hq490, rfl, hS37⟩
 obtain ⟨u38, rfl⟩ := selfA_u hq490
 try dsimp only at hO42
 rcases b39 with _ | _
 try dsimp only at hO42
 refine gx_no (by as_aux_lemma => kernel_rfl) ?_
 obtain ⟨c75, hE76, hO77⟩ := bind_in hO42
 refine gx_cut (fun a w => ∃ (b74 : Bool), selfA (fun u73 => ⟨((.slice A0 p0.length c0) :: (i6 p1) :: (i6 p2) :: (i6 p3) :: (i6 p4) :: (i6 p5) :: (i6 p6) :: un 7 ((.int .u8 0) :: (.bool false) :: dd u7 16 12 ((.bool false) :: dd u38 29 14 ((.bool b74) :: dd u73 44 20 (un 192 ([])))))).toArray, []⟩) a ∧ b74 = c75 ∧ St [] w0 w [poolE ([]) w0]) ?_ ?_
 obtain ⟨c82, hE83, hO84⟩ := bind_in hE76
 refine gx_cut (fun a w => ∃ (b81 : Bool), selfA (fun u80 => ⟨((.slice A0 p0.length c0) :: (i6 p1) :: (i6 p2) :: (i6 p3) :: (i6 p4) :: (i6 p5) :: (i6 p6) :: un 7 ((.int .u8 0) :: (.bool false) :: dd u7 16 12 ((.bool false) :: dd u38 29 14 ((.bool b81) :: dd u80 44 10 (un 202 ([])))))).toArray, []⟩) a ∧ b81 = c82 ∧ St [] w0 w [poolE ([]) w0]) ?_ ?_
 refine gx_region (gx_kA (i6 p2) w36 ?_)
 rcases if_in hE83 with ⟨h85, hE83⟩ | ⟨h85, hE83⟩
 refine gx_vA (.bool true) w36 (rbE (decide_eq_true h85)) (gx_kA (.bool true) w36 (gx_oA (gx_oA (gx_kA (.bool true) w36 (gx_kA (.bool true) w36 (gx_kA (i6 p3) w36 ?_))))))
 have hP86 : St _ _ w36 ([] ++ [poolE ([]) w0]) := hS37
 obtain ⟨b88, hc87, hE83⟩ := bind_in hE83
 try dsimp only at hE83
 refine gx_cA _ (rLet_ok N p3 _ hc87 w36 ) ?_
 rintro _ w89 ⟨rfl, hT91⟩
 have hS90 : St _ _ w89 [poolE ([]) w0] := hS37.take _ hT91
 refine gx_kA (.bool b88) w89 (gx_kA (.bool b88) w89 (gx_nil (gx_thenN ?_)))
 exact ⟨b88, selfX, (sj hE83), hS90⟩
 refine gx_vA (.bool false) w36 (rbE (decide_eq_false h85)) (gx_kA (.bool false) w36 (gx_kA (i6 p2) w36 ?_))
 rcases if_in hE83 with ⟨h92, hE83⟩ | ⟨h92, hE83⟩
 refine gx_vA (.bool true) w36 (rbE (decide_eq_true h92)) (gx_kA (.bool true) w36 (gx_kA (.bool true) w36 (gx_kA (i6 p3) w36 ?_)))
 have hP93 : St _ _ w36 ([] ++ [poolE ([]) w0]) := hS37
 obtain ⟨b95, hc94, hE83⟩ := bind_in hE83
 try dsimp only at hE83
 refine gx_cA _ (rLet_ok N p3 _ hc94 w36 ) ?_
 rintro _ w96 ⟨rfl, hT98⟩
 have hS97 : St _ _ w96 [poolE ([]) w0] := hS37.take _ hT98
 refine gx_kA (.bool b95) w96 (gx_kA (.bool b95) w96 (gx_nil (gx_thenN ?_)))
 exact ⟨b95, selfX, (sj hE83), hS97⟩
 refine gx_vA (.bool false) w36 (rbE (decide_eq_false h92)) (gx_kA (.bool false) w36 (gx_kA (.bool false) w36 (gx_oA (gx_oA (gx_kA (.bool false) w36 (gx_kA (.bool false) w36 (gx_nil (gx_thenN ?_))))))))
 exact ⟨false, selfX, (sj hE83), hS37⟩
 rintro _ w78 ⟨b81, hq107, rfl, hS79⟩
 obtain ⟨u80, rfl⟩ := selfA_u hq107
 try dsimp only at hO84
 rcases b81 with _ | _
 try dsimp only at hO84
 refine gx_no (by as_aux_lemma => kernel_rfl) (gx_region (gx_kA (i6 p2) w78 ?_))
 have hP99 : St _ _ w78 ([] ++ [poolE ([]) w0]) := hS79
 obtain ⟨b101, hc100, hO84⟩ := bind_in hO84
 try dsimp only at hO84
 refine gx_cA _ (rLet_ok N p2 _ hc100 w78 ) ?_
 rintro _ w102 ⟨rfl, hT104⟩
 have hS103 : St _ _ w102 [poolE ([]) w0] := hS79.take _ hT104
 refine gx_kA (.bool b101) w102 ?_
 rcases b101 with _ | _
 try dsimp only at hO84
 refine gx_oA (gx_oA (gx_oA (gx_oA (gx_oA (gx_oA (gx_kA (.bool false) w102 (gx_kA (.bool false) w102 (gx_nil (gx_thenN ?_)))))))))
 exact ⟨false, selfX, (sj hO84), hS103⟩
 try dsimp only at hO84
 refine gx_kA (i6 p3) w102 ?_
 rcases if_in hO84 with ⟨h105, hO84⟩ | ⟨h105, hO84⟩
 refine gx_vA (.bool true) w102 (rbE (decide_eq_true h105)) (gx_kA (.bool true) w102 (gx_oA (gx_oA (gx_kA (.bool true) w102 (gx_kA (.bool true) w102 (gx_kA (.bool true) w102 (gx_nil (gx_thenN ?_))))))))
 exact ⟨true, selfX, (sj hO84), hS103⟩
 refine gx_vA (.bool false) w102 (rbE (decide_eq_false h105)) (gx_kA (.bool false) w102 (gx_kA (i6 p3) w102 ?_))
 rcases if_in hO84 with ⟨h106, hO84⟩ | ⟨h106, hO84⟩
 refine gx_vA (.bool true) w102 (rbE (decide_eq_true h106)) (gx_kA (.bool true) w102 (gx_kA (.bool true) w102 (gx_kA (.bool true) w102 (gx_nil (gx_thenN ?_)))))
 exact ⟨true, selfX, (sj hO84), hS103⟩
 refine gx_vA (.bool false) w102 (rbE (decide_eq_false h106)) (gx_kA (.bool false) w102 (gx_kA (.bool false) w102 (gx_kA (.bool false) w102 (gx_nil (gx_thenN ?_)))))
 exact ⟨false, selfX, (sj hO84), hS103⟩
 try dsimp only at hO84
 refine gx_yes (by as_aux_lemma => kernel_rfl) (gx_pass (gx_thenN ?_))
 exact ⟨true, selfX, (sj hO84), hS79⟩
 rintro _ w71 ⟨b74, hq489, rfl, hS72⟩
 obtain ⟨u73, rfl⟩ := selfA_u hq489
 try dsimp only at hO77
 rcases b74 with _ | _
 try dsimp only at hO77
 refine gx_no (by as_aux_lemma => kernel_rfl) ?_
 obtain ⟨c114, hE115, hO116⟩ := bind_in hO77
 refine gx_cut (fun a w => ∃ (b113 : Bool), selfA (fun u112 => ⟨((.slice A0 p0.length c0) :: (i6 p1) :: (i6 p2) :: (i6 p3) :: (i6 p4) :: (i6 p5) :: (i6 p6) :: un 7 ((.int .u8 0) :: (.bool false) :: dd u7 16 12 ((.bool false) :: dd u38 29 14 ((.bool false) :: dd u73 44 20 ((.bool b113) :: dd u112 65 30 (un 161 ([]))))))).toArray, []⟩) a ∧ b113 = c114 ∧ St [] w0 w [poolE ([]) w0]) ?_ ?_
 refine gx_region (gx_kA (i6 p3) w71 ?_)
 obtain ⟨c121, hE122, hO123⟩ := bind_in hE115
 refine gx_part (l1 := [_, _, _, _, _]) (fun a w => ∃ (b120 : Bool), selfA (fun u119 => ⟨((.slice A0 p0.length c0) :: (i6 p1) :: (i6 p2) :: (i6 p3) :: (i6 p4) :: (i6 p5) :: (i6 p6) :: un 7 ((.int .u8 0) :: (.bool false) :: dd u7 16 12 ((.bool false) :: dd u38 29 14 ((.bool false) :: dd u73 44 20 (undef :: (i6 p3) :: dd u119 66 4 ((.bool b120) :: un 185 ([]))))))).toArray, []⟩) a ∧ b120 = c121 ∧ St [] w0 w [poolE ([]) w0]) rfl ?_ ?_
 rcases if_in hE122 with ⟨h125, hE122⟩ | ⟨h125, hE122⟩
 refine gx_vA (.bool true) w71 (rbE (decide_eq_true h125)) (gx_kA (.bool true) w71 (gx_oA (gx_oA (gx_kA (.bool true) w71 (gx_nil (gx_thenN ?_))))))
 exact ⟨true, selfX, (sj hE122), hS72⟩
 refine gx_vA (.bool false) w71 (rbE (decide_eq_false h125)) (gx_kA (.bool false) w71 (gx_kA (i6 p3) w71 ?_))
 rcases if_in hE122 with ⟨h126, hE122⟩ | ⟨h126, hE122⟩
 refine gx_vA (.bool true) w71 (rbE (decide_eq_true h126)) (gx_kA (.bool true) w71 (gx_nil (gx_thenN ?_)))
 exact ⟨true, selfX, (sj hE122), hS72⟩
 refine gx_vA (.bool false) w71 (rbE (decide_eq_false h126)) (gx_kA (.bool false) w71 (gx_nil (gx_thenN ?_)))
 exact ⟨false, selfX, (sj hE122), hS72⟩
 rintro _ w117 ⟨b120, hq124, rfl, hS118⟩
 obtain ⟨u119, rfl⟩ := selfA_u hq124
 try dsimp only at hO123
 refine gx_kA (.bool b120) w117 ?_
 rcases b120 with _ | _
 try dsimp only at hO123
 refine gx_oA (gx_oA (gx_oA (gx_oA (gx_oA (gx_oA (gx_oA (gx_oA (gx_oA (gx_oA (gx_oA (gx_oA (gx_oA (gx_oA (gx_oA (gx_oA (gx_oA (gx_oA (gx_oA (gx_oA (gx_oA (gx_oA (gx_kA (.bool false) w117 (gx_kA (.bool false) w117 (gx_nil (gx_thenN ?_)))))))))))))))))))))))))
 exact ⟨false, selfX, (sj hO123), hS118⟩
 try dsimp only at hO123
 refine gx_kA (i6 p2) w117 ?_
 obtain ⟨c131, hE132, hO133⟩ := bind_in hO123
 refine gx_part (l1 := [_, _, _, _, _]) (fun a w => ∃ (b130 : Bool), selfA (fun u129 => ⟨((.slice A0 p0.length c0) :: (i6 p1) :: (i6 p2) :: (i6 p3) :: (i6 p4) :: (i6 p5) :: (i6 p6) :: un 7 ((.int .u8 0) :: (.bool false) :: dd u7 16 12 ((.bool false) :: dd u38 29 14 ((.bool false) :: dd u73 44 20 (undef :: (i6 p3) :: dd u119 66 4 ((.bool true) :: (.bool true) :: (i6 p2) :: dd u129 73 4 ((.bool b130) :: un 178 ([])))))))).toArray, []⟩) a ∧ b130 = c131 ∧ St [] w0 w [poolE ([]) w0]) rfl ?_ ?_
 rcases if_in hE132 with ⟨h135, hE132⟩ | ⟨h135, hE132⟩
 refine gx_vA (.bool true) w117 (rbE (decide_eq_true h135)) (gx_kA (.bool true) w117 (gx_oA (gx_oA (gx_kA (.bool true) w117 (gx_nil (gx_thenN ?_))))))
 exact ⟨true, selfX, (sj hE132), hS118⟩
 refine gx_vA (.bool false) w117 (rbE (decide_eq_false h135)) (gx_kA (.bool false) w117 (gx_kA (i6 p2) w117 ?_))
 rcases if_in hE132 with ⟨h136, hE132⟩ | ⟨h136, hE132⟩
 refine gx_vA (.bool true) w117 (rbE (decide_eq_true h136)) (gx_kA (.bool true) w117 (gx_nil (gx_thenN ?_)))
 exact ⟨true, selfX, (sj hE132), hS118⟩
 refine gx_vA (.bool false) w117 (rbE (decide_eq_false h136)) (gx_kA (.bool false) w117 (gx_nil (gx_thenN ?_)))
 exact ⟨false, selfX, (sj hE132), hS118⟩
 rintro _ w127 ⟨b130, hq134, rfl, hS128⟩
 obtain ⟨u129, rfl⟩ := selfA_u hq134
 try dsimp only at hO133
 obtain ⟨c141, hE142, hO143⟩ := bind_in hO133
 refine gx_part (l1 := [_, _, _, _]) (fun a w => ∃ (b140 : Bool), selfA (fun u139 => ⟨((.slice A0 p0.length c0) :: (i6 p1) :: (i6 p2) :: (i6 p3) :: (i6 p4) :: (i6 p5) :: (i6 p6) :: un 7 ((.int .u8 0) :: (.bool false) :: dd u7 16 12 ((.bool false) :: dd u38 29 14 ((.bool false) :: dd u73 44 20 (undef :: (i6 p3) :: dd u119 66 4 ((.bool true) :: (.bool true) :: (i6 p2) :: dd u129 73 4 ((.bool b130) :: dd u139 78 3 ((.bool b140) :: un 174 ([]))))))))).toArray, []⟩) a ∧ b140 = c141 ∧ St [] w0 w [poolE ([]) w0]) rfl ?_ ?_
 refine gx_kA (.bool b130) w127 ?_
 rcases b130 with _ | _
 try dsimp only at hE142
 refine gx_oA (gx_oA (gx_kA (.bool false) w127 (gx_nil (gx_thenN ?_))))
 exact ⟨false, selfX, (sj hE142), hS128⟩
 try dsimp only at hE142
 refine gx_kA (i6 p1) w127 ?_
 rcases if_in hE142 with ⟨h145, hE142⟩ | ⟨h145, hE142⟩
 refine gx_vA (.bool true) w127 (rbE (decide_eq_true h145)) (gx_kA (.bool true) w127 (gx_nil (gx_thenN ?_)))
 exact ⟨true, selfX, (sj hE142), hS128⟩
 refine gx_vA (.bool false) w127 (rbE (decide_eq_false h145)) (gx_kA (.bool false) w127 (gx_nil (gx_thenN ?_)))
 exact ⟨false, selfX, (sj hE142), hS128⟩
 rintro _ w137 ⟨b140, hq144, rfl, hS138⟩
 obtain ⟨u139, rfl⟩ := selfA_u hq144
 try dsimp only at hO143
 obtain ⟨c150, hE151, hO152⟩ := bind_in hO143
 refine gx_part (l1 := [_, _, _, _, _, _]) (fun a w => ∃ (b149 : Bool), selfA (fun u148 => ⟨((.slice A0 p0.length c0) :: (i6 p1) :: (i6 p2) :: (i6 p3) :: (i6 p4) :: (i6 p5) :: (i6 p6) :: un 7 ((.int .u8 0) :: (.bool false) :: dd u7 16 12 ((.bool false) :: dd u38 29 14 ((.bool false) :: dd u73 44 20 (undef :: (i6 p3) :: dd u119 66 4 ((.bool true) :: (.bool true) :: (i6 p2) :: dd u129 73 4 ((.bool b130) :: dd u139 78 3 ((.bool b140) :: dd u148 82 5 ((.bool b149) :: un 168 ([])))))))))).toArray, []⟩) a ∧ b149 = c150 ∧ St [] w0 w [poolE ([]) w0]) rfl ?_ ?_
 refine gx_kA (.bool b140) w137 ?_
 rcases b140 with _ | _
 try dsimp only at hE151
 refine gx_oA (gx_oA (gx_oA (gx_oA (gx_kA (.bool false) w137 (gx_nil (gx_thenN ?_))))))
 exact ⟨false, selfX, (sj hE151), hS138⟩
 try dsimp only at hE151
 refine gx_kA (.slice A0 p0.length c0) w137 (gx_kA (i6 p1) w137 (gx_kA (i6 (iw (p1 - 2))) w137 ?_))
 have hP154 : St _ _ w137 ([] ++ [poolE ([]) w0]) := hS138
 obtain ⟨b156, hc155, hE151⟩ := bind_in hE151
 try dsimp only at hE151
 refine gx_cA _ (rNum_ok N p0 (iw (p1 - 2)) A0 c0 vs0 ft0 _ hc155 w137 (hS138.inn ho0 hv0) (hP154.offIA ho0)) ?_
 rintro _ w157 ⟨rfl, hT159⟩
 have hS158 : St _ _ w157 [poolE ([]) w0] := hS138.take _ hT159
 refine gx_kA (.bool b156) w157 (gx_nil (gx_thenN ?_))
 exact ⟨b156, selfX, (sj hE151), hS158⟩
 rintro _ w146 ⟨b149, hq153, rfl, hS147⟩
 obtain ⟨u148, rfl⟩ := selfA_u hq153
 try dsimp only at hO152
 refine gx_kA (.bool b149) w146 ?_
 rcases b149 with _ | _
 try dsimp only at hO152
 refine gx_kA (.slice A0 p0.length c0) w146 (gx_kA (i6 p1) w146 (gx_kA (i6 (iw (p1 - 1))) w146 ?_))
 have hP160 : St _ _ w146 ([] ++ [poolE ([]) w0]) := hS147
 obtain ⟨b162, hc161, hO152⟩ := bind_in hO152
 try dsimp only at hO152
 refine gx_cA _ (rNum_ok N p0 (iw (p1 - 1)) A0 c0 vs0 ft0 _ hc161 w146 (hS147.inn ho0 hv0) (hP160.offIA ho0)) ?_
 rintro _ w163 ⟨rfl, hT165⟩
 have hS164 : St _ _ w163 [poolE ([]) w0] := hS147.take _ hT165
 refine gx_kA (.bool b162) w163 (gx_kA (.bool b162) w163 (gx_kA (.bool b162) w163 (gx_nil (gx_thenN ?_))))
 exact ⟨b162, selfX, (sj hO152), hS164⟩
 try dsimp only at hO152
 refine gx_oA (gx_oA (gx_oA (gx_oA (gx_kA (.bool true) w146 (gx_kA (.bool true) w146 (gx_kA (.bool true) w146 (gx_nil (gx_thenN ?_))))))))
 exact ⟨true, selfX, (sj hO152), hS147⟩
 rintro _ w110 ⟨b113, hq488, rfl, hS111⟩
 obtain ⟨u112, rfl⟩ := selfA_u hq488
 try dsimp only at hO116
 rcases b113 with _ | _
 try dsimp only at hO116
 refine gx_no (by as_aux_lemma => kernel_rfl) ?_
 obtain ⟨c172, hE173, hO174⟩ := bind_in hO116
 refine gx_cut (fun a w => ∃ (b171 : Bool), selfA (fun u170 => ⟨((.slice A0 p0.length c0) :: (i6 p1) :: (i6 p2) :: (i6 p3) :: (i6 p4) :: (i6 p5) :: (i6 p6) :: un 7 ((.int .u8 0) :: (.bool false) :: dd u7 16 12 ((.bool false) :: dd u38 29 14 ((.bool false) :: dd u73 44 20 ((.bool false) :: dd u112 65 30 ((.bool b171) :: dd u170 96 26 (un 134 ([])))))))).toArray, []⟩) a ∧ b171 = c172 ∧ St [] w0 w [poolE ([]) w0]) ?_ ?_
 refine gx_region (gx_kA (i6 p2) w110 ?_)
 obtain ⟨c179, hE180, hO181⟩ := bind_in hE173
 refine gx_part (l1 := [_, _, _, _, _]) (fun a w => ∃ (b178 : Bool), selfA (fun u177 => ⟨((.slice A0 p0.length c0) :: (i6 p1) :: (i6 p2) :: (i6 p3) :: (i6 p4) :: (i6 p5) :: (i6 p6) :: un 7 ((.int .u8 0) :: (.bool false) :: dd u7 16 12 ((.bool false) :: dd u38 29 14 ((.bool false) :: dd u73 44 20 ((.bool false) :: dd u112 65 30 (undef :: (i6 p2) :: dd u177 97 4 ((.bool b178) :: un 154 ([])))))))).toArray, []⟩) a ∧ b178 = c179 ∧ St [] w0 w [poolE ([]) w0]) rfl ?_ ?_
 rcases if_in hE180 with ⟨h183, hE180⟩ | ⟨h183, hE180⟩
 refine gx_vA (.bool true) w110 (rbE (decide_eq_true h183)) (gx_kA (.bool true) w110 (gx_oA (gx_oA (gx_kA (.bool true) w110 (gx_nil (gx_thenN ?_))))))
 exact ⟨true, selfX, (sj hE180), hS111⟩
 refine gx_vA (.bool false) w110 (rbE (decide_eq_false h183)) (gx_kA (.bool false) w110 (gx_kA (i6 p2) w110 ?_))
 rcases if_in hE180 with ⟨h184, hE180⟩ | ⟨h184, hE180⟩
 refine gx_vA (.bool true) w110 (rbE (decide_eq_true h184)) (gx_kA (.bool true) w110 (gx_nil (gx_thenN ?_)))
 exact ⟨true, selfX, (sj hE180), hS111⟩
 refine gx_vA (.bool false) w110 (rbE (decide_eq_false h184)) (gx_kA (.bool false) w110 (gx_nil (gx_thenN ?_)))
 exact ⟨false, selfX, (sj hE180), hS111⟩
 rintro _ w175 ⟨b178, hq182, rfl, hS176⟩
 obtain ⟨u177, rfl⟩ := selfA_u hq182
 try dsimp only at hO181
 refine gx_kA (.bool b178) w175 ?_
 rcases b178 with _ | _
 try dsimp only at hO181
 refine gx_oA (gx_oA (gx_oA (gx_oA (gx_oA (gx_oA (gx_oA (gx_oA (gx_oA (gx_oA (gx_oA (gx_oA (gx_oA (gx_oA (gx_oA (gx_oA (gx_oA (gx_oA (gx_kA (.bool false) w175 (gx_kA (.bool false) w175 (gx_nil (gx_thenN ?_)))))))))))))))))))))
 exact ⟨false, selfX, (sj hO181), hS176⟩
 try dsimp only at hO181
 refine gx_kA (i6 p3) w175 ?_
 rcases if_in hO181 with ⟨h185, hO181⟩ | ⟨h185, hO181⟩
 refine gx_vA (.bool true) w175 (rbE (decide_eq_true h185)) (gx_kA (.bool true) w175 (gx_oA (gx_oA (gx_oA (gx_oA (gx_oA (gx_oA (gx_oA (gx_oA (gx_oA (gx_oA (gx_oA (gx_oA (gx_oA (gx_oA (gx_kA (.bool true) w175 (gx_kA (.bool true) w175 (gx_kA (.bool true) w175 (gx_nil (gx_thenN ?_))))))))))))))))))))
 exact ⟨true, selfX, (sj hO181), hS176⟩
 refine gx_vA (.bool false) w175 (rbE (decide_eq_false h185)) (gx_kA (.bool false) w175 (gx_kA (i6 p3) w175 ?_))
 rcases if_in hO181 with ⟨h186, hO181⟩ | ⟨h186, hO181⟩
 refine gx_vA (.bool true) w175 (rbE (decide_eq_true h186)) (gx_kA (.bool true) w175 (gx_kA (i6 p5) w175 ?_))
 rcases if_in hO181 with ⟨h187, hO181⟩ | ⟨h187, hO181⟩
 refine gx_vA (.bool true) w175 (rbE (decide_eq_true h187)) (gx_kA (.bool true) w175 (gx_oA (gx_oA (gx_oA (gx_oA (gx_oA (gx_oA (gx_kA (.bool true) w175 (gx_kA (.bool true) w175 (gx_kA (.bool true) w175 (gx_kA (.bool true) w175 (gx_kA (.bool true) w175 (gx_nil (gx_thenN ?_))))))))))))))
 exact ⟨true, selfX, (sj hO181), hS176⟩
 refine gx_vA (.bool false) w175 (rbE (decide_eq_false h187)) (gx_kA (.bool false) w175 (gx_kA (i6 p5) w175 ?_))
 rcases if_in hO181 with ⟨h188, hO181⟩ | ⟨h188, hO181⟩
 refine gx_vA (.bool true) w175 (rbE (decide_eq_true h188)) (gx_kA (.bool true) w175 (gx_kA (i6 p6) w175 ?_))
 rcases if_in hO181 with ⟨h189, hO181⟩ | ⟨h189, hO181⟩
 refine gx_vA (.bool true) w175 (rbE (decide_eq_true h189)) (gx_kA (.bool true) w175 (gx_kA (.bool true) w175 (gx_kA (.bool true) w175 (gx_kA (.bool true) w175 (gx_kA (.bool true) w175 (gx_kA (.bool true) w175 (gx_nil (gx_thenN ?_))))))))
 exact ⟨true, selfX, (sj hO181), hS176⟩
 refine gx_vA (.bool false) w175 (rbE (decide_eq_false h189)) (gx_kA (.bool false) w175 (gx_kA (.bool false) w175 (gx_kA (.bool false) w175 (gx_kA (.bool false) w175 (gx_kA (.bool false) w175 (gx_kA (.bool false) w175 (gx_nil (gx_thenN ?_))))))))
 exact ⟨false, selfX, (sj hO181), hS176⟩
 refine gx_vA (.bool false) w175 (rbE (decide_eq_false h188)) (gx_kA (.bool false) w175 (gx_oA (gx_oA (gx_kA (.bool false) w175 (gx_kA (.bool false) w175 (gx_kA (.bool false) w175 (gx_kA (.bool false) w175 (gx_kA (.bool false) w175 (gx_kA (.bool false) w175 (gx_nil (gx_thenN ?_)))))))))))
 exact ⟨false, selfX, (sj hO181), hS176⟩
 refine gx_vA (.bool false) w175 (rbE (decide_eq_false h186)) (gx_kA (.bool false) w175 (gx_oA (gx_oA (gx_oA (gx_oA (gx_oA (gx_oA (gx_oA (gx_oA (gx_oA (gx_oA (gx_kA (.bool false) w175 (gx_kA (.bool false) w175 (gx_kA (.bool false) w175 (gx_kA (.bool false) w175 (gx_nil (gx_thenN ?_)))))))))))))))))
 exact ⟨false, selfX, (sj hO181), hS176⟩
 rintro _ w168 ⟨b171, hq487, rfl, hS169⟩
 obtain ⟨u170, rfl⟩ := selfA_u hq487
 try dsimp only at hO174
 rcases b171 with _ | _
 try dsimp only at hO174
 refine gx_no (by as_aux_lemma => kernel_rfl) ?_
 obtain ⟨c196, hE197, hO198⟩ := bind_in hO174
 refine gx_cut (fun a w => ∃ (b195 : Bool), selfA (fun u194 => ⟨((.slice A0 p0.length c0) :: (i6 p1) :: (i6 p2) :: (i6 p3) :: (i6 p4) :: (i6 p5) :: (i6 p6) :: un 7 ((.int .u8 0) :: (.bool false) :: dd u7 16 12 ((.bool false) :: dd u38 29 14 ((.bool false) :: dd u73 44 20 ((.bool false) :: dd u112 65 30 ((.bool false) :: dd u170 96 26 ((.bool b195) :: dd u194 123 18 (un 115 ([]))))))))).toArray, []⟩) a ∧ b195 = c196 ∧ St [] w0 w [poolE ([]) w0]) ?_ ?_
 obtain ⟨c203, hE204, hO205⟩ := bind_in hE197
 refine gx_cut (fun a w => ∃ (b202 : Bool), selfA (fun u201 => ⟨((.slice A0 p0.length c0) :: (i6 p1) :: (i6 p2) :: (i6 p3) :: (i6 p4) :: (i6 p5) :: (i6 p6) :: un 7 ((.int .u8 0) :: (.bool false) :: dd u7 16 12 ((.bool false) :: dd u38 29 14 ((.bool false) :: dd u73 44 20 ((.bool false) :: dd u112 65 30 ((.bool false) :: dd u170 96 26 ((.bool b202) :: dd u201 123 10 (un 123 ([]))))))))).toArray, []⟩) a ∧ b202 = c203 ∧ St [] w0 w [poolE ([]) w0]) ?_ ?_
 refine gx_region (gx_kA (i6 p2) w168 ?_)
 rcases if_in hE204 with ⟨h206, hE204⟩ | ⟨h206, hE204⟩
 refine gx_vA (.bool true) w168 (rbE (decide_eq_true h206)) (gx_kA (.bool true) w168 (gx_oA (gx_oA (gx_kA (.bool true) w168 (gx_kA (.bool true) w168 (gx_kA (i6 p3) w168 ?_))))))
 rcases if_in hE204 with ⟨h207, hE204⟩ | ⟨h207, hE204⟩
 refine gx_vA (.bool true) w168 (rbE (decide_eq_true h207)) (gx_kA (.bool true) w168 (gx_kA (.bool true) w168 (gx_nil (gx_thenN ?_))))
 exact ⟨true, selfX, (sj hE204), hS169⟩
 refine gx_vA (.bool false) w168 (rbE (decide_eq_false h207)) (gx_kA (.bool false) w168 (gx_kA (.bool false) w168 (gx_nil (gx_thenN ?_))))
 exact ⟨false, selfX, (sj hE204), hS169⟩
 refine gx_vA (.bool false) w168 (rbE (decide_eq_false h206)) (gx_kA (.bool false) w168 (gx_kA (i6 p2) w168 ?_))
 rcases if_in hE204 with ⟨h208, hE204⟩ | ⟨h208, hE204⟩
 refine gx_vA (.bool true) w168 (rbE (decide_eq_true h208)) (gx_kA (.bool true) w168 (gx_kA (.bool true) w168 (gx_kA (i6 p3) w168 ?_)))
 rcases if_in hE204 with ⟨h209, hE204⟩ | ⟨h209, hE204⟩
 refine gx_vA (.bool true) w168 (rbE (decide_eq_true h209)) (gx_kA (.bool true) w168 (gx_kA (.bool true) w168 (gx_nil (gx_thenN ?_))))
 exact ⟨true, selfX, (sj hE204), hS169⟩
 refine gx_vA (.bool false) w168 (rbE (decide_eq_false h209)) (gx_kA (.bool false) w168 (gx_kA (.bool false) w168 (gx_nil (gx_thenN ?_))))
 exact ⟨false, selfX, (sj hE204), hS169⟩
 refine gx_vA (.bool false) w168 (rbE (decide_eq_false h208)) (gx_kA (.bool false) w168 (gx_kA (.bool false) w168 (gx_oA (gx_oA (gx_kA (.bool false) w168 (gx_kA (.bool false) w168 (gx_nil (gx_thenN ?_))))))))
 exact ⟨false, selfX, (sj hE204), hS169⟩
 rintro _ w199 ⟨b202, hq217, rfl, hS200⟩
 obtain ⟨u201, rfl⟩ := selfA_u hq217
 try dsimp only at hO205
 rcases b202 with _ | _
 try dsimp only at hO205
 refine gx_no (by as_aux_lemma => kernel_rfl) (gx_region (gx_kA (.slice A0 p0.length c0) w199 (gx_kA (i6 p1) w199 (gx_kA (i6 (iw (p1 - 1))) w199 ?_))))
 have hP210 : St _ _ w199 ([] ++ [poolE ([]) w0]) := hS200
 obtain ⟨b212, hc211, hO205⟩ := bind_in hO205
 try dsimp only at hO205
 refine gx_cA _ (rNum_ok N p0 (iw (p1 - 1)) A0 c0 vs0 ft0 _ hc211 w199 (hS200.inn ho0 hv0) (hP210.offIA ho0)) ?_
 rintro _ w213 ⟨rfl, hT215⟩
 have hS214 : St _ _ w213 [poolE ([]) w0] := hS200.take _ hT215
 refine gx_kA (.bool b212) w213 ?_
 rcases b212 with _ | _
 try dsimp only at hO205
 refine gx_oA (gx_oA (gx_kA (.bool false) w213 (gx_kA (.bool false) w213 (gx_nil (gx_thenN ?_)))))
 exact ⟨false, selfX, (sj hO205), hS214⟩
 try dsimp only at hO205
 refine gx_kA (i6 p3) w213 ?_
 rcases if_in hO205 with ⟨h216, hO205⟩ | ⟨h216, hO205⟩
 refine gx_vA (.bool true) w213 (rbE (decide_eq_true h216)) (gx_kA (.bool true) w213 (gx_kA (.bool true) w213 (gx_nil (gx_thenN ?_))))
 exact ⟨true, selfX, (sj hO205), hS214⟩
 refine gx_vA (.bool false) w213 (rbE (decide_eq_false h216)) (gx_kA (.bool false) w213 (gx_kA (.bool false) w213 (gx_nil (gx_thenN ?_))))
 exact ⟨false, selfX, (sj hO205), hS214⟩
 try dsimp only at hO205
 refine gx_yes (by as_aux_lemma => kernel_rfl) (gx_pass (gx_thenN ?_))
 exact ⟨true, selfX, (sj hO205), hS200⟩
 rintro _ w192 ⟨b195, hq486, rfl, hS193⟩
 obtain ⟨u194, rfl⟩ := selfA_u hq486
 try dsimp only at hO198
 rcases b195 with _ | _
 try dsimp only at hO198
 refine gx_no (by as_aux_lemma => kernel_rfl) ?_
 obtain ⟨c224, hE225, hO226⟩ := bind_in hO198
 refine gx_cut (fun a w => ∃ (b223 : Bool), selfA (fun u222 => ⟨((.slice A0 p0.length c0) :: (i6 p1) :: (i6 p2) :: (i6 p3) :: (i6 p4) :: (i6 p5) :: (i6 p6) :: un 7 ((.int .u8 0) :: (.bool false) :: dd u7 16 12 ((.bool false) :: dd u38 29 14 ((.bool false) :: dd u73 44 20 ((.bool false) :: dd u112 65 30 ((.bool false) :: dd u170 96 26 ((.bool false) :: dd u194 123 18 ((.bool b223) :: dd u222 142 31 (un 83 ([])))))))))).toArray, []⟩) a ∧ b223 = c224 ∧ St [] w0 w [poolE ([]) w0]) ?_ ?_
 obtain ⟨c231, hE232, hO233⟩ := bind_in hE225
 refine gx_cut (fun a w => ∃ (b230 : Bool), selfA (fun u229 => ⟨((.slice A0 p0.length c0) :: (i6 p1) :: (i6 p2) :: (i6 p3) :: (i6 p4) :: (i6 p5) :: (i6 p6) :: un 7 ((.int .u8 0) :: (.bool false) :: dd u7 16 12 ((.bool false) :: dd u38 29 14 ((.bool false) :: dd u73 44 20 ((.bool false) :: dd u112 65 30 ((.bool false) :: dd u170 96 26 ((.bool false) :: dd u194 123 18 ((.bool b230) :: dd u229 142 7 (un 107 ([])))))))))).toArray, []⟩) a ∧ b230 = c231 ∧ St [] w0 w [poolE ([]) w0]) ?_ ?_
 refine gx_region (gx_kA (i6 p2) w192 ?_)
 rcases if_in hE232 with ⟨h234, hE232⟩ | ⟨h234, hE232⟩
 refine gx_vA (.bool true) w192 (rbE (decide_eq_true h234)) (gx_kA (.bool true) w192 (gx_kA (i6 p3) w192 (gx_rA (st_made .i64 3 [33, 34, 36, 37] hS193 (by show 4 ≤ 1000000000; decide) (by as_aux_lemma => kernel_rfl)) ?_)))
 rintro _ w235 ⟨rfl, hS236⟩
 have hS236 : St _ _ w235 [poolE ([]) w0, rowE .i64 3 (some ⟨w192.heap.size, 0, none⟩) 4 ([33, 34, 36, 37])] := hS236
 have hP237 : St _ _ w235 ([] ++ [poolE ([]) w0, rowE .i64 3 (some ⟨w192.heap.size, 0, none⟩) 4 ([33, 34, 36, 37])]) := hS236
 obtain ⟨b239, hc238, hE232⟩ := bind_in hE232
 try dsimp only at hE232
 refine gx_cA _ (rIn_ok N p3 ([33, 34, 36, 37]) (some ⟨w192.heap.size, 0, none⟩) 4 _ hc238 w235 (hP237.vwB 1 rfl)) ?_
 rintro _ w240 ⟨rfl, hT242⟩
 have hS241 : St _ _ w240 [poolE ([]) w0, rowE .i64 3 (some ⟨w192.heap.size, 0, none⟩) 4 ([33, 34, 36, 37])] := hS236.take _ hT242
 refine gx_kA (.bool b239) w240 (gx_kA (.bool b239) w240 (gx_nil (gx_thenN ?_)))
 exact ⟨b239, selfX, (sj hE232), (hS241.pick [0] rfl rfl)⟩
 refine gx_vA (.bool false) w192 (rbE (decide_eq_false h234)) (gx_kA (.bool false) w192 (gx_oA (gx_oA (gx_oA (gx_kA (.bool false) w192 (gx_kA (.bool false) w192 (gx_nil (gx_thenN ?_))))))))
 exact ⟨false, selfX, (sj hE232), hS193⟩
 rintro _ w227 ⟨b230, hq267, rfl, hS228⟩
 obtain ⟨u229, rfl⟩ := selfA_u hq267
 try dsimp only at hO233
 rcases b230 with _ | _
 try dsimp only at hO233
 refine gx_no (by as_aux_lemma => kernel_rfl) ?_
 obtain ⟨c247, hE248, hO249⟩ := bind_in hO233
 refine gx_cut (fun a w => ∃ (b246 : Bool), selfA (fun u245 => ⟨((.slice A0 p0.length c0) :: (i6 p1) :: (i6 p2) :: (i6 p3) :: (i6 p4) :: (i6 p5) :: (i6 p6) :: un 7 ((.int .u8 0) :: (.bool false) :: dd u7 16 12 ((.bool false) :: dd u38 29 14 ((.bool false) :: dd u73 44 20 ((.bool false) :: dd u112 65 30 ((.bool false) :: dd u170 96 26 ((.bool false) :: dd u194 123 18 ((.bool b246) :: dd u229 142 7 (dd u245 149 14 (un 93 ([]))))))))))).toArray, []⟩) a ∧ b246 = c247 ∧ St [] w0 w [poolE ([]) w0]) ?_ ?_
 refine gx_region (gx_kA (i6 p2) w227 ?_)
 obtain ⟨c254, hE255, hO256⟩ := bind_in hE248
 refine gx_part (l1 := [_, _, _, _, _]) (fun a w => ∃ (b253 : Bool), selfA (fun u252 => ⟨((.slice A0 p0.length c0) :: (i6 p1) :: (i6 p2) :: (i6 p3) :: (i6 p4) :: (i6 p5) :: (i6 p6) :: un 7 ((.int .u8 0) :: (.bool false) :: dd u7 16 12 ((.bool false) :: dd u38 29 14 ((.bool false) :: dd u73 44 20 ((.bool false) :: dd u112 65 30 ((.bool false) :: dd u170 96 26 ((.bool false) :: dd u194 123 18 ((.bool false) :: dd u229 142 7 ((i6 p2) :: dd u252 150 4 ((.bool b253) :: un 101 ([]))))))))))).toArray, []⟩) a ∧ b253 = c254 ∧ St [] w0 w [poolE ([]) w0]) rfl ?_ ?_
 rcases if_in hE255 with ⟨h258, hE255⟩ | ⟨h258, hE255⟩
 refine gx_vA (.bool true) w227 (rbE (decide_eq_true h258)) (gx_kA (.bool true) w227 (gx_oA (gx_oA (gx_kA (.bool true) w227 (gx_nil (gx_thenN ?_))))))
 exact ⟨true, selfX, (sj hE255), hS228⟩
 refine gx_vA (.bool false) w227 (rbE (decide_eq_false h258)) (gx_kA (.bool false) w227 (gx_kA (i6 p2) w227 ?_))
 rcases if_in hE255 with ⟨h259, hE255⟩ | ⟨h259, hE255⟩
 refine gx_vA (.bool true) w227 (rbE (decide_eq_true h259)) (gx_kA (.bool true) w227 (gx_nil (gx_thenN ?_)))
 exact ⟨true, selfX, (sj hE255), hS228⟩
 refine gx_vA (.bool false) w227 (rbE (decide_eq_false h259)) (gx_kA (.bool false) w227 (gx_nil (gx_thenN ?_)))
 exact ⟨false, selfX, (sj hE255), hS228⟩
 rintro _ w250 ⟨b253, hq257, rfl, hS251⟩
 obtain ⟨u252, rfl⟩ := selfA_u hq257
 try dsimp only at hO256
 refine gx_kA (.bool b253) w250 ?_
 rcases b253 with _ | _
 try dsimp only at hO256
 refine gx_oA (gx_oA (gx_oA (gx_oA (gx_oA (gx_oA (gx_kA (.bool false) w250 (gx_kA (.bool false) w250 (gx_nil (gx_thenN ?_)))))))))
 exact ⟨false, selfX, (sj hO256), hS251⟩
 try dsimp only at hO256
 refine gx_kA (i6 p3) w250 ?_
 rcases if_in hO256 with ⟨h260, hO256⟩ | ⟨h260, hO256⟩
 refine gx_vA (.bool true) w250 (rbE (decide_eq_true h260)) (gx_kA (.bool true) w250 (gx_oA (gx_oA (gx_kA (.bool true) w250 (gx_kA (.bool true) w250 (gx_kA (.bool true) w250 (gx_nil (gx_thenN ?_))))))))
 exact ⟨true, selfX, (sj hO256), hS251⟩
 refine gx_vA (.bool false) w250 (rbE (decide_eq_false h260)) (gx_kA (.bool false) w250 (gx_kA (i6 p3) w250 ?_))
 rcases if_in hO256 with ⟨h261, hO256⟩ | ⟨h261, hO256⟩
 refine gx_vA (.bool true) w250 (rbE (decide_eq_true h261)) (gx_kA (.bool true) w250 (gx_kA (.bool true) w250 (gx_kA (.bool true) w250 (gx_nil (gx_thenN ?_)))))
 exact ⟨true, selfX, (sj hO256), hS251⟩
 refine gx_vA (.bool false) w250 (rbE (decide_eq_false h261)) (gx_kA (.bool false) w250 (gx_kA (.bool false) w250 (gx_kA (.bool false) w250 (gx_nil (gx_thenN ?_)))))
 exact ⟨false, selfX, (sj hO256), hS251⟩
 rintro _ w243 ⟨b246, hq266, rfl, hS244⟩
 obtain ⟨u245, rfl⟩ := selfA_u hq266
 try dsimp only at hO249
 rcases b246 with _ | _
 try dsimp only at hO249
 refine gx_no (by as_aux_lemma => kernel_rfl) (gx_region (gx_kA (i6 p2) w243 ?_))
 rcases if_in hO249 with ⟨h262, hO249⟩ | ⟨h262, hO249⟩
 refine gx_vA (.bool true) w243 (rbE (decide_eq_true h262)) (gx_kA (.bool true) w243 (gx_oA (gx_oA (gx_kA (.bool true) w243 (gx_kA (.bool true) w243 (gx_kA (i6 p3) w243 ?_))))))
 rcases if_in hO249 with ⟨h263, hO249⟩ | ⟨h263, hO249⟩
 refine gx_vA (.bool true) w243 (rbE (decide_eq_true h263)) (gx_kA (.bool true) w243 (gx_kA (.bool true) w243 (gx_nil (gx_thenN ?_))))
 exact ⟨true, selfX, (sj hO249), hS244⟩
 refine gx_vA (.bool false) w243 (rbE (decide_eq_false h263)) (gx_kA (.bool false) w243 (gx_kA (.bool false) w243 (gx_nil (gx_thenN ?_))))
 exact ⟨false, selfX, (sj hO249), hS244⟩
 refine gx_vA (.bool false) w243 (rbE (decide_eq_false h262)) (gx_kA (.bool false) w243 (gx_kA (i6 p2) w243 ?_))
 rcases if_in hO249 with ⟨h264, hO249⟩ | ⟨h264, hO249⟩
 refine gx_vA (.bool true) w243 (rbE (decide_eq_true h264)) (gx_kA (.bool true) w243 (gx_kA (.bool true) w243 (gx_kA (i6 p3) w243 ?_)))
 rcases if_in hO249 with ⟨h265, hO249⟩ | ⟨h265, hO249⟩
 refine gx_vA (.bool true) w243 (rbE (decide_eq_true h265)) (gx_kA (.bool true) w243 (gx_kA (.bool true) w243 (gx_nil (gx_thenN ?_))))
 exact ⟨true, selfX, (sj hO249), hS244⟩
 refine gx_vA (.bool false) w243 (rbE (decide_eq_false h265)) (gx_kA (.bool false) w243 (gx_kA (.bool false) w243 (gx_nil (gx_thenN ?_))))
 exact ⟨false, selfX, (sj hO249), hS244⟩
 refine gx_vA (.bool false) w243 (rbE (decide_eq_false h264)) (gx_kA (.bool false) w243 (gx_kA (.bool false) w243 (gx_oA (gx_oA (gx_kA (.bool false) w243 (gx_kA (.bool false) w243 (gx_nil (gx_thenN ?_))))))))
 exact ⟨false, selfX, (sj hO249), hS244⟩
 try dsimp only at hO249
 refine gx_yes (by as_aux_lemma => kernel_rfl) (gx_pass (gx_thenN ?_))
 exact ⟨true, selfX, (sj hO249), hS244⟩
 try dsimp only at hO233
 refine gx_yes (by as_aux_lemma => kernel_rfl) (gx_pass (gx_thenN ?_))
 exact ⟨true, selfX, (sj hO233), hS228⟩
 rintro _ w220 ⟨b223, hq485, rfl, hS221⟩
 obtain ⟨u222, rfl⟩ := selfA_u hq485
 try dsimp only at hO226
 rcases b223 with _ | _
 try dsimp only at hO226
 refine gx_no (by as_aux_lemma => kernel_rfl) ?_
 obtain ⟨c274, hE275, hO276⟩ := bind_in hO226
 refine gx_cut (fun a w => ∃ (b273 : Bool), selfA (fun u272 => ⟨((.slice A0 p0.length c0) :: (i6 p1) :: (i6 p2) :: (i6 p3) :: (i6 p4) :: (i6 p5) :: (i6 p6) :: un 7 ((.int .u8 0) :: (.bool false) :: dd u7 16 12 ((.bool false) :: dd u38 29 14 ((.bool false) :: dd u73 44 20 ((.bool false) :: dd u112 65 30 ((.bool false) :: dd u170 96 26 ((.bool false) :: dd u194 123 18 ((.bool false) :: dd u222 142 31 ((.bool b273) :: dd u272 174 12 (un 70 ([]))))))))))).toArray, []⟩) a ∧ b273 = c274 ∧ St [] w0 w [poolE ([]) w0]) ?_ ?_
 obtain ⟨c281, hE282, hO283⟩ := bind_in hE275
 refine gx_cut (fun a w => ∃ (b280 : Bool), selfA (fun u279 => ⟨((.slice A0 p0.length c0) :: (i6 p1) :: (i6 p2) :: (i6 p3) :: (i6 p4) :: (i6 p5) :: (i6 p6) :: un 7 ((.int .u8 0) :: (.bool false) :: dd u7 16 12 ((.bool false) :: dd u38 29 14 ((.bool false) :: dd u73 44 20 ((.bool false) :: dd u112 65 30 ((.bool false) :: dd u170 96 26 ((.bool false) :: dd u194 123 18 ((.bool false) :: dd u222 142 31 ((.bool b280) :: dd u279 174 6 (un 76 ([]))))))))))).toArray, []⟩) a ∧ b280 = c281 ∧ St [] w0 w [poolE ([]) w0]) ?_ ?_
 refine gx_region (gx_kA (i6 p2) w220 ?_)
 have hP284 : St _ _ w220 ([] ++ [poolE ([]) w0]) := hS221
 obtain ⟨b286, hc285, hE282⟩ := bind_in hE282
 try dsimp only at hE282
 refine gx_cA _ (rHan_ok N p2 _ hc285 w220 ) ?_
 rintro _ w287 ⟨rfl, hT289⟩
 have hS288 : St _ _ w287 [poolE ([]) w0] := hS221.take _ hT289
 refine gx_kA (.bool b286) w287 ?_
 rcases b286 with _ | _
 try dsimp only at hE282
 refine gx_oA (gx_oA (gx_kA (.bool false) w287 (gx_kA (.bool false) w287 (gx_nil (gx_thenN ?_)))))
 exact ⟨false, selfX, (sj hE282), hS288⟩
 try dsimp only at hE282
 refine gx_kA (i6 p3) w287 ?_
 rcases if_in hE282 with ⟨h290, hE282⟩ | ⟨h290, hE282⟩
 refine gx_vA (.bool true) w287 (rbE (decide_eq_true h290)) (gx_kA (.bool true) w287 (gx_kA (.bool true) w287 (gx_nil (gx_thenN ?_))))
 exact ⟨true, selfX, (sj hE282), hS288⟩
 refine gx_vA (.bool false) w287 (rbE (decide_eq_false h290)) (gx_kA (.bool false) w287 (gx_kA (.bool false) w287 (gx_nil (gx_thenN ?_))))
 exact ⟨false, selfX, (sj hE282), hS288⟩
 rintro _ w277 ⟨b280, hq298, rfl, hS278⟩
 obtain ⟨u279, rfl⟩ := selfA_u hq298
 try dsimp only at hO283
 rcases b280 with _ | _
 try dsimp only at hO283
 refine gx_no (by as_aux_lemma => kernel_rfl) (gx_region (gx_kA (i6 p2) w277 ?_))
 rcases if_in hO283 with ⟨h291, hO283⟩ | ⟨h291, hO283⟩
 refine gx_vA (.bool true) w277 (rbE (decide_eq_true h291)) (gx_kA (.bool true) w277 (gx_kA (i6 p3) w277 ?_))
 have hP292 : St _ _ w277 ([] ++ [poolE ([]) w0]) := hS278
 obtain ⟨b294, hc293, hO283⟩ := bind_in hO283
 try dsimp only at hO283
 refine gx_cA _ (rHan_ok N p3 _ hc293 w277 ) ?_
 rintro _ w295 ⟨rfl, hT297⟩
 have hS296 : St _ _ w295 [poolE ([]) w0] := hS278.take _ hT297
 refine gx_kA (.bool b294) w295 (gx_kA (.bool b294) w295 (gx_nil (gx_thenN ?_)))
 exact ⟨b294, selfX, (sj hO283), hS296⟩
 refine gx_vA (.bool false) w277 (rbE (decide_eq_false h291)) (gx_kA (.bool false) w277 (gx_oA (gx_oA (gx_kA (.bool false) w277 (gx_kA (.bool false) w277 (gx_nil (gx_thenN ?_)))))))
 exact ⟨false, selfX, (sj hO283), hS278⟩
 try dsimp only at hO283
 refine gx_yes (by as_aux_lemma => kernel_rfl) (gx_pass (gx_thenN ?_))
 exact ⟨true, selfX, (sj hO283), hS278⟩
 rintro _ w270 ⟨b273, hq484, rfl, hS271⟩
 obtain ⟨u272, rfl⟩ := selfA_u hq484
 try dsimp only at hO276
 rcases b273 with _ | _
 try dsimp only at hO276
 refine gx_no (by as_aux_lemma => kernel_rfl) ?_
 obtain ⟨c305, hE306, hO307⟩ := bind_in hO276
 refine gx_cut (fun a w => ∃ (b304 : Bool), selfA (fun u303 => ⟨((.slice A0 p0.length c0) :: (i6 p1) :: (i6 p2) :: (i6 p3) :: (i6 p4) :: (i6 p5) :: (i6 p6) :: un 7 ((.int .u8 0) :: (.bool false) :: dd u7 16 12 ((.bool false) :: dd u38 29 14 ((.bool false) :: dd u73 44 20 ((.bool false) :: dd u112 65 30 ((.bool false) :: dd u170 96 26 ((.bool false) :: dd u194 123 18 ((.bool false) :: dd u222 142 31 ((.bool false) :: dd u272 174 12 ((.bool b304) :: dd u303 187 12 (un 57 ([])))))))))))).toArray, []⟩) a ∧ b304 = c305 ∧ St [] w0 w [poolE ([]) w0]) ?_ ?_
 obtain ⟨c312, hE313, hO314⟩ := bind_in hE306
 refine gx_cut (fun a w => ∃ (b311 : Bool), selfA (fun u310 => ⟨((.slice A0 p0.length c0) :: (i6 p1) :: (i6 p2) :: (i6 p3) :: (i6 p4) :: (i6 p5) :: (i6 p6) :: un 7 ((.int .u8 0) :: (.bool false) :: dd u7 16 12 ((.bool false) :: dd u38 29 14 ((.bool false) :: dd u73 44 20 ((.bool false) :: dd u112 65 30 ((.bool false) :: dd u170 96 26 ((.bool false) :: dd u194 123 18 ((.bool false) :: dd u222 142 31 ((.bool false) :: dd u272 174 12 ((.bool b311) :: dd u310 187 6 (un 63 ([])))))))))))).toArray, []⟩) a ∧ b311 = c312 ∧ St [] w0 w [poolE ([]) w0]) ?_ ?_
 refine gx_region (gx_kA (i6 p2) w270 ?_)
 have hP315 : St _ _ w270 ([] ++ [poolE ([]) w0]) := hS271
 obtain ⟨b317, hc316, hE313⟩ := bind_in hE313
 try dsimp only at hE313
 refine gx_cA _ (rLet_ok N p2 _ hc316 w270 ) ?_
 rintro _ w318 ⟨rfl, hT320⟩
 have hS319 : St _ _ w318 [poolE ([]) w0] := hS271.take _ hT320
 refine gx_kA (.bool b317) w318 ?_
 rcases b317 with _ | _
 try dsimp only at hE313
 refine gx_oA (gx_oA (gx_kA (.bool false) w318 (gx_kA (.bool false) w318 (gx_nil (gx_thenN ?_)))))
 exact ⟨false, selfX, (sj hE313), hS319⟩
 try dsimp only at hE313
 refine gx_kA (i6 p3) w318 ?_
 have hP321 : St _ _ w318 ([] ++ [poolE ([]) w0]) := hS319
 obtain ⟨b323, hc322, hE313⟩ := bind_in hE313
 try dsimp only at hE313
 refine gx_cA _ (rLet_ok N p3 _ hc322 w318 ) ?_
 rintro _ w324 ⟨rfl, hT326⟩
 have hS325 : St _ _ w324 [poolE ([]) w0] := hS319.take _ hT326
 refine gx_kA (.bool b323) w324 (gx_kA (.bool b323) w324 (gx_nil (gx_thenN ?_)))
 exact ⟨b323, selfX, (sj hE313), hS325⟩
 rintro _ w308 ⟨b311, hq334, rfl, hS309⟩
 obtain ⟨u310, rfl⟩ := selfA_u hq334
 try dsimp only at hO314
 rcases b311 with _ | _
 try dsimp only at hO314
 refine gx_no (by as_aux_lemma => kernel_rfl) (gx_region (gx_kA (i6 p2) w308 ?_))
 rcases if_in hO314 with ⟨h327, hO314⟩ | ⟨h327, hO314⟩
 refine gx_vA (.bool true) w308 (rbE (decide_eq_true h327)) (gx_kA (.bool true) w308 (gx_kA (i6 p3) w308 ?_))
 have hP328 : St _ _ w308 ([] ++ [poolE ([]) w0]) := hS309
 obtain ⟨b330, hc329, hO314⟩ := bind_in hO314
 try dsimp only at hO314
 refine gx_cA _ (rLet_ok N p3 _ hc329 w308 ) ?_
 rintro _ w331 ⟨rfl, hT333⟩
 have hS332 : St _ _ w331 [poolE ([]) w0] := hS309.take _ hT333
 refine gx_kA (.bool b330) w331 (gx_kA (.bool b330) w331 (gx_nil (gx_thenN ?_)))
 exact ⟨b330, selfX, (sj hO314), hS332⟩
 refine gx_vA (.bool false) w308 (rbE (decide_eq_false h327)) (gx_kA (.bool false) w308 (gx_oA (gx_oA (gx_kA (.bool false) w308 (gx_kA (.bool false) w308 (gx_nil (gx_thenN ?_)))))))
 exact ⟨false, selfX, (sj hO314), hS309⟩
 try dsimp only at hO314
 refine gx_yes (by as_aux_lemma => kernel_rfl) (gx_pass (gx_thenN ?_))
 exact ⟨true, selfX, (sj hO314), hS309⟩
 rintro _ w301 ⟨b304, hq483, rfl, hS302⟩
 obtain ⟨u303, rfl⟩ := selfA_u hq483
 try dsimp only at hO307
 rcases b304 with _ | _
 try dsimp only at hO307
 refine gx_no (by as_aux_lemma => kernel_rfl) ?_
 obtain ⟨c341, hE342, hO343⟩ := bind_in hO307
 refine gx_cut (fun a w => ∃ (b340 : Bool), selfA (fun u339 => ⟨((.slice A0 p0.length c0) :: (i6 p1) :: (i6 p2) :: (i6 p3) :: (i6 p4) :: (i6 p5) :: (i6 p6) :: un 7 ((.int .u8 0) :: (.bool false) :: dd u7 16 12 ((.bool false) :: dd u38 29 14 ((.bool false) :: dd u73 44 20 ((.bool false) :: dd u112 65 30 ((.bool false) :: dd u170 96 26 ((.bool false) :: dd u194 123 18 ((.bool false) :: dd u222 142 31 ((.bool false) :: dd u272 174 12 ((.bool false) :: dd u303 187 12 ((.bool b340) :: dd u339 200 37 (un 19 ([]))))))))))))).toArray, []⟩) a ∧ b340 = c341 ∧ St [] w0 w [poolE ([]) w0]) ?_ ?_
 obtain ⟨c348, hE349, hO350⟩ := bind_in hE342
 refine gx_cut (fun a w => ∃ (b347 : Bool), selfA (fun u346 => ⟨((.slice A0 p0.length c0) :: (i6 p1) :: (i6 p2) :: (i6 p3) :: (i6 p4) :: (i6 p5) :: (i6 p6) :: un 7 ((.int .u8 0) :: (.bool false) :: dd u7 16 12 ((.bool false) :: dd u38 29 14 ((.bool false) :: dd u73 44 20 ((.bool false) :: dd u112 65 30 ((.bool false) :: dd u170 96 26 ((.bool false) :: dd u194 123 18 ((.bool false) :: dd u222 142 31 ((.bool false) :: dd u272 174 12 ((.bool false) :: dd u303 187 12 ((.bool b347) :: dd u346 200 18 (un 38 ([]))))))))))))).toArray, []⟩) a ∧ b347 = c348 ∧ St [] w0 w [poolE ([]) w0]) ?_ ?_
 refine gx_region (gx_kA (i6 p2) w301 ?_)
 obtain ⟨c355, hE356, hO357⟩ := bind_in hE349
 refine gx_part (l1 := [_, _, _, _, _]) (fun a w => ∃ (b354 : Bool), selfA (fun u353 => ⟨((.slice A0 p0.length c0) :: (i6 p1) :: (i6 p2) :: (i6 p3) :: (i6 p4) :: (i6 p5) :: (i6 p6) :: un 7 ((.int .u8 0) :: (.bool false) :: dd u7 16 12 ((.bool false) :: dd u38 29 14 ((.bool false) :: dd u73 44 20 ((.bool false) :: dd u112 65 30 ((.bool false) :: dd u170 96 26 ((.bool false) :: dd u194 123 18 ((.bool false) :: dd u222 142 31 ((.bool false) :: dd u272 174 12 ((.bool false) :: dd u303 187 12 (undef :: (i6 p2) :: dd u353 201 4 ((.bool b354) :: un 50 ([]))))))))))))).toArray, []⟩) a ∧ b354 = c355 ∧ St [] w0 w [poolE ([]) w0]) rfl ?_ ?_
 have hP359 : St _ _ w301 ([] ++ [poolE ([]) w0]) := hS302
 obtain ⟨b361, hc360, hE356⟩ := bind_in hE356
 try dsimp only at hE356
 refine gx_cA _ (rLet_ok N p2 _ hc360 w301 ) ?_
 rintro _ w362 ⟨rfl, hT364⟩
 have hS363 : St _ _ w362 [poolE ([]) w0] := hS302.take _ hT364
 refine gx_kA (.bool b361) w362 ?_
 rcases b361 with _ | _
 try dsimp only at hE356
 refine gx_kA (i6 p2) w362 ?_
 rcases if_in hE356 with ⟨h365, hE356⟩ | ⟨h365, hE356⟩
 refine gx_vA (.bool true) w362 (rbE (decide_eq_true h365)) (gx_kA (.bool true) w362 (gx_nil (gx_thenN ?_)))
 exact ⟨true, selfX, (sj hE356), hS363⟩
 refine gx_vA (.bool false) w362 (rbE (decide_eq_false h365)) (gx_kA (.bool false) w362 (gx_nil (gx_thenN ?_)))
 exact ⟨false, selfX, (sj hE356), hS363⟩
 try dsimp only at hE356
 refine gx_oA (gx_oA (gx_kA (.bool true) w362 (gx_nil (gx_thenN ?_))))
 exact ⟨true, selfX, (sj hE356), hS363⟩
 rintro _ w351 ⟨b354, hq358, rfl, hS352⟩
 obtain ⟨u353, rfl⟩ := selfA_u hq358
 try dsimp only at hO357
 obtain ⟨c370, hE371, hO372⟩ := bind_in hO357
 refine gx_part (l1 := [_, _, _, _]) (fun a w => ∃ (b369 : Bool), selfA (fun u368 => ⟨((.slice A0 p0.length c0) :: (i6 p1) :: (i6 p2) :: (i6 p3) :: (i6 p4) :: (i6 p5) :: (i6 p6) :: un 7 ((.int .u8 0) :: (.bool false) :: dd u7 16 12 ((.bool false) :: dd u38 29 14 ((.bool false) :: dd u73 44 20 ((.bool false) :: dd u112 65 30 ((.bool false) :: dd u170 96 26 ((.bool false) :: dd u194 123 18 ((.bool false) :: dd u222 142 31 ((.bool false) :: dd u272 174 12 ((.bool false) :: dd u303 187 12 (undef :: (i6 p2) :: dd u353 201 4 ((.bool b354) :: dd u368 206 3 ((.bool b369) :: un 46 ([])))))))))))))).toArray, []⟩) a ∧ b369 = c370 ∧ St [] w0 w [poolE ([]) w0]) rfl ?_ ?_
 refine gx_kA (.bool b354) w351 ?_
 rcases b354 with _ | _
 try dsimp only at hE371
 refine gx_oA (gx_oA (gx_kA (.bool false) w351 (gx_nil (gx_thenN ?_))))
 exact ⟨false, selfX, (sj hE371), hS352⟩
 try dsimp only at hE371
 refine gx_kA (i6 p3) w351 ?_
 rcases if_in hE371 with ⟨h374, hE371⟩ | ⟨h374, hE371⟩
 refine gx_vA (.bool true) w351 (rbE (decide_eq_true h374)) (gx_kA (.bool true) w351 (gx_nil (gx_thenN ?_)))
 exact ⟨true, selfX, (sj hE371), hS352⟩
 refine gx_vA (.bool false) w351 (rbE (decide_eq_false h374)) (gx_kA (.bool false) w351 (gx_nil (gx_thenN ?_)))
 exact ⟨false, selfX, (sj hE371), hS352⟩
 rintro _ w366 ⟨b369, hq373, rfl, hS367⟩
 obtain ⟨u368, rfl⟩ := selfA_u hq373
 try dsimp only at hO372
 refine gx_kA (.bool b369) w366 ?_
 rcases b369 with _ | _
 try dsimp only at hO372
 refine gx_oA (gx_oA (gx_oA (gx_oA (gx_oA (gx_oA (gx_kA (.bool false) w366 (gx_kA (.bool false) w366 (gx_nil (gx_thenN ?_)))))))))
 exact ⟨false, selfX, (sj hO372), hS367⟩
 try dsimp only at hO372
 refine gx_kA (.slice A0 p0.length c0) w366 (gx_kA (i6 p1) w366 ?_)
 obtain ⟨x375, hx376, hO372⟩ := bind_in hO372
 obtain ⟨g377, o378, e379, hA380, he381, h382, ha383⟩ := elem_at (e := enccalamusref13Unit) (sl_lies (hS367.inn ho0 hv0)) (sl_each hv0) hx376 (by decide)
 obtain ⟨e384, e385, rfl, h386, h387⟩ := h382
 obtain rfl := h386
 obtain ⟨e388, e389, rfl, h390, h391⟩ := h387
 obtain rfl := h390
 obtain ⟨e392, e393, rfl, h394, h395⟩ := h391
 obtain rfl := h394
 obtain ⟨e396, e397, rfl, h398, h399⟩ := h395
 obtain rfl := h398
 obtain rfl := h399
 have ha383 : ∀ w', Lies w' A0 vs0 → w'.rangeAt g377 o378 [i6 x375.1, .int .i32 x375.2.1, i6 x375.2.2.1, .bool x375.2.2.2.1, .bool x375.2.2.2.2] := ha383
 refine gx_vA (.pointer (some ⟨g377, o378, none⟩)) w366 (run_ixaddrN (E := 49) (s := 5) (k := .i64) (c := c0) rfl (by as_aux_lemma => kernel_rfl) (by as_aux_lemma => kernel_rfl) (by as_aux_lemma => kernel_rfl) (fun _ => by kernel_rfl) (ixg_in hx376).1 (ixg_in hx376).2.1 hA380) (gx_kA (.pointer (some ⟨g377, o378 + 4, none⟩)) w366 (gx_vA (.bool x375.2.2.2.2) w366 (run_loadN1 4 rfl (by as_aux_lemma => kernel_rfl) (fun _ => by kernel_rfl) (ha383 _ (sl_lies (hS367.inn ho0 hv0))) rfl) ?_))
 generalize x375.2.2.2.2 = b400 at *
 rcases b400 with _ | _
 try dsimp only at hO372
 refine gx_kA (.bool true) w366 (gx_kA (.bool true) w366 (gx_kA (.bool true) w366 (gx_nil (gx_thenN ?_))))
 exact ⟨true, selfX, (sj hO372), hS367⟩
 try dsimp only at hO372
 refine gx_kA (.bool false) w366 (gx_kA (.bool false) w366 (gx_kA (.bool false) w366 (gx_nil (gx_thenN ?_))))
 exact ⟨false, selfX, (sj hO372), hS367⟩
 rintro _ w344 ⟨b347, hq443, rfl, hS345⟩
 obtain ⟨u346, rfl⟩ := selfA_u hq443
 try dsimp only at hO350
 rcases b347 with _ | _
 try dsimp only at hO350
 refine gx_no (by as_aux_lemma => kernel_rfl) (gx_region (gx_kA (i6 p2) w344 ?_))
 obtain ⟨c405, hE406, hO407⟩ := bind_in hO350
 refine gx_part (l1 := [_, _, _, _, _, _, _, _, _, _]) (fun a w => ∃ (b404 : Bool), selfA (fun u403 => ⟨((.slice A0 p0.length c0) :: (i6 p1) :: (i6 p2) :: (i6 p3) :: (i6 p4) :: (i6 p5) :: (i6 p6) :: un 7 ((.int .u8 0) :: (.bool false) :: dd u7 16 12 ((.bool false) :: dd u38 29 14 ((.bool false) :: dd u73 44 20 ((.bool false) :: dd u112 65 30 ((.bool false) :: dd u170 96 26 ((.bool false) :: dd u194 123 18 ((.bool false) :: dd u222 142 31 ((.bool false) :: dd u272 174 12 ((.bool false) :: dd u303 187 12 ((.bool false) :: dd u346 200 18 ((i6 p2) :: dd u403 219 9 ((.bool b404) :: un 27 ([])))))))))))))).toArray, []⟩) a ∧ b404 = c405 ∧ St [] w0 w [poolE ([]) w0]) rfl ?_ ?_
 rcases if_in hE406 with ⟨h409, hE406⟩ | ⟨h409, hE406⟩
 refine gx_vA (.bool true) w344 (rbE (decide_eq_true h409)) (gx_kA (.bool true) w344 (gx_kA (.slice A0 p0.length c0) w344 (gx_kA (i6 p1) w344 (gx_kA (i6 (iw (p1 - 1))) w344 ?_))))
 obtain ⟨x410, hx411, hE406⟩ := bind_in hE406
 obtain ⟨g412, o413, e414, hA415, he416, h417, ha418⟩ := elem_at (e := enccalamusref13Unit) (sl_lies (hS345.inn ho0 hv0)) (sl_each hv0) hx411 (by decide)
 obtain ⟨e419, e420, rfl, h421, h422⟩ := h417
 obtain rfl := h421
 obtain ⟨e423, e424, rfl, h425, h426⟩ := h422
 obtain rfl := h425
 obtain ⟨e427, e428, rfl, h429, h430⟩ := h426
 obtain rfl := h429
 obtain ⟨e431, e432, rfl, h433, h434⟩ := h430
 obtain rfl := h433
 obtain rfl := h434
 have ha418 : ∀ w', Lies w' A0 vs0 → w'.rangeAt g412 o413 [i6 x410.1, .int .i32 x410.2.1, i6 x410.2.2.1, .bool x410.2.2.2.1, .bool x410.2.2.2.2] := ha418
 refine gx_vA (.pointer (some ⟨g412, o413, none⟩)) w344 (run_ixaddrN (E := 49) (s := 5) (k := .i64) (c := c0) rfl (by as_aux_lemma => kernel_rfl) (by as_aux_lemma => kernel_rfl) (by as_aux_lemma => kernel_rfl) (fun _ => by kernel_rfl) (ixg_in hx411).1 (ixg_in hx411).2.1 hA415) (gx_kA (.pointer (some ⟨g412, o413 + 4, none⟩)) w344 (gx_vA (.bool x410.2.2.2.2) w344 (run_loadN1 4 rfl (by as_aux_lemma => kernel_rfl) (fun _ => by kernel_rfl) (ha418 _ (sl_lies (hS345.inn ho0 hv0))) rfl) ?_))
 generalize x410.2.2.2.2 = b435 at *
 rcases b435 with _ | _
 try dsimp only at hE406
 refine gx_kA (.bool true) w344 (gx_kA (.bool true) w344 (gx_nil (gx_thenN ?_)))
 exact ⟨true, selfX, (sj hE406), hS345⟩
 try dsimp only at hE406
 refine gx_kA (.bool false) w344 (gx_kA (.bool false) w344 (gx_nil (gx_thenN ?_)))
 exact ⟨false, selfX, (sj hE406), hS345⟩
 refine gx_vA (.bool false) w344 (rbE (decide_eq_false h409)) (gx_kA (.bool false) w344 (gx_oA (gx_oA (gx_oA (gx_oA (gx_oA (gx_oA (gx_oA (gx_kA (.bool false) w344 (gx_nil (gx_thenN ?_)))))))))))
 exact ⟨false, selfX, (sj hE406), hS345⟩
 rintro _ w401 ⟨b404, hq408, rfl, hS402⟩
 obtain ⟨u403, rfl⟩ := selfA_u hq408
 try dsimp only at hO407
 refine gx_kA (.bool b404) w401 ?_
 rcases b404 with _ | _
 try dsimp only at hO407
 refine gx_oA (gx_oA (gx_oA (gx_oA (gx_oA (gx_oA (gx_kA (.bool false) w401 (gx_kA (.bool false) w401 (gx_nil (gx_thenN ?_)))))))))
 exact ⟨false, selfX, (sj hO407), hS402⟩
 try dsimp only at hO407
 refine gx_kA (i6 p3) w401 ?_
 have hP436 : St _ _ w401 ([] ++ [poolE ([]) w0]) := hS402
 obtain ⟨b438, hc437, hO407⟩ := bind_in hO407
 try dsimp only at hO407
 refine gx_cA _ (rLet_ok N p3 _ hc437 w401 ) ?_
 rintro _ w439 ⟨rfl, hT441⟩
 have hS440 : St _ _ w439 [poolE ([]) w0] := hS402.take _ hT441
 refine gx_kA (.bool b438) w439 ?_
 rcases b438 with _ | _
 try dsimp only at hO407
 refine gx_kA (i6 p3) w439 ?_
 rcases if_in hO407 with ⟨h442, hO407⟩ | ⟨h442, hO407⟩
 refine gx_vA (.bool true) w439 (rbE (decide_eq_true h442)) (gx_kA (.bool true) w439 (gx_kA (.bool true) w439 (gx_kA (.bool true) w439 (gx_nil (gx_thenN ?_)))))
 exact ⟨true, selfX, (sj hO407), hS440⟩
 refine gx_vA (.bool false) w439 (rbE (decide_eq_false h442)) (gx_kA (.bool false) w439 (gx_kA (.bool false) w439 (gx_kA (.bool false) w439 (gx_nil (gx_thenN ?_)))))
 exact ⟨false, selfX, (sj hO407), hS440⟩
 try dsimp only at hO407
 refine gx_oA (gx_oA (gx_kA (.bool true) w439 (gx_kA (.bool true) w439 (gx_kA (.bool true) w439 (gx_nil (gx_thenN ?_))))))
 exact ⟨true, selfX, (sj hO407), hS440⟩
 try dsimp only at hO350
 refine gx_yes (by as_aux_lemma => kernel_rfl) (gx_pass (gx_thenN ?_))
 exact ⟨true, selfX, (sj hO350), hS345⟩
 rintro _ w337 ⟨b340, hq482, rfl, hS338⟩
 obtain ⟨u339, rfl⟩ := selfA_u hq482
 try dsimp only at hO343
 rcases b340 with _ | _
 try dsimp only at hO343
 refine gx_no (by as_aux_lemma => kernel_rfl) (gx_seq (fun K446 hK447 => ?_))
 obtain ⟨c452, hE453, hO454⟩ := bind_in hO343
 refine gx_cut (fun a w => ∃ (b451 : Bool), selfA (fun u450 => ⟨((u450 0) :: (i6 p1) :: (i6 p2) :: (i6 p3) :: (i6 p4) :: (i6 p5) :: (i6 p6) :: un 7 ((.int .u8 0) :: (.bool false) :: dd u7 16 12 ((.bool false) :: dd u38 29 14 ((.bool false) :: dd u73 44 20 ((.bool false) :: dd u112 65 30 ((.bool false) :: dd u170 96 26 ((.bool false) :: dd u194 123 18 ((.bool false) :: dd u222 142 31 ((.bool false) :: dd u272 174 12 ((.bool false) :: dd u303 187 12 ((.bool false) :: dd u339 200 37 ((.bool b451) :: dd u450 238 12 (un 6 ([])))))))))))))).toArray, []⟩) a ∧ b451 = c452 ∧ St [] w0 w [poolE ([]) w0]) ?_ ?_
 refine gx_region (gx_kA (i6 p2) w337 ?_)
 obtain ⟨c459, hE460, hO461⟩ := bind_in hE453
 refine gx_part (l1 := [_, _, _, _, _]) (fun a w => ∃ (b458 : Bool), selfA (fun u457 => ⟨((.slice A0 p0.length c0) :: (i6 p1) :: (i6 p2) :: (i6 p3) :: (i6 p4) :: (i6 p5) :: (i6 p6) :: un 7 ((.int .u8 0) :: (.bool false) :: dd u7 16 12 ((.bool false) :: dd u38 29 14 ((.bool false) :: dd u73 44 20 ((.bool false) :: dd u112 65 30 ((.bool false) :: dd u170 96 26 ((.bool false) :: dd u194 123 18 ((.bool false) :: dd u222 142 31 ((.bool false) :: dd u272 174 12 ((.bool false) :: dd u303 187 12 ((.bool false) :: dd u339 200 37 (undef :: (i6 p2) :: dd u457 239 4 ((.bool b458) :: un 12 ([])))))))))))))).toArray, []⟩) a ∧ b458 = c459 ∧ St [] w0 w [poolE ([]) w0]) rfl ?_ ?_
 rcases if_in hE460 with ⟨h463, hE460⟩ | ⟨h463, hE460⟩
 refine gx_vA (.bool true) w337 (rbE (decide_eq_true h463)) (gx_kA (.bool true) w337 (gx_kA (i6 p3) w337 ?_))
 rcases if_in hE460 with ⟨h464, hE460⟩ | ⟨h464, hE460⟩
 refine gx_vA (.bool true) w337 (rbE (decide_eq_true h464)) (gx_kA (.bool true) w337 (gx_nil (gx_thenN ?_)))
 exact ⟨true, selfX, (sj hE460), hS338⟩
 refine gx_vA (.bool false) w337 (rbE (decide_eq_false h464)) (gx_kA (.bool false) w337 (gx_nil (gx_thenN ?_)))
 exact ⟨false, selfX, (sj hE460), hS338⟩
 refine gx_vA (.bool false) w337 (rbE (decide_eq_false h463)) (gx_kA (.bool false) w337 (gx_oA (gx_oA (gx_kA (.bool false) w337 (gx_nil (gx_thenN ?_))))))
 exact ⟨false, selfX, (sj hE460), hS338⟩
 rintro _ w455 ⟨b458, hq462, rfl, hS456⟩
 obtain ⟨u457, rfl⟩ := selfA_u hq462
 try dsimp only at hO461
 refine gx_kA (.bool b458) w455 ?_
 rcases b458 with _ | _
 try dsimp only at hO461
 refine gx_oA (gx_oA (gx_oA (gx_oA (gx_kA (.bool false) w455 (gx_kA (.bool false) w455 (gx_nil (gx_thenN ?_)))))))
 exact ⟨false, selfX, (sj hO461), hS456⟩
 try dsimp only at hO461
 refine gx_kA (.slice A0 p0.length c0) w455 (gx_kA (i6 p1) w455 (gx_kA (i6 (iw (p1 - 1))) w455 ?_))
 have hP465 : St _ _ w455 ([] ++ [poolE ([]) w0]) := hS456
 obtain ⟨b467, hc466, hO461⟩ := bind_in hO461
 try dsimp only at hO461
 refine gx_cA _ (rOdd_ok N p0 (iw (p1 - 1)) A0 c0 vs0 ft0 _ hc466 w455 (hS456.inn ho0 hv0) (hP465.offIA ho0)) ?_
 rintro _ w468 ⟨rfl, hT470⟩
 have hS469 : St _ _ w468 [poolE ([]) w0] := hS456.take _ hT470
 refine gx_kA (.bool b467) w468 (gx_kA (.bool b467) w468 (gx_nil (gx_thenN ?_)))
 exact ⟨b467, selfX, (sj hO461), hS469⟩
 rintro _ w448 ⟨b451, hq481, rfl, hS449⟩
 obtain ⟨u450, rfl⟩ := selfA_u hq481
 try dsimp only at hO454
 rcases b451 with _ | _
 try dsimp only at hO454
 refine gx_no (by as_aux_lemma => kernel_rfl) (gx_region (gx_kA (i6 p2) w448 ?_))
 rcases if_in hO454 with ⟨h473, hO454⟩ | ⟨h473, hO454⟩
 refine gx_vA (.bool true) w448 (rbE (decide_eq_true h473)) (gx_kA (.bool true) w448 (gx_kA (i6 p3) w448 ?_))
 rcases if_in hO454 with ⟨h474, hO454⟩ | ⟨h474, hO454⟩
 refine gx_vA (.bool true) w448 (rbE (decide_eq_true h474)) (gx_kA (.bool true) w448 (gx_kA (.bool true) w448 (gx_nil (gx_thenN (hK447 _ _ (gx_yes (by as_aux_lemma => kernel_rfl) (gx_seq (fun K475 hK476 => gx_region ?_))))))))
 refine gx_kA (.int .u8 0) w448 (gx_nil (gx_thenN (hK476 _ _ (gx_ret (gx_blkR (gx_thenR ?_))))))
 obtain rfl := sj hO454
 exact gxF (.int .u8 0) ⟨_, rfl, rfl, (hS449.pick [] rfl rfl)⟩
 refine gx_vA (.bool false) w448 (rbE (decide_eq_false h474)) (gx_kA (.bool false) w448 (gx_kA (.bool false) w448 (gx_nil (gx_thenN (hK447 _ _ (gx_no (by as_aux_lemma => kernel_rfl) (gx_pass (gx_blkN ?_))))))))
 refine gx_thenN (hK4 _ _ (gx_seq (fun K477 hK478 => gx_region (gx_kA (.int .u8 1) w448 (gx_nil (gx_thenN (hK478 _ _ ?_)))))))
 refine gx_ret ?_
 obtain rfl := sj hO454
 exact gxF (.int .u8 1) ⟨_, rfl, rfl, (hS449.pick [] rfl rfl)⟩
 refine gx_vA (.bool false) w448 (rbE (decide_eq_false h473)) (gx_kA (.bool false) w448 (gx_oA (gx_oA (gx_kA (.bool false) w448 (gx_kA (.bool false) w448 (gx_nil (gx_thenN (hK447 _ _ (gx_no (by as_aux_lemma => kernel_rfl) (gx_pass (gx_blkN ?_)))))))))))
 refine gx_thenN (hK4 _ _ (gx_seq (fun K479 hK480 => gx_region (gx_kA (.int .u8 1) w448 (gx_nil (gx_thenN (hK480 _ _ ?_)))))))
 refine gx_ret ?_
 obtain rfl := sj hO454
 exact gxF (.int .u8 1) ⟨_, rfl, rfl, (hS449.pick [] rfl rfl)⟩
 try dsimp only at hO454
 refine gx_yes (by as_aux_lemma => kernel_rfl) (gx_pass (gx_thenN (hK447 _ _ (gx_yes (by as_aux_lemma => kernel_rfl) (gx_seq (fun K471 hK472 => gx_region (gx_kA (.int .u8 0) w448 ?_)))))))
 refine gx_nil (gx_thenN (hK472 _ _ (gx_ret (gx_blkR (gx_thenR ?_)))))
 obtain rfl := sj hO454
 exact gxF (.int .u8 0) ⟨_, rfl, rfl, (hS449.pick [] rfl rfl)⟩
 try dsimp only at hO343
 refine gx_yes (by as_aux_lemma => kernel_rfl) (gx_seq (fun K444 hK445 => gx_region (gx_kA (.int .u8 0) w337 (gx_nil (gx_thenN (hK445 _ _ (gx_ret ?_)))))))
 refine gx_blkR (gx_thenR ?_)
 obtain rfl := sj hO343
 exact gxF (.int .u8 0) ⟨_, rfl, rfl, (hS338.pick [] rfl rfl)⟩
 try dsimp only at hO307
 refine gx_yes (by as_aux_lemma => kernel_rfl) (gx_seq (fun K335 hK336 => gx_region (gx_kA (.int .u8 0) w301 (gx_nil (gx_thenN (hK336 _ _ (gx_ret ?_)))))))
 refine gx_blkR (gx_thenR ?_)
 obtain rfl := sj hO307
 exact gxF (.int .u8 0) ⟨_, rfl, rfl, (hS302.pick [] rfl rfl)⟩
 try dsimp only at hO276
 refine gx_yes (by as_aux_lemma => kernel_rfl) (gx_seq (fun K299 hK300 => gx_region (gx_kA (.int .u8 0) w270 (gx_nil (gx_thenN (hK300 _ _ (gx_ret ?_)))))))
 refine gx_blkR (gx_thenR ?_)
 obtain rfl := sj hO276
 exact gxF (.int .u8 0) ⟨_, rfl, rfl, (hS271.pick [] rfl rfl)⟩
 try dsimp only at hO226
 refine gx_yes (by as_aux_lemma => kernel_rfl) (gx_seq (fun K268 hK269 => gx_region (gx_kA (.int .u8 0) w220 (gx_nil (gx_thenN (hK269 _ _ (gx_ret ?_)))))))
 refine gx_blkR (gx_thenR ?_)
 obtain rfl := sj hO226
 exact gxF (.int .u8 0) ⟨_, rfl, rfl, (hS221.pick [] rfl rfl)⟩
 try dsimp only at hO198
 refine gx_yes (by as_aux_lemma => kernel_rfl) (gx_seq (fun K218 hK219 => gx_region (gx_kA (.int .u8 0) w192 (gx_nil (gx_thenN (hK219 _ _ (gx_ret ?_)))))))
 refine gx_blkR (gx_thenR ?_)
 obtain rfl := sj hO198
 exact gxF (.int .u8 0) ⟨_, rfl, rfl, (hS193.pick [] rfl rfl)⟩
 try dsimp only at hO174
 refine gx_yes (by as_aux_lemma => kernel_rfl) (gx_seq (fun K190 hK191 => gx_region (gx_kA (.int .u8 0) w168 (gx_nil (gx_thenN (hK191 _ _ (gx_ret ?_)))))))
 refine gx_blkR (gx_thenR ?_)
 obtain rfl := sj hO174
 exact gxF (.int .u8 0) ⟨_, rfl, rfl, (hS169.pick [] rfl rfl)⟩
 try dsimp only at hO116
 refine gx_yes (by as_aux_lemma => kernel_rfl) (gx_seq (fun K166 hK167 => gx_region (gx_kA (.int .u8 0) w110 (gx_nil (gx_thenN (hK167 _ _ (gx_ret ?_)))))))
 refine gx_blkR (gx_thenR ?_)
 obtain rfl := sj hO116
 exact gxF (.int .u8 0) ⟨_, rfl, rfl, (hS111.pick [] rfl rfl)⟩
 try dsimp only at hO77
 refine gx_yes (by as_aux_lemma => kernel_rfl) (gx_seq (fun K108 hK109 => gx_region (gx_kA (.int .u8 0) w71 (gx_nil (gx_thenN (hK109 _ _ (gx_ret ?_)))))))
 refine gx_blkR (gx_thenR ?_)
 obtain rfl := sj hO77
 exact gxF (.int .u8 0) ⟨_, rfl, rfl, (hS72.pick [] rfl rfl)⟩
 try dsimp only at hO42
 refine gx_yes (by as_aux_lemma => kernel_rfl) (gx_seq (fun K69 hK70 => gx_region (gx_kA (.int .u8 0) w36 (gx_nil (gx_thenN (hK70 _ _ (gx_ret ?_)))))))
 refine gx_blkR (gx_thenR ?_)
 obtain rfl := sj hO42
 exact gxF (.int .u8 0) ⟨_, rfl, rfl, (hS37.pick [] rfl rfl)⟩
 try dsimp only at hO11
 refine gx_yes (by as_aux_lemma => kernel_rfl) (gx_seq (fun K34 hK35 => gx_region (gx_kA (.int .u8 0) w5 (gx_nil (gx_thenN (hK35 _ _ (gx_ret ?_)))))))
 refine gx_blkR (gx_thenR ?_)
 obtain rfl := sj hO11
 exact gxF (.int .u8 0) ⟨_, rfl, rfl, (hS6.pick [] rfl rfl)⟩
end Go.Proofs.YtdbimchiecdkoaaGreat

/-
  The program, walked.
-/
import Derived.Test.YtdbimchiecdkoaaGreatGw
namespace Go.Proofs.YtdbimchiecdkoaaGreat
open Go Go.RowKit
set_option maxRecDepth 100000
set_option maxHeartbeats 4000000
set_option linter.unusedVariables false
def pGoOn (N : Nat) (zb : List Int) (zg : List Int) (zl : Int) (zn : Int) (p0_4 : Int) (p0_5 : Int) (p0_6 : Int) (p0_7 : Int) (p0_8 : Int) (p0_9 : Bool) (p0_10 : Bool) (p0_11 : Bool) : Option (Int × Int × Int × Int × Int × Int × Int × Bool × Bool × Bool) :=
 ((pNext N zb zg zl zn p0_4 p0_5 p0_6 p0_7 p0_8 p0_9 p0_10 p0_11 p0_6).bind fun x7 => ((((pIs N zb zg zn p0_4 p0_5 p0_6 x7 p0_7 p0_8 p0_9 p0_10 p0_11 p0_4 ([5])).bind fun b37 => (match b37 with | true => some ((p0_7, p0_8)) | false => some ((zn, p0_4)))) : Option (Int × Int)).bind fun (x24, x25) => ((((pIs N zb zg zn p0_4 p0_5 p0_6 x7 x24 x25 p0_10 p0_10 p0_11 p0_4 ([27])).bind fun b64 => (match b64 with | true => some (true) | false => (match p0_10 with | true => ((pIs N zb zg zn p0_4 p0_5 p0_6 x7 x24 x25 true true p0_11 p0_4 ([24, 23])).bind fun b74 => some (b74)) | false => some (false)))) : Option (Bool)).bind fun b54 => ((pIs N zb zg zn p0_4 p0_5 p0_6 x7 x24 x25 p0_10 b54 p0_11 p0_4 ([32])).bind fun b88 => (match b88 with | true => some (zn, p0_4, p0_5, p0_6, x7, x24, x25, p0_10, b54, (!p0_11)) | false => some (zn, p0_4, p0_5, p0_6, x7, x24, x25, p0_10, b54, false))))))
def pGoOn_R (zb : List Int) (zg : List Int) (zl : Int) (zn : Int) (p0_4 : Int) (p0_5 : Int) (p0_6 : Int) (p0_7 : Int) (p0_8 : Int) (p0_9 : Bool) (p0_10 : Bool) (p0_11 : Bool) (g0 : Nat) (zA : Option Addr) (zc : Nat) (A0_1 : Option Addr) (c0_1 : Nat) (r : Int × Int × Int × Int × Int × Int × Int × Bool × Bool × Bool) (w0 : World) (v : Value) (w : World) : Prop := v = .tuple #[] ∧ St (foots [plE g0 zA zc A0_1 c0_1 zb zg zl zn p0_4 p0_5 p0_6 p0_7 p0_8 p0_9 p0_10 p0_11]) w0 w [boxE g0 [.slice zA zb.length zc, .slice A0_1 zg.length c0_1, .int .i64 r.1, .int .i64 r.2.1, .int .i64 r.2.2.1, .int .i64 r.2.2.2.1, .int .i64 r.2.2.2.2.1, .int .i64 r.2.2.2.2.2.1, .int .i64 r.2.2.2.2.2.2.1, .bool r.2.2.2.2.2.2.2.1, .bool r.2.2.2.2.2.2.2.2.1, .bool r.2.2.2.2.2.2.2.2.2] 42]
theorem pGoOn_ok (N : Nat) (zb : List Int) (zg : List Int) (zl : Int) (zn : Int) (p0_4 : Int) (p0_5 : Int) (p0_6 : Int) (p0_7 : Int) (p0_8 : Int) (p0_9 : Bool) (p0_10 : Bool) (p0_11 : Bool) (g0 : Nat) (zA : Option Addr) (zc : Nat) (A0_1 : Option Addr) (c0_1 : Nat) (r : Int × Int × Int × Int × Int × Int × Int × Bool × Bool × Bool) (hF : pGoOn N zb zg zl zn p0_4 p0_5 p0_6 p0_7 p0_8 p0_9 p0_10 p0_11 = some r) (w0 : World) (hv0_0 : Vw (foots [plE g0 zA zc A0_1 c0_1 zb zg zl zn p0_4 p0_5 p0_6 p0_7 p0_8 p0_9 p0_10 p0_11]) .i32 w0 zA zc zb) (hv0_1 : Vw (foots [plE g0 zA zc A0_1 c0_1 zb zg zl zn p0_4 p0_5 p0_6 p0_7 p0_8 p0_9 p0_10 p0_11]) .u8 w0 A0_1 c0_1 zg) (hl : St (foots [plE g0 zA zc A0_1 c0_1 zb zg zl zn p0_4 p0_5 p0_6 p0_7 p0_8 p0_9 p0_10 p0_11]) w0 w0 [plE g0 zA zc A0_1 c0_1 zb zg zl zn p0_4 p0_5 p0_6 p0_7 p0_8 p0_9 p0_10 p0_11]) :
  Calls Tryz.prog 14 #[.pointer (some ⟨g0, 0, none⟩)] w0 fun e w => ∃ v, e = .returned v ∧ pGoOn_R zb zg zl zn p0_4 p0_5 p0_6 p0_7 p0_8 p0_9 p0_10 p0_11 g0 zA zc A0_1 c0_1 r w0 v w := by
 have hS0 := hl
 unfold pGoOn at hF
 refine calls_of Tryz.func14 rfl ⟨((vP g0) :: un 119 ([])).toArray, []⟩ (by kernel_rfl) (gx_seq (fun K1 hK2 => gk_start 31 (fun w => St (foots [plE g0 zA zc A0_1 c0_1 zb zg zl zn p0_4 p0_5 p0_6 p0_7 p0_8 p0_9 p0_10 p0_11]) w0 w [plE g0 zA zc A0_1 c0_1 zb zg zl zn p0_4 p0_5 p0_6 p0_7 p0_8 p0_9 p0_10 p0_11]) (fun w => St (foots [plE g0 zA zc A0_1 c0_1 zb zg zl zn p0_4 p0_5 p0_6 p0_7 p0_8 p0_9 p0_10 p0_11]) w0 w []) 44 (fz 44) (by kernel_rfl) (by kernel_rfl) ?_))
 have hS4 := hS0.drew
 generalize w0.drew = w3 at hS4 ⊢
 refine gk1 0 ⟨some 2, _, _, _, _, _⟩ (vP g0) rfl hS4 (fun w hSw => by kernel_rfl) (gk1f 1 ⟨some 3, _, _, _, _, _⟩ (vP g0) rfl hS4 (fun w => by kernel_rfl) (gk1f 2 ⟨some 4, _, _, _, _, _⟩ (vP g0) rfl hS4 (fun w => by kernel_rfl) (gk1f 3 ⟨some 5, _, _, _, _, _⟩ (vP g0) rfl hS4 (fun w => by kernel_rfl) (gk1f 4 ⟨some 6, _, _, _, _, _⟩ (vP g0) rfl hS4 (fun w => by kernel_rfl) (gk1 5 ⟨some 7, _, _, _, _, _⟩ (vP g0) rfl hS4 (fun w hSw => by kernel_rfl) (gk1 6 ⟨some 8, _, _, _, _, _⟩ (vP g0) rfl hS4 (fun w hSw => by kernel_rfl) (gk1 7 ⟨some 9, _, _, _, _, _⟩ (vQ g0 3) rfl hS4 (fun w hSw => by kernel_rfl) ?_)))))))
 refine gk1 8 ⟨some 10, _, _, _, _, _⟩ (i6 zn) rfl hS4 (fun w hSw => rl1 (hSw.box 0 rfl 3 rfl)) (gk1f 9 ⟨some 11, _, _, _, _, _⟩ (vP g0) rfl hS4 (fun w => by kernel_rfl) (gk1f 10 ⟨some 12, _, _, _, _, _⟩ (vP g0) rfl hS4 (fun w => by kernel_rfl) (gk1f 11 ⟨some 13, _, _, _, _, _⟩ (vQ g0 4) rfl hS4 (fun w => by kernel_rfl) (gk1 12 ⟨some 14, _, _, _, _, _⟩ (i6 p0_4) rfl hS4 (fun w hSw => rl1 (hSw.box 0 rfl 4 rfl)) (gk1f 13 ⟨some 15, _, _, _, _, _⟩ (vP g0) rfl hS4 (fun w => by kernel_rfl) (gk1f 14 ⟨some 16, _, _, _, _, _⟩ (vP g0) rfl hS4 (fun w => by kernel_rfl) (gk1f 15 ⟨some 17, _, _, _, _, _⟩ (vQ g0 5) rfl hS4 (fun w => by kernel_rfl) ?_)))))))
 refine gk1 16 ⟨some 18, _, _, _, _, _⟩ (i6 p0_5) rfl hS4 (fun w hSw => rl1 (hSw.box 0 rfl 5 rfl)) (gk1f 17 ⟨some 19, _, _, _, _, _⟩ (vP g0) rfl hS4 (fun w => by kernel_rfl) (gk1f 18 ⟨some 20, _, _, _, _, _⟩ (vP g0) rfl hS4 (fun w => by kernel_rfl) (gk1f 19 ⟨some 21, _, _, _, _, _⟩ (vQ g0 6) rfl hS4 (fun w => by kernel_rfl) (gk1 20 ⟨some 22, _, _, _, _, _⟩ (i6 p0_6) rfl hS4 (fun w hSw => rl1 (hSw.box 0 rfl 6 rfl)) (gk1f 21 ⟨some 23, _, _, _, _, _⟩ (vP g0) rfl hS4 (fun w => by kernel_rfl) (gk1f 22 ⟨some 24, _, _, _, _, _⟩ (vP g0) rfl hS4 (fun w => by kernel_rfl) (gk1f 23 ⟨some 25, _, _, _, _, _⟩ (vP g0) rfl hS4 (fun w => by kernel_rfl) ?_)))))))
 refine gk1f 24 ⟨some 26, _, _, _, _, _⟩ (vP g0) rfl hS4 (fun w => by kernel_rfl) (gk1f 25 ⟨some 27, _, _, _, _, _⟩ (vP g0) rfl hS4 (fun w => by kernel_rfl) (gk1f 26 ⟨some 28, _, _, _, _, _⟩ (vQ g0 6) rfl hS4 (fun w => by kernel_rfl) (gk1 27 ⟨some 29, _, _, _, _, _⟩ (i6 p0_6) rfl hS4 (fun w hSw => rl1 (hSw.box 0 rfl 6 rfl)) ?_)))
 have hP5 : St _ _ w3 ([plE g0 zA zc A0_1 c0_1 zb zg zl zn p0_4 p0_5 p0_6 p0_7 p0_8 p0_9 p0_10 p0_11] ++ []) := hS4
 obtain ⟨x7, hc6, hF⟩ := bind_in hF
 try dsimp only at hF
 refine gkC 28 ⟨some 30, _, _, _, _, _⟩ (pNext_R zb zg zl zn p0_4 p0_5 p0_6 p0_7 p0_8 p0_9 p0_10 p0_11 p0_6 g0 zA zc A0_1 c0_1 x7 w3) rfl (by kernel_rfl) (pNext_ok N zb zg zl zn p0_4 p0_5 p0_6 p0_7 p0_8 p0_9 p0_10 p0_11 p0_6 g0 zA zc A0_1 c0_1 _ hc6 w3 (hP5.vwA hv0_0) (hP5.vwA hv0_1) hP5.part) ?_
 rintro _ w8 ⟨rfl, hT10⟩
 have hS9 : St _ _ w8 [plE g0 zA zc A0_1 c0_1 zb zg zl zn p0_4 p0_5 p0_6 p0_7 p0_8 p0_9 p0_10 p0_11] := hP5.lendN _ hT10
 refine ⟨hS9, gk1f 29 ⟨some 31, _, _, _, _, _⟩ (vP g0) rfl hS9 (fun w => by kernel_rfl) (gk1 30 ⟨some 32, _, _, _, _, _⟩ (vQ g0 2) rfl hS9 (fun w hSw => by kernel_rfl) (gkS ⟨none, _, _, _, _, _⟩ rfl (st_store (j := 2) (v := (i6 zn)) rfl (by kernel_rfl) (by kernel_rfl) rfl (fun _ => by kernel_rfl) hS9 0 rfl (by show 2 < 12; decide)) ?_))⟩
 rintro w11 hS12
 have hS12 : St _ _ w11 [boxE g0 [.slice zA zb.length zc, .slice A0_1 zg.length c0_1, i6 zn, i6 zn, i6 p0_4, i6 p0_5, i6 p0_6, i6 p0_7, i6 p0_8, .bool p0_9, .bool p0_10, .bool p0_11] 42] := hS12
 refine ⟨(hS12.pick [] rfl rfl), gv1 32 33 (vP g0) rfl (hS12.pick [] rfl rfl) (gv1 33 34 (vQ g0 3) rfl (hS12.pick [] rfl rfl) (gdS 34 ⟨none, _, _, _, _, _⟩ rfl (st_store (j := 3) (v := (i6 p0_4)) rfl (by kernel_rfl) (by kernel_rfl) rfl (fun _ => by kernel_rfl) hS12 0 rfl (by show 3 < 12; decide)) ?_))⟩
 rintro w13 hS14
 have hS14 : St _ _ w13 [boxE g0 [.slice zA zb.length zc, .slice A0_1 zg.length c0_1, i6 zn, i6 p0_4, i6 p0_4, i6 p0_5, i6 p0_6, i6 p0_7, i6 p0_8, .bool p0_9, .bool p0_10, .bool p0_11] 42] := hS14
 refine ⟨(hS14.pick [] rfl rfl), gv1 35 35 (vP g0) rfl (hS14.pick [] rfl rfl) (gv1 36 36 (vQ g0 4) rfl (hS14.pick [] rfl rfl) (gdS 37 ⟨none, _, _, _, _, _⟩ rfl (st_store (j := 4) (v := (i6 p0_5)) rfl (by kernel_rfl) (by kernel_rfl) rfl (fun _ => by kernel_rfl) hS14 0 rfl (by show 4 < 12; decide)) ?_))⟩
 rintro w15 hS16
 have hS16 : St _ _ w15 [boxE g0 [.slice zA zb.length zc, .slice A0_1 zg.length c0_1, i6 zn, i6 p0_4, i6 p0_5, i6 p0_5, i6 p0_6, i6 p0_7, i6 p0_8, .bool p0_9, .bool p0_10, .bool p0_11] 42] := hS16
 refine ⟨(hS16.pick [] rfl rfl), gv1 38 37 (vP g0) rfl (hS16.pick [] rfl rfl) (gv1 39 38 (vQ g0 5) rfl (hS16.pick [] rfl rfl) (gdS 40 ⟨none, _, _, _, _, _⟩ rfl (st_store (j := 5) (v := (i6 p0_6)) rfl (by kernel_rfl) (by kernel_rfl) rfl (fun _ => by kernel_rfl) hS16 0 rfl (by show 5 < 12; decide)) ?_))⟩
 rintro w17 hS18
 have hS18 : St _ _ w17 [boxE g0 [.slice zA zb.length zc, .slice A0_1 zg.length c0_1, i6 zn, i6 p0_4, i6 p0_5, i6 p0_6, i6 p0_6, i6 p0_7, i6 p0_8, .bool p0_9, .bool p0_10, .bool p0_11] 42] := hS18
 refine ⟨(hS18.pick [] rfl rfl), gv1 41 39 (vP g0) rfl (hS18.pick [] rfl rfl) (gv1 42 40 (vQ g0 6) rfl (hS18.pick [] rfl rfl) (gdS 43 ⟨none, _, _, _, _, _⟩ rfl (st_store (j := 6) (v := (i6 x7)) rfl (by kernel_rfl) (by kernel_rfl) rfl (fun _ => by kernel_rfl) hS18 0 rfl (by show 6 < 12; decide)) ?_))⟩
 rintro w19 hS20
 have hS20 : St _ _ w19 [boxE g0 [.slice zA zb.length zc, .slice A0_1 zg.length c0_1, i6 zn, i6 p0_4, i6 p0_5, i6 p0_6, i6 x7, i6 p0_7, i6 p0_8, .bool p0_9, .bool p0_10, .bool p0_11] 42] := hS20
 refine ⟨(hS20.pick [] rfl rfl), gd_done (by kernel_rfl) (gx_thenN (hK2 _ _ ?_))⟩
 obtain ⟨c26, hE27, hO28⟩ := bind_in hF
 refine gx_cut (fun a w => ∃ (x24 : Int) (x25 : Int), selfA (fun u23 => ⟨((vP g0) :: undef :: (vP g0) :: (vP g0) :: (vP g0) :: (vP g0) :: (vP g0) :: (vP g0) :: (vP g0) :: (vQ g0 3) :: (i6 zn) :: (vP g0) :: (vP g0) :: (vQ g0 4) :: (i6 p0_4) :: (vP g0) :: (vP g0) :: (vQ g0 5) :: (i6 p0_5) :: (vP g0) :: (vP g0) :: (vQ g0 6) :: (i6 p0_6) :: (vP g0) :: (vP g0) :: (vP g0) :: (vP g0) :: (vP g0) :: (vQ g0 6) :: (i6 p0_6) :: (i6 x7) :: (vP g0) :: (vQ g0 2) :: (vP g0) :: (vQ g0 3) :: (vP g0) :: (vQ g0 4) :: (vP g0) :: (vQ g0 5) :: (vP g0) :: (vQ g0 6) :: dd u23 41 24 (un 55 ([]))).toArray, []⟩) a ∧ (x24, x25) = c26 ∧ St (foots [plE g0 zA zc A0_1 c0_1 zb zg zl zn p0_4 p0_5 p0_6 p0_7 p0_8 p0_9 p0_10 p0_11]) w0 w [boxE g0 [.slice zA zb.length zc, .slice A0_1 zg.length c0_1, i6 zn, i6 p0_4, i6 p0_5, i6 p0_6, i6 x7, i6 x24, i6 x25, .bool p0_9, .bool p0_10, .bool p0_11] 42]) ?_ ?_
 refine gx_seq (fun K29 hK30 => gdst (fun w => St (foots [plE g0 zA zc A0_1 c0_1 zb zg zl zn p0_4 p0_5 p0_6 p0_7 p0_8 p0_9 p0_10 p0_11]) w0 w [boxE g0 [.slice zA zb.length zc, .slice A0_1 zg.length c0_1, i6 zn, i6 p0_4, i6 p0_5, i6 p0_6, i6 x7, i6 p0_7, i6 p0_8, .bool p0_9, .bool p0_10, .bool p0_11] 42]) 10 ?_)
 have hS32 := hS20.drew
 generalize w19.drew = w31 at hS32 ⊢
 refine gv1 0 41 (vP g0) rfl hS32 (gv1 1 42 (vP g0) rfl hS32 (gv1 2 43 (vP g0) rfl hS32 (gv1 3 44 (vP g0) rfl hS32 (gv1 4 45 (vP g0) rfl hS32 (gv1 5 46 (vQ g0 3) rfl hS32 (gu1 6 47 (i6 p0_4) rfl hS32 (fun w hSw => rl1 (hSw.box 0 rfl 3 rfl)) (gdR 7 ⟨some 48, _, _, _, _, _⟩ rfl (st_made .u8 5 [5] hS32 (by show 1 ≤ 1000000000; decide) (by kernel_rfl)) ?_)))))))
 rintro _ w33 ⟨rfl, hS34⟩
 have hS34 : St _ _ w33 [boxE g0 [.slice zA zb.length zc, .slice A0_1 zg.length c0_1, i6 zn, i6 p0_4, i6 p0_5, i6 p0_6, i6 x7, i6 p0_7, i6 p0_8, .bool p0_9, .bool p0_10, .bool p0_11] 42, rowE .u8 5 (some ⟨w31.heap.size, 0, none⟩) 1 ([5])] := hS34
 refine ⟨(hS34.pick [0] rfl rfl), ?_⟩
 have hP35 : St _ _ w33 ([boxE g0 [.slice zA zb.length zc, .slice A0_1 zg.length c0_1, i6 zn, i6 p0_4, i6 p0_5, i6 p0_6, i6 x7, i6 p0_7, i6 p0_8, .bool p0_9, .bool p0_10, .bool p0_11] 42] ++ [rowE .u8 5 (some ⟨w31.heap.size, 0, none⟩) 1 ([5])]) := hS34
 obtain ⟨b37, hc36, hE27⟩ := bind_in hE27
 try dsimp only at hE27
 refine gdC 8 ⟨some 49, _, _, _, _, _⟩ _ rfl (by kernel_rfl) (pIs_ok N zb zg zn p0_4 p0_5 p0_6 x7 p0_7 p0_8 p0_9 p0_10 p0_11 p0_4 ([5]) g0 zA zc A0_1 c0_1 (some ⟨w31.heap.size, 0, none⟩) 1 _ hc36 w33 (hP35.vwA hv0_0) (hP35.vwA hv0_1) (hP35.vwB 0 rfl) hP35.part) ?_
 rintro _ w38 ⟨rfl, hT40⟩
 have hS39 : St _ _ w38 [rowE .u8 5 (some ⟨w31.heap.size, 0, none⟩) 1 ([5]), boxE g0 [.slice zA zb.length zc, .slice A0_1 zg.length c0_1, i6 zn, i6 p0_4, i6 p0_5, i6 p0_6, i6 x7, i6 p0_7, i6 p0_8, .bool p0_9, .bool p0_10, .bool p0_11] 42] := hP35.lendN _ hT40
 refine ⟨(hS39.pick [1] rfl rfl), ?_⟩
 rcases b37 with _ | _
 try dsimp only at hE27
 refine gv1 9 50 (.bool true) rfl (hS39.pick [1] rfl rfl) (gd_done (by kernel_rfl) (gx_thenN (hK30 _ _ (gx_yes (by kernel_rfl) (gk_start 12 (fun w => St (foots [plE g0 zA zc A0_1 c0_1 zb zg zl zn p0_4 p0_5 p0_6 p0_7 p0_8 p0_9 p0_10 p0_11]) w0 w [rowE .u8 5 (some ⟨w31.heap.size, 0, none⟩) 1 ([5]), boxE g0 [.slice zA zb.length zc, .slice A0_1 zg.length c0_1, i6 zn, i6 p0_4, i6 p0_5, i6 p0_6, i6 x7, i6 p0_7, i6 p0_8, .bool p0_9, .bool p0_10, .bool p0_11] 42]) (fun w => St (foots [plE g0 zA zc A0_1 c0_1 zb zg zl zn p0_4 p0_5 p0_6 p0_7 p0_8 p0_9 p0_10 p0_11]) w0 w [rowE .u8 5 (some ⟨w31.heap.size, 0, none⟩) 1 ([5])]) 16 (fz 16) (by kernel_rfl) (by kernel_rfl) ?_)))))
 have hS42 := hS39.drew
 generalize w38.drew = w41 at hS42 ⊢
 refine gk1 0 ⟨some 51, _, _, _, _, _⟩ (vP g0) rfl hS42 (fun w hSw => by kernel_rfl) (gk1f 1 ⟨some 52, _, _, _, _, _⟩ (vP g0) rfl hS42 (fun w => by kernel_rfl) (gk1 2 ⟨some 53, _, _, _, _, _⟩ (vP g0) rfl hS42 (fun w hSw => by kernel_rfl) (gk1 3 ⟨some 54, _, _, _, _, _⟩ (vP g0) rfl hS42 (fun w hSw => by kernel_rfl) (gk1 4 ⟨some 55, _, _, _, _, _⟩ (vQ g0 2) rfl hS42 (fun w hSw => by kernel_rfl) (gk1 5 ⟨some 56, _, _, _, _, _⟩ (i6 zn) rfl hS42 (fun w hSw => rl1 (hSw.box 1 rfl 2 rfl)) (gk1f 6 ⟨some 57, _, _, _, _, _⟩ (vP g0) rfl hS42 (fun w => by kernel_rfl) (gk1f 7 ⟨some 58, _, _, _, _, _⟩ (vP g0) rfl hS42 (fun w => by kernel_rfl) ?_)))))))
 refine gk1f 8 ⟨some 59, _, _, _, _, _⟩ (vQ g0 3) rfl hS42 (fun w => by kernel_rfl) (gk1 9 ⟨some 60, _, _, _, _, _⟩ (i6 p0_4) rfl hS42 (fun w hSw => rl1 (hSw.box 1 rfl 3 rfl)) (gk1f 10 ⟨some 61, _, _, _, _, _⟩ (vP g0) rfl hS42 (fun w => by kernel_rfl) (gk1 11 ⟨some 62, _, _, _, _, _⟩ (vQ g0 7) rfl hS42 (fun w hSw => by kernel_rfl) (gkS ⟨none, _, _, _, _, _⟩ rfl (st_store (j := 7) (v := (i6 zn)) rfl (by kernel_rfl) (by kernel_rfl) rfl (fun _ => by kernel_rfl) hS42 1 rfl (by show 7 < 12; decide)) ?_))))
 rintro w43 hS44
 have hS44 : St _ _ w43 [rowE .u8 5 (some ⟨w31.heap.size, 0, none⟩) 1 ([5]), boxE g0 [.slice zA zb.length zc, .slice A0_1 zg.length c0_1, i6 zn, i6 p0_4, i6 p0_5, i6 p0_6, i6 x7, i6 zn, i6 p0_8, .bool p0_9, .bool p0_10, .bool p0_11] 42] := hS44
 refine ⟨(hS44.pick [0] rfl rfl), gv1 13 63 (vP g0) rfl (hS44.pick [0] rfl rfl) (gv1 14 64 (vQ g0 8) rfl (hS44.pick [0] rfl rfl) (gdS 15 ⟨none, _, _, _, _, _⟩ rfl (st_store (j := 8) (v := (i6 p0_4)) rfl (by kernel_rfl) (by kernel_rfl) rfl (fun _ => by kernel_rfl) hS44 1 rfl (by show 8 < 12; decide)) ?_))⟩
 rintro w45 hS46
 have hS46 : St _ _ w45 [rowE .u8 5 (some ⟨w31.heap.size, 0, none⟩) 1 ([5]), boxE g0 [.slice zA zb.length zc, .slice A0_1 zg.length c0_1, i6 zn, i6 p0_4, i6 p0_5, i6 p0_6, i6 x7, i6 zn, i6 p0_4, .bool p0_9, .bool p0_10, .bool p0_11] 42] := hS46
 refine ⟨(hS46.pick [0] rfl rfl), gd_done (by kernel_rfl) (gx_thenN ?_)⟩
 exact ⟨zn, p0_4, selfA_i (by kernel_rfl), (sj hE27), (hS46.pick [1] rfl rfl)⟩
 try dsimp only at hE27
 refine gv1 9 50 (.bool false) rfl (hS39.pick [1] rfl rfl) (gd_done (by kernel_rfl) (gx_thenN (hK30 _ _ (gx_no (by kernel_rfl) (gx_pass (gx_thenN ?_))))))
 exact ⟨p0_7, p0_8, selfA_i (by kernel_rfl), (sj hE27), (hS39.pick [1] rfl rfl)⟩
 rintro _ w21 ⟨x24, x25, hq97, rfl, hS22⟩
 obtain ⟨u23, rfl⟩ := selfA_u hq97
 try dsimp only at hO28
 refine gx_seq (fun K47 hK48 => gx_region (gx_k (vP g0) w21 (gx_k (vP g0) w21 (gx_k (vP g0) w21 (gx_k (vQ g0 10) w21 (gx_v (.bool p0_10) w21 (rl1 (hS22.box 0 rfl 10 rfl)) (gx_k (vP g0) w21 (gx_k (vQ g0 9) w21 (gx_s (st_store (j := 9) (v := (.bool p0_10)) rfl (by kernel_rfl) (by kernel_rfl) rfl (fun _ => by kernel_rfl) hS22 0 rfl (by show 9 < 12; decide)) ?_)))))))))
 rintro w49 hS50
 have hS50 : St _ _ w49 [boxE g0 [.slice zA zb.length zc, .slice A0_1 zg.length c0_1, i6 zn, i6 p0_4, i6 p0_5, i6 p0_6, i6 x7, i6 x24, i6 x25, .bool p0_10, .bool p0_10, .bool p0_11] 42] := hS50
 refine gx_nil (gx_thenN (hK48 _ _ ?_))
 obtain ⟨c55, hE56, hO57⟩ := bind_in hO28
 refine gx_cut (fun a w => ∃ (b54 : Bool), selfA (fun u53 => ⟨((vP g0) :: undef :: (vP g0) :: (vP g0) :: (vP g0) :: (vP g0) :: (vP g0) :: (vP g0) :: (vP g0) :: (vQ g0 3) :: (i6 zn) :: (vP g0) :: (vP g0) :: (vQ g0 4) :: (i6 p0_4) :: (vP g0) :: (vP g0) :: (vQ g0 5) :: (i6 p0_5) :: (vP g0) :: (vP g0) :: (vQ g0 6) :: (i6 p0_6) :: (vP g0) :: (vP g0) :: (vP g0) :: (vP g0) :: (vP g0) :: (vQ g0 6) :: (i6 p0_6) :: (i6 x7) :: (vP g0) :: (vQ g0 2) :: (vP g0) :: (vQ g0 3) :: (vP g0) :: (vQ g0 4) :: (vP g0) :: (vQ g0 5) :: (vP g0) :: (vQ g0 6) :: dd u23 41 24 ((vP g0) :: (vP g0) :: (vP g0) :: (vQ g0 10) :: (.bool p0_10) :: (vP g0) :: (vQ g0 9) :: dd u53 72 29 (un 19 ([])))).toArray, []⟩) a ∧ b54 = c55 ∧ St (foots [plE g0 zA zc A0_1 c0_1 zb zg zl zn p0_4 p0_5 p0_6 p0_7 p0_8 p0_9 p0_10 p0_11]) w0 w [boxE g0 [.slice zA zb.length zc, .slice A0_1 zg.length c0_1, i6 zn, i6 p0_4, i6 p0_5, i6 p0_6, i6 x7, i6 x24, i6 x25, .bool p0_10, .bool b54, .bool p0_11] 42]) ?_ ?_
 refine gk_start 29 (fun w => St (foots [plE g0 zA zc A0_1 c0_1 zb zg zl zn p0_4 p0_5 p0_6 p0_7 p0_8 p0_9 p0_10 p0_11]) w0 w [boxE g0 [.slice zA zb.length zc, .slice A0_1 zg.length c0_1, i6 zn, i6 p0_4, i6 p0_5, i6 p0_6, i6 x7, i6 x24, i6 x25, .bool p0_10, .bool p0_10, .bool p0_11] 42]) (fun w => St (foots [plE g0 zA zc A0_1 c0_1 zb zg zl zn p0_4 p0_5 p0_6 p0_7 p0_8 p0_9 p0_10 p0_11]) w0 w []) 30 (fz 30) (by kernel_rfl) (by kernel_rfl) ?_
 have hS59 := hS50.drew
 generalize w49.drew = w58 at hS59 ⊢
 refine gk1 0 ⟨some 72, _, _, _, _, _⟩ (vP g0) rfl hS59 (fun w hSw => by kernel_rfl) (gk1 1 ⟨some 73, _, _, _, _, _⟩ (vP g0) rfl hS59 (fun w hSw => by kernel_rfl) (gk1 2 ⟨some 74, _, _, _, _, _⟩ (vP g0) rfl hS59 (fun w hSw => by kernel_rfl) (gk1 3 ⟨some 75, _, _, _, _, _⟩ (vP g0) rfl hS59 (fun w hSw => by kernel_rfl) (gk1 4 ⟨some 76, _, _, _, _, _⟩ (vP g0) rfl hS59 (fun w hSw => by kernel_rfl) (gk1 5 ⟨some 77, _, _, _, _, _⟩ (vP g0) rfl hS59 (fun w hSw => by kernel_rfl) (gk1 6 ⟨some 78, _, _, _, _, _⟩ (vQ g0 3) rfl hS59 (fun w hSw => by kernel_rfl) (gk1 7 ⟨some 79, _, _, _, _, _⟩ (i6 p0_4) rfl hS59 (fun w hSw => rl1 (hSw.box 0 rfl 3 rfl)) ?_)))))))
 refine gkR 8 ⟨some 80, _, _, _, _, _⟩ rfl (st_made .u8 5 [27] hS59 (by show 1 ≤ 1000000000; decide) (by kernel_rfl)) ?_
 rintro _ w60 ⟨rfl, hS61⟩
 have hS61 : St _ _ w60 [boxE g0 [.slice zA zb.length zc, .slice A0_1 zg.length c0_1, i6 zn, i6 p0_4, i6 p0_5, i6 p0_6, i6 x7, i6 x24, i6 x25, .bool p0_10, .bool p0_10, .bool p0_11] 42, rowE .u8 5 (some ⟨w58.heap.size, 0, none⟩) 1 ([27])] := hS61
 refine ⟨(hS61.pick [0] rfl rfl), ?_⟩
 have hP62 : St _ _ w60 ([boxE g0 [.slice zA zb.length zc, .slice A0_1 zg.length c0_1, i6 zn, i6 p0_4, i6 p0_5, i6 p0_6, i6 x7, i6 x24, i6 x25, .bool p0_10, .bool p0_10, .bool p0_11] 42] ++ [rowE .u8 5 (some ⟨w58.heap.size, 0, none⟩) 1 ([27])]) := hS61
 obtain ⟨b64, hc63, hE56⟩ := bind_in hE56
 try dsimp only at hE56
 refine gkC 9 ⟨some 81, _, _, _, _, _⟩ (pIs_R zb zg zn p0_4 p0_5 p0_6 x7 x24 x25 p0_10 p0_10 p0_11 p0_4 ([27]) g0 zA zc A0_1 c0_1 (some ⟨w58.heap.size, 0, none⟩) 1 b64 w60) rfl (by kernel_rfl) (pIs_ok N zb zg zn p0_4 p0_5 p0_6 x7 x24 x25 p0_10 p0_10 p0_11 p0_4 ([27]) g0 zA zc A0_1 c0_1 (some ⟨w58.heap.size, 0, none⟩) 1 _ hc63 w60 (hP62.vwA hv0_0) (hP62.vwA hv0_1) (hP62.vwB 0 rfl) hP62.part) ?_
 rintro _ w65 ⟨rfl, hT67⟩
 have hS66 : St _ _ w65 [rowE .u8 5 (some ⟨w58.heap.size, 0, none⟩) 1 ([27]), boxE g0 [.slice zA zb.length zc, .slice A0_1 zg.length c0_1, i6 zn, i6 p0_4, i6 p0_5, i6 p0_6, i6 x7, i6 x24, i6 x25, .bool p0_10, .bool p0_10, .bool p0_11] 42] := hP62.lendN _ hT67
 refine ⟨(hS66.pick [1] rfl rfl), gk1 10 ⟨some 82, _, _, _, _, _⟩ (.bool b64) rfl (hS66.pick [1] rfl rfl) (fun w hSw => by kernel_rfl) ?_⟩
 rcases b64 with _ | _
 try dsimp only at hE56
 refine gk1 11 ⟨some 83, _, _, _, _, _⟩ (vP g0) rfl (hS66.pick [1] rfl rfl) (fun w hSw => by kernel_rfl) (gk1 12 ⟨some 84, _, _, _, _, _⟩ (vP g0) rfl (hS66.pick [1] rfl rfl) (fun w hSw => by kernel_rfl) (gk1 13 ⟨some 85, _, _, _, _, _⟩ (vQ g0 9) rfl (hS66.pick [1] rfl rfl) (fun w hSw => by kernel_rfl) (gk1 14 ⟨some 86, _, _, _, _, _⟩ (.bool p0_10) rfl (hS66.pick [1] rfl rfl) (fun w hSw => rl1 (hSw.box 0 rfl 9 rfl)) (gk1 15 ⟨some 87, _, _, _, _, _⟩ (.bool p0_10) rfl (hS66.pick [1] rfl rfl) (fun w hSw => by kernel_rfl) ?_))))
 rcases p0_10 with _ | _
 try dsimp only at hE56
 refine gk0 16 ⟨some 88, _, _, _, _, _⟩ rfl (hS66.pick [1] rfl rfl) (gk0 17 ⟨some 89, _, _, _, _, _⟩ rfl (hS66.pick [1] rfl rfl) (gk0 18 ⟨some 90, _, _, _, _, _⟩ rfl (hS66.pick [1] rfl rfl) (gk0 19 ⟨some 91, _, _, _, _, _⟩ rfl (hS66.pick [1] rfl rfl) (gk0 20 ⟨some 92, _, _, _, _, _⟩ rfl (hS66.pick [1] rfl rfl) (gk0 21 ⟨some 93, _, _, _, _, _⟩ rfl (hS66.pick [1] rfl rfl) (gk0 22 ⟨some 94, _, _, _, _, _⟩ rfl (hS66.pick [1] rfl rfl) (gk0 23 ⟨some 95, _, _, _, _, _⟩ rfl (hS66.pick [1] rfl rfl) ?_)))))))
 refine gk0 24 ⟨some 96, _, _, _, _, _⟩ rfl (hS66.pick [1] rfl rfl) (gk1 25 ⟨some 97, _, _, _, _, _⟩ (.bool false) rfl (hS66.pick [1] rfl rfl) (fun w hSw => by kernel_rfl) (gk1 26 ⟨some 98, _, _, _, _, _⟩ (.bool false) rfl (hS66.pick [1] rfl rfl) (fun w hSw => by kernel_rfl) (gk1f 27 ⟨some 99, _, _, _, _, _⟩ (vP g0) rfl (hS66.pick [1] rfl rfl) (fun w => by kernel_rfl) (gk1 28 ⟨some 100, _, _, _, _, _⟩ (vQ g0 10) rfl (hS66.pick [1] rfl rfl) (fun w hSw => by kernel_rfl) (gkS ⟨none, _, _, _, _, _⟩ rfl (st_store (j := 10) (v := (.bool false)) rfl (by kernel_rfl) (by kernel_rfl) rfl (fun _ => by kernel_rfl) hS66 1 rfl (by show 10 < 12; decide)) ?_)))))
 rintro w80 hS81
 have hS81 : St _ _ w80 [rowE .u8 5 (some ⟨w58.heap.size, 0, none⟩) 1 ([27]), boxE g0 [.slice zA zb.length zc, .slice A0_1 zg.length c0_1, i6 zn, i6 p0_4, i6 p0_5, i6 p0_6, i6 x7, i6 x24, i6 x25, .bool false, .bool false, .bool p0_11] 42] := hS81
 refine ⟨(hS81.pick [] rfl rfl), gd_done (by kernel_rfl) (gx_thenN ?_)⟩
 exact ⟨false, selfA_i (by kernel_rfl), (sj hE56), (hS81.pick [1] rfl rfl)⟩
 try dsimp only at hE56
 refine gk1 16 ⟨some 88, _, _, _, _, _⟩ (vP g0) rfl (hS66.pick [1] rfl rfl) (fun w hSw => by kernel_rfl) (gk1 17 ⟨some 89, _, _, _, _, _⟩ (vP g0) rfl (hS66.pick [1] rfl rfl) (fun w hSw => by kernel_rfl) (gk1 18 ⟨some 90, _, _, _, _, _⟩ (vP g0) rfl (hS66.pick [1] rfl rfl) (fun w hSw => by kernel_rfl) (gk1 19 ⟨some 91, _, _, _, _, _⟩ (vP g0) rfl (hS66.pick [1] rfl rfl) (fun w hSw => by kernel_rfl) (gk1 20 ⟨some 92, _, _, _, _, _⟩ (vP g0) rfl (hS66.pick [1] rfl rfl) (fun w hSw => by kernel_rfl) (gk1 21 ⟨some 93, _, _, _, _, _⟩ (vQ g0 3) rfl (hS66.pick [1] rfl rfl) (fun w hSw => by kernel_rfl) (gk1 22 ⟨some 94, _, _, _, _, _⟩ (i6 p0_4) rfl (hS66.pick [1] rfl rfl) (fun w hSw => rl1 (hSw.box 0 rfl 3 rfl)) (gkR 23 ⟨some 95, _, _, _, _, _⟩ rfl (st_made .u8 5 [24, 23] hS66 (by show 2 ≤ 1000000000; decide) (by kernel_rfl)) ?_)))))))
 rintro _ w70 ⟨rfl, hS71⟩
 have hS71 : St _ _ w70 [rowE .u8 5 (some ⟨w58.heap.size, 0, none⟩) 1 ([27]), boxE g0 [.slice zA zb.length zc, .slice A0_1 zg.length c0_1, i6 zn, i6 p0_4, i6 p0_5, i6 p0_6, i6 x7, i6 x24, i6 x25, .bool true, .bool true, .bool p0_11] 42, rowE .u8 5 (some ⟨w65.heap.size, 0, none⟩) 2 ([24, 23])] := hS71
 refine ⟨(hS71.pick [1] rfl rfl), ?_⟩
 have hP72 : St _ _ w70 ([boxE g0 [.slice zA zb.length zc, .slice A0_1 zg.length c0_1, i6 zn, i6 p0_4, i6 p0_5, i6 p0_6, i6 x7, i6 x24, i6 x25, .bool true, .bool true, .bool p0_11] 42] ++ [rowE .u8 5 (some ⟨w58.heap.size, 0, none⟩) 1 ([27]), rowE .u8 5 (some ⟨w65.heap.size, 0, none⟩) 2 ([24, 23])]) := hS71.pick [1, 0, 2] rfl rfl
 obtain ⟨b74, hc73, hE56⟩ := bind_in hE56
 try dsimp only at hE56
 refine gkC 24 ⟨some 96, _, _, _, _, _⟩ (pIs_R zb zg zn p0_4 p0_5 p0_6 x7 x24 x25 true true p0_11 p0_4 ([24, 23]) g0 zA zc A0_1 c0_1 (some ⟨w65.heap.size, 0, none⟩) 2 b74 w70) rfl (by kernel_rfl) (pIs_ok N zb zg zn p0_4 p0_5 p0_6 x7 x24 x25 true true p0_11 p0_4 ([24, 23]) g0 zA zc A0_1 c0_1 (some ⟨w65.heap.size, 0, none⟩) 2 _ hc73 w70 (hP72.vwA hv0_0) (hP72.vwA hv0_1) (hP72.vwB 1 rfl) hP72.part) ?_
 rintro _ w75 ⟨rfl, hT77⟩
 have hS76 : St _ _ w75 [rowE .u8 5 (some ⟨w58.heap.size, 0, none⟩) 1 ([27]), rowE .u8 5 (some ⟨w65.heap.size, 0, none⟩) 2 ([24, 23]), boxE g0 [.slice zA zb.length zc, .slice A0_1 zg.length c0_1, i6 zn, i6 p0_4, i6 p0_5, i6 p0_6, i6 x7, i6 x24, i6 x25, .bool true, .bool true, .bool p0_11] 42] := hP72.lendN _ hT77
 refine ⟨(hS76.pick [2] rfl rfl), gk1 25 ⟨some 97, _, _, _, _, _⟩ (.bool b74) rfl (hS76.pick [2] rfl rfl) (fun w hSw => by kernel_rfl) (gk1 26 ⟨some 98, _, _, _, _, _⟩ (.bool b74) rfl (hS76.pick [2] rfl rfl) (fun w hSw => by kernel_rfl) (gk1f 27 ⟨some 99, _, _, _, _, _⟩ (vP g0) rfl (hS76.pick [2] rfl rfl) (fun w => by kernel_rfl) (gk1 28 ⟨some 100, _, _, _, _, _⟩ (vQ g0 10) rfl (hS76.pick [2] rfl rfl) (fun w hSw => by kernel_rfl) (gkS ⟨none, _, _, _, _, _⟩ rfl (st_store (j := 10) (v := (.bool b74)) rfl (by kernel_rfl) (by kernel_rfl) rfl (fun _ => by kernel_rfl) hS76 2 rfl (by show 10 < 12; decide)) ?_))))⟩
 rintro w78 hS79
 have hS79 : St _ _ w78 [rowE .u8 5 (some ⟨w58.heap.size, 0, none⟩) 1 ([27]), rowE .u8 5 (some ⟨w65.heap.size, 0, none⟩) 2 ([24, 23]), boxE g0 [.slice zA zb.length zc, .slice A0_1 zg.length c0_1, i6 zn, i6 p0_4, i6 p0_5, i6 p0_6, i6 x7, i6 x24, i6 x25, .bool true, .bool b74, .bool p0_11] 42] := hS79
 refine ⟨(hS79.pick [] rfl rfl), gd_done (by kernel_rfl) (gx_thenN ?_)⟩
 exact ⟨b74, selfA_i (by kernel_rfl), (sj hE56), (hS79.pick [2] rfl rfl)⟩
 try dsimp only at hE56
 refine gk0 11 ⟨some 83, _, _, _, _, _⟩ rfl (hS66.pick [1] rfl rfl) (gk0 12 ⟨some 84, _, _, _, _, _⟩ rfl (hS66.pick [1] rfl rfl) (gk0 13 ⟨some 85, _, _, _, _, _⟩ rfl (hS66.pick [1] rfl rfl) (gk0 14 ⟨some 86, _, _, _, _, _⟩ rfl (hS66.pick [1] rfl rfl) (gk0 15 ⟨some 87, _, _, _, _, _⟩ rfl (hS66.pick [1] rfl rfl) (gk0 16 ⟨some 88, _, _, _, _, _⟩ rfl (hS66.pick [1] rfl rfl) (gk0 17 ⟨some 89, _, _, _, _, _⟩ rfl (hS66.pick [1] rfl rfl) (gk0 18 ⟨some 90, _, _, _, _, _⟩ rfl (hS66.pick [1] rfl rfl) ?_)))))))
 refine gk0 19 ⟨some 91, _, _, _, _, _⟩ rfl (hS66.pick [1] rfl rfl) (gk0 20 ⟨some 92, _, _, _, _, _⟩ rfl (hS66.pick [1] rfl rfl) (gk0 21 ⟨some 93, _, _, _, _, _⟩ rfl (hS66.pick [1] rfl rfl) (gk0 22 ⟨some 94, _, _, _, _, _⟩ rfl (hS66.pick [1] rfl rfl) (gk0 23 ⟨some 95, _, _, _, _, _⟩ rfl (hS66.pick [1] rfl rfl) (gk0 24 ⟨some 96, _, _, _, _, _⟩ rfl (hS66.pick [1] rfl rfl) (gk0 25 ⟨some 97, _, _, _, _, _⟩ rfl (hS66.pick [1] rfl rfl) (gk1 26 ⟨some 98, _, _, _, _, _⟩ (.bool true) rfl (hS66.pick [1] rfl rfl) (fun w hSw => by kernel_rfl) ?_)))))))
 refine gk1f 27 ⟨some 99, _, _, _, _, _⟩ (vP g0) rfl (hS66.pick [1] rfl rfl) (fun w => by kernel_rfl) (gk1 28 ⟨some 100, _, _, _, _, _⟩ (vQ g0 10) rfl (hS66.pick [1] rfl rfl) (fun w hSw => by kernel_rfl) (gkS ⟨none, _, _, _, _, _⟩ rfl (st_store (j := 10) (v := (.bool true)) rfl (by kernel_rfl) (by kernel_rfl) rfl (fun _ => by kernel_rfl) hS66 1 rfl (by show 10 < 12; decide)) ?_))
 rintro w68 hS69
 have hS69 : St _ _ w68 [rowE .u8 5 (some ⟨w58.heap.size, 0, none⟩) 1 ([27]), boxE g0 [.slice zA zb.length zc, .slice A0_1 zg.length c0_1, i6 zn, i6 p0_4, i6 p0_5, i6 p0_6, i6 x7, i6 x24, i6 x25, .bool p0_10, .bool true, .bool p0_11] 42] := hS69
 refine ⟨(hS69.pick [] rfl rfl), gd_done (by kernel_rfl) (gx_thenN ?_)⟩
 exact ⟨true, selfA_i (by kernel_rfl), (sj hE56), (hS69.pick [1] rfl rfl)⟩
 rintro _ w51 ⟨b54, hq96, rfl, hS52⟩
 obtain ⟨u53, rfl⟩ := selfA_u hq96
 try dsimp only at hO57
 refine gk_start 19 (fun w => St (foots [plE g0 zA zc A0_1 c0_1 zb zg zl zn p0_4 p0_5 p0_6 p0_7 p0_8 p0_9 p0_10 p0_11]) w0 w [boxE g0 [.slice zA zb.length zc, .slice A0_1 zg.length c0_1, i6 zn, i6 p0_4, i6 p0_5, i6 p0_6, i6 x7, i6 x24, i6 x25, .bool p0_10, .bool b54, .bool p0_11] 42]) (fun w => St (foots [plE g0 zA zc A0_1 c0_1 zb zg zl zn p0_4 p0_5 p0_6 p0_7 p0_8 p0_9 p0_10 p0_11]) w0 w []) 20 (fz 20) (by kernel_rfl) (by kernel_rfl) ?_
 have hS83 := hS52.drew
 generalize w51.drew = w82 at hS83 ⊢
 refine gk1 0 ⟨some 101, _, _, _, _, _⟩ (vP g0) rfl hS83 (fun w hSw => by kernel_rfl) (gk1 1 ⟨some 102, _, _, _, _, _⟩ (vP g0) rfl hS83 (fun w hSw => by kernel_rfl) (gk1 2 ⟨some 103, _, _, _, _, _⟩ (vP g0) rfl hS83 (fun w hSw => by kernel_rfl) (gk1 3 ⟨some 104, _, _, _, _, _⟩ (vP g0) rfl hS83 (fun w hSw => by kernel_rfl) (gk1 4 ⟨some 105, _, _, _, _, _⟩ (vP g0) rfl hS83 (fun w hSw => by kernel_rfl) (gk1 5 ⟨some 106, _, _, _, _, _⟩ (vP g0) rfl hS83 (fun w hSw => by kernel_rfl) (gk1 6 ⟨some 107, _, _, _, _, _⟩ (vQ g0 3) rfl hS83 (fun w hSw => by kernel_rfl) (gk1 7 ⟨some 108, _, _, _, _, _⟩ (i6 p0_4) rfl hS83 (fun w hSw => rl1 (hSw.box 0 rfl 3 rfl)) ?_)))))))
 refine gkR 8 ⟨some 109, _, _, _, _, _⟩ rfl (st_made .u8 5 [32] hS83 (by show 1 ≤ 1000000000; decide) (by kernel_rfl)) ?_
 rintro _ w84 ⟨rfl, hS85⟩
 have hS85 : St _ _ w84 [boxE g0 [.slice zA zb.length zc, .slice A0_1 zg.length c0_1, i6 zn, i6 p0_4, i6 p0_5, i6 p0_6, i6 x7, i6 x24, i6 x25, .bool p0_10, .bool b54, .bool p0_11] 42, rowE .u8 5 (some ⟨w82.heap.size, 0, none⟩) 1 ([32])] := hS85
 refine ⟨(hS85.pick [0] rfl rfl), ?_⟩
 have hP86 : St _ _ w84 ([boxE g0 [.slice zA zb.length zc, .slice A0_1 zg.length c0_1, i6 zn, i6 p0_4, i6 p0_5, i6 p0_6, i6 x7, i6 x24, i6 x25, .bool p0_10, .bool b54, .bool p0_11] 42] ++ [rowE .u8 5 (some ⟨w82.heap.size, 0, none⟩) 1 ([32])]) := hS85
 obtain ⟨b88, hc87, hO57⟩ := bind_in hO57
 try dsimp only at hO57
 refine gkC 9 ⟨some 110, _, _, _, _, _⟩ (pIs_R zb zg zn p0_4 p0_5 p0_6 x7 x24 x25 p0_10 b54 p0_11 p0_4 ([32]) g0 zA zc A0_1 c0_1 (some ⟨w82.heap.size, 0, none⟩) 1 b88 w84) rfl (by kernel_rfl) (pIs_ok N zb zg zn p0_4 p0_5 p0_6 x7 x24 x25 p0_10 b54 p0_11 p0_4 ([32]) g0 zA zc A0_1 c0_1 (some ⟨w82.heap.size, 0, none⟩) 1 _ hc87 w84 (hP86.vwA hv0_0) (hP86.vwA hv0_1) (hP86.vwB 0 rfl) hP86.part) ?_
 rintro _ w89 ⟨rfl, hT91⟩
 have hS90 : St _ _ w89 [rowE .u8 5 (some ⟨w82.heap.size, 0, none⟩) 1 ([32]), boxE g0 [.slice zA zb.length zc, .slice A0_1 zg.length c0_1, i6 zn, i6 p0_4, i6 p0_5, i6 p0_6, i6 x7, i6 x24, i6 x25, .bool p0_10, .bool b54, .bool p0_11] 42] := hP86.lendN _ hT91
 refine ⟨(hS90.pick [1] rfl rfl), gk1 10 ⟨some 111, _, _, _, _, _⟩ (.bool b88) rfl (hS90.pick [1] rfl rfl) (fun w hSw => by kernel_rfl) ?_⟩
 rcases b88 with _ | _
 try dsimp only at hO57
 refine gk0 11 ⟨some 112, _, _, _, _, _⟩ rfl (hS90.pick [1] rfl rfl) (gk0 12 ⟨some 113, _, _, _, _, _⟩ rfl (hS90.pick [1] rfl rfl) (gk0 13 ⟨some 114, _, _, _, _, _⟩ rfl (hS90.pick [1] rfl rfl) (gk0 14 ⟨some 115, _, _, _, _, _⟩ rfl (hS90.pick [1] rfl rfl) (gk0 15 ⟨some 116, _, _, _, _, _⟩ rfl (hS90.pick [1] rfl rfl) (gk1 16 ⟨some 117, _, _, _, _, _⟩ (.bool false) rfl (hS90.pick [1] rfl rfl) (fun w hSw => by kernel_rfl) (gk1f 17 ⟨some 118, _, _, _, _, _⟩ (vP g0) rfl (hS90.pick [1] rfl rfl) (fun w => by kernel_rfl) (gk1 18 ⟨some 119, _, _, _, _, _⟩ (vQ g0 11) rfl (hS90.pick [1] rfl rfl) (fun w hSw => by kernel_rfl) ?_)))))))
 refine gkS ⟨none, _, _, _, _, _⟩ rfl (st_store (j := 11) (v := (.bool false)) rfl (by kernel_rfl) (by kernel_rfl) rfl (fun _ => by kernel_rfl) hS90 1 rfl (by show 11 < 12; decide)) ?_
 rintro w94 hS95
 have hS95 : St _ _ w94 [rowE .u8 5 (some ⟨w82.heap.size, 0, none⟩) 1 ([32]), boxE g0 [.slice zA zb.length zc, .slice A0_1 zg.length c0_1, i6 zn, i6 p0_4, i6 p0_5, i6 p0_6, i6 x7, i6 x24, i6 x25, .bool p0_10, .bool b54, .bool false] 42] := hS95
 refine ⟨(hS95.pick [] rfl rfl), gd_done (by kernel_rfl) ?_⟩
 obtain rfl := sj hO57
 exact gx_finN (.tuple #[]) (by kernel_rfl) (by kernel_rfl) ⟨_, rfl, rfl, (hS95.pick [1] rfl rfl)⟩
 try dsimp only at hO57
 refine gk1 11 ⟨some 112, _, _, _, _, _⟩ (vP g0) rfl (hS90.pick [1] rfl rfl) (fun w hSw => by kernel_rfl) (gk1 12 ⟨some 113, _, _, _, _, _⟩ (vP g0) rfl (hS90.pick [1] rfl rfl) (fun w hSw => by kernel_rfl) (gk1 13 ⟨some 114, _, _, _, _, _⟩ (vQ g0 11) rfl (hS90.pick [1] rfl rfl) (fun w hSw => by kernel_rfl) (gk1 14 ⟨some 115, _, _, _, _, _⟩ (.bool p0_11) rfl (hS90.pick [1] rfl rfl) (fun w hSw => rl1 (hSw.box 0 rfl 11 rfl)) (gk1 15 ⟨some 116, _, _, _, _, _⟩ (.bool (!p0_11)) rfl (hS90.pick [1] rfl rfl) (fun w hSw => by kernel_rfl) (gk1 16 ⟨some 117, _, _, _, _, _⟩ (.bool (!p0_11)) rfl (hS90.pick [1] rfl rfl) (fun w hSw => by kernel_rfl) (gk1f 17 ⟨some 118, _, _, _, _, _⟩ (vP g0) rfl (hS90.pick [1] rfl rfl) (fun w => by kernel_rfl) (gk1 18 ⟨some 119, _, _, _, _, _⟩ (vQ g0 11) rfl (hS90.pick [1] rfl rfl) (fun w hSw => by kernel_rfl) ?_)))))))
 refine gkS ⟨none, _, _, _, _, _⟩ rfl (st_store (j := 11) (v := (.bool (!p0_11))) rfl (by kernel_rfl) (by kernel_rfl) rfl (fun _ => by kernel_rfl) hS90 1 rfl (by show 11 < 12; decide)) ?_
 rintro w92 hS93
 have hS93 : St _ _ w92 [rowE .u8 5 (some ⟨w82.heap.size, 0, none⟩) 1 ([32]), boxE g0 [.slice zA zb.length zc, .slice A0_1 zg.length c0_1, i6 zn, i6 p0_4, i6 p0_5, i6 p0_6, i6 x7, i6 x24, i6 x25, .bool p0_10, .bool b54, .bool (!p0_11)] 42] := hS93
 refine ⟨(hS93.pick [] rfl rfl), gd_done (by kernel_rfl) ?_⟩
 obtain rfl := sj hO57
 exact gx_finN (.tuple #[]) (by kernel_rfl) (by kernel_rfl) ⟨_, rfl, rfl, (hS93.pick [1] rfl rfl)⟩
def pFirst (N : Nat) (p0 : List Int) : Option (List Int × Int × Int × Int × Int × Int × Int × Int × Bool × Bool × Bool) :=
 ((pTextOf N p0).bind fun l7 => ((pNext N p0 l7 (-1 : Int) (-1 : Int) (0 : Int) (0 : Int) (0 : Int) (-1 : Int) (-1 : Int) false false false (0 : Int)).bind fun x21 => ((pNext N p0 l7 (-1 : Int) (-1 : Int) (0 : Int) x21 (0 : Int) (-1 : Int) (-1 : Int) false false false x21).bind fun x33 => ((pGoOn N p0 l7 (-1 : Int) (-1 : Int) (0 : Int) x21 x33 (-1 : Int) (-1 : Int) false false false).bind fun (x43, x44, x45, x46, x47, x48, x49, b50, b51, b52) => some (l7, x43, x44, x45, x46, x47, x48, x49, b50, b51, b52)))))
def pFirst_R (p0 : List Int) (A0 : Option Addr) (c0 : Nat) (r : List Int × Int × Int × Int × Int × Int × Int × Int × Bool × Bool × Bool) (w0 : World) (v : Value) (w : World) : Prop := ∃ (g0' : Nat) (A0_1' : Option Addr) (c0_1' : Nat), v = .pointer (some ⟨g0', 0, none⟩) ∧ St [] w0 w [boxE g0' [.slice A0 p0.length c0, .slice A0_1' r.1.length c0_1', .int .i64 r.2.1, .int .i64 r.2.2.1, .int .i64 r.2.2.2.1, .int .i64 r.2.2.2.2.1, .int .i64 r.2.2.2.2.2.1, .int .i64 r.2.2.2.2.2.2.1, .int .i64 r.2.2.2.2.2.2.2.1, .bool r.2.2.2.2.2.2.2.2.1, .bool r.2.2.2.2.2.2.2.2.2.1, .bool r.2.2.2.2.2.2.2.2.2.2] 42, rowE .u8 5 A0_1' c0_1' r.1]
theorem pFirst_ok (N : Nat) (p0 : List Int) (A0 : Option Addr) (c0 : Nat) (r : List Int × Int × Int × Int × Int × Int × Int × Int × Bool × Bool × Bool) (hF : pFirst N p0 = some r) (w0 : World) (hv0 : Vw [] .i32 w0 A0 c0 p0) :
  Calls Tryz.prog 13 #[.slice A0 p0.length c0] w0 fun e w => ∃ v, e = .returned v ∧ pFirst_R p0 A0 c0 r w0 v w := by
 have hS0 := St.start w0
 unfold pFirst at hF
 refine calls_of Tryz.func13 rfl ⟨((.slice A0 p0.length c0) :: un 32 ([])).toArray, []⟩ (by kernel_rfl) (gx_seq (fun K1 hK2 => gx_region (gx_k (.pointer none) w0 (gx_nil (gx_thenN (hK2 _ _ (gx_seq (fun K3 hK4 => ?_))))))))
 refine gx_region (gx_k (.slice A0 p0.length c0) w0 ?_)
 have hP5 : St _ _ w0 ([] ++ []) := hS0
 obtain ⟨l7, hc6, hF⟩ := bind_in hF
 try dsimp only at hF
 refine gx_c _ (pTextOf_ok N p0 A0 c0 _ hc6 w0 (hP5.vwA hv0)) ?_
 rintro _ w10 ⟨A8, c9, rfl, hT12⟩
 have hS11 : St _ _ w10 [rowE .u8 5 A8 c9 l7] := hS0.take _ hT12
 refine gx_k (.agg #[.slice A0 p0.length c0, .slice A8 l7.length c9, i6 (-1), i6 (-1), i6 0, i6 0, i6 0, i6 (-1), i6 (-1), .bool false, .bool false, .bool false]) w10 (gx_r (st_boxed [.slice A0 p0.length c0, .slice A8 l7.length c9, i6 (-1), i6 (-1), i6 0, i6 0, i6 0, i6 (-1), i6 (-1), .bool false, .bool false, .bool false] 42 hS11 (by kernel_rfl)) ?_)
 rintro _ w13 ⟨rfl, hS14⟩
 have hS14 : St _ _ w13 [rowE .u8 5 A8 c9 l7, boxE w10.heap.size [.slice A0 p0.length c0, .slice A8 l7.length c9, i6 (-1), i6 (-1), i6 0, i6 0, i6 0, i6 (-1), i6 (-1), .bool false, .bool false, .bool false] 42] := hS14
 refine gx_k (vP w10.heap.size) w13 (gx_nil (gx_thenN (hK4 _ _ (gx_seq (fun K15 hK16 => gdst (fun w => St [] w0 w [rowE .u8 5 A8 c9 l7]) 12 ?_)))))
 have hS18 := hS14.drew
 generalize w13.drew = w17 at hS18 ⊢
 refine gv1 0 8 (vP w10.heap.size) rfl (hS18.pick [0] rfl rfl) (gv1 1 9 (vP w10.heap.size) rfl (hS18.pick [0] rfl rfl) (gv1 2 10 (vP w10.heap.size) rfl (hS18.pick [0] rfl rfl) (gv1 3 11 (vP w10.heap.size) rfl (hS18.pick [0] rfl rfl) (gv1 4 12 (vP w10.heap.size) rfl (hS18.pick [0] rfl rfl) (gv1 5 13 (vP w10.heap.size) rfl (hS18.pick [0] rfl rfl) (gv1 6 14 (vQ w10.heap.size 4) rfl (hS18.pick [0] rfl rfl) (gdR 7 ⟨some 15, _, _, _, _, _⟩ (R := fun v w => v = i6 0 ∧ w17 = w) rfl ⟨_, _, rl1 (hS18.box 1 rfl 4 rfl), rfl, rfl⟩ ?_)))))))
 rintro _ _ ⟨rfl, rfl⟩
 refine ⟨(hS18.pick [0] rfl rfl), ?_⟩
 have hP19 : St _ _ w17 ([boxE w10.heap.size [.slice A0 p0.length c0, .slice A8 l7.length c9, i6 (-1), i6 (-1), i6 0, i6 0, i6 0, i6 (-1), i6 (-1), .bool false, .bool false, .bool false] 42] ++ [rowE .u8 5 A8 c9 l7]) := hS18.pick [1, 0] rfl rfl
 obtain ⟨x21, hc20, hF⟩ := bind_in hF
 try dsimp only at hF
 refine gdC 8 ⟨some 16, _, _, _, _, _⟩ _ rfl (by kernel_rfl) (pNext_ok N p0 l7 (-1 : Int) (-1 : Int) (0 : Int) (0 : Int) (0 : Int) (-1 : Int) (-1 : Int) false false false (0 : Int) w10.heap.size A0 c0 A8 c9 _ hc20 w17 (hP19.vwA hv0) (hP19.vwB 0 rfl) hP19.part) ?_
 rintro _ w22 ⟨rfl, hT24⟩
 have hS23 : St _ _ w22 [rowE .u8 5 A8 c9 l7, boxE w10.heap.size [.slice A0 p0.length c0, .slice A8 l7.length c9, i6 (-1), i6 (-1), i6 0, i6 0, i6 0, i6 (-1), i6 (-1), .bool false, .bool false, .bool false] 42] := hP19.lendN _ hT24
 refine ⟨(hS23.pick [0] rfl rfl), gv1 9 17 (vP w10.heap.size) rfl (hS23.pick [0] rfl rfl) (gv1 10 18 (vQ w10.heap.size 5) rfl (hS23.pick [0] rfl rfl) (gdS 11 ⟨none, _, _, _, _, _⟩ rfl (st_store (j := 5) (v := (i6 x21)) rfl (by kernel_rfl) (by kernel_rfl) rfl (fun _ => by kernel_rfl) hS23 1 rfl (by show 5 < 12; decide)) ?_))⟩
 rintro w25 hS26
 have hS26 : St _ _ w25 [rowE .u8 5 A8 c9 l7, boxE w10.heap.size [.slice A0 p0.length c0, .slice A8 l7.length c9, i6 (-1), i6 (-1), i6 0, i6 x21, i6 0, i6 (-1), i6 (-1), .bool false, .bool false, .bool false] 42] := hS26
 refine ⟨(hS26.pick [0] rfl rfl), gd_done (by kernel_rfl) (gx_thenN (hK16 _ _ (gx_seq (fun K27 hK28 => gdst (fun w => St [] w0 w [rowE .u8 5 A8 c9 l7]) 12 ?_))))⟩
 have hS30 := hS26.drew
 generalize w25.drew = w29 at hS30 ⊢
 refine gv1 0 19 (vP w10.heap.size) rfl (hS30.pick [0] rfl rfl) (gv1 1 20 (vP w10.heap.size) rfl (hS30.pick [0] rfl rfl) (gv1 2 21 (vP w10.heap.size) rfl (hS30.pick [0] rfl rfl) (gv1 3 22 (vP w10.heap.size) rfl (hS30.pick [0] rfl rfl) (gv1 4 23 (vP w10.heap.size) rfl (hS30.pick [0] rfl rfl) (gv1 5 24 (vP w10.heap.size) rfl (hS30.pick [0] rfl rfl) (gv1 6 25 (vQ w10.heap.size 5) rfl (hS30.pick [0] rfl rfl) (gdR 7 ⟨some 26, _, _, _, _, _⟩ (R := fun v w => v = i6 x21 ∧ w29 = w) rfl ⟨_, _, rl1 (hS30.box 1 rfl 5 rfl), rfl, rfl⟩ ?_)))))))
 rintro _ _ ⟨rfl, rfl⟩
 refine ⟨(hS30.pick [0] rfl rfl), ?_⟩
 have hP31 : St _ _ w29 ([boxE w10.heap.size [.slice A0 p0.length c0, .slice A8 l7.length c9, i6 (-1), i6 (-1), i6 0, i6 x21, i6 0, i6 (-1), i6 (-1), .bool false, .bool false, .bool false] 42] ++ [rowE .u8 5 A8 c9 l7]) := hS30.pick [1, 0] rfl rfl
 obtain ⟨x33, hc32, hF⟩ := bind_in hF
 try dsimp only at hF
 refine gdC 8 ⟨some 27, _, _, _, _, _⟩ _ rfl (by kernel_rfl) (pNext_ok N p0 l7 (-1 : Int) (-1 : Int) (0 : Int) x21 (0 : Int) (-1 : Int) (-1 : Int) false false false x21 w10.heap.size A0 c0 A8 c9 _ hc32 w29 (hP31.vwA hv0) (hP31.vwB 0 rfl) hP31.part) ?_
 rintro _ w34 ⟨rfl, hT36⟩
 have hS35 : St _ _ w34 [rowE .u8 5 A8 c9 l7, boxE w10.heap.size [.slice A0 p0.length c0, .slice A8 l7.length c9, i6 (-1), i6 (-1), i6 0, i6 x21, i6 0, i6 (-1), i6 (-1), .bool false, .bool false, .bool false] 42] := hP31.lendN _ hT36
 refine ⟨(hS35.pick [0] rfl rfl), gv1 9 28 (vP w10.heap.size) rfl (hS35.pick [0] rfl rfl) (gv1 10 29 (vQ w10.heap.size 6) rfl (hS35.pick [0] rfl rfl) (gdS 11 ⟨none, _, _, _, _, _⟩ rfl (st_store (j := 6) (v := (i6 x33)) rfl (by kernel_rfl) (by kernel_rfl) rfl (fun _ => by kernel_rfl) hS35 1 rfl (by show 6 < 12; decide)) ?_))⟩
 rintro w37 hS38
 have hS38 : St _ _ w37 [rowE .u8 5 A8 c9 l7, boxE w10.heap.size [.slice A0 p0.length c0, .slice A8 l7.length c9, i6 (-1), i6 (-1), i6 0, i6 x21, i6 x33, i6 (-1), i6 (-1), .bool false, .bool false, .bool false] 42] := hS38
 refine ⟨(hS38.pick [0] rfl rfl), gd_done (by kernel_rfl) (gx_thenN (hK28 _ _ (gx_seq (fun K39 hK40 => gx_region (gx_k (vP w10.heap.size) w37 ?_)))))⟩
 have hP41 : St _ _ w37 ([boxE w10.heap.size [.slice A0 p0.length c0, .slice A8 l7.length c9, i6 (-1), i6 (-1), i6 0, i6 x21, i6 x33, i6 (-1), i6 (-1), .bool false, .bool false, .bool false] 42] ++ [rowE .u8 5 A8 c9 l7]) := hS38.pick [1, 0] rfl rfl
 obtain ⟨⟨x43, x44, x45, x46, x47, x48, x49, b50, b51, b52⟩, hc42, hF⟩ := bind_in hF
 try dsimp only at hF
 refine gx_c _ (pGoOn_ok N p0 l7 (-1 : Int) (-1 : Int) (0 : Int) x21 x33 (-1 : Int) (-1 : Int) false false false w10.heap.size A0 c0 A8 c9 _ hc42 w37 (hP41.vwA hv0) (hP41.vwB 0 rfl) hP41.part) ?_
 rintro _ w53 ⟨rfl, hT55⟩
 have hS54 : St _ _ w53 [rowE .u8 5 A8 c9 l7, boxE w10.heap.size [.slice A0 p0.length c0, .slice A8 l7.length c9, i6 x43, i6 x44, i6 x45, i6 x46, i6 x47, i6 x48, i6 x49, .bool b50, .bool b51, .bool b52] 42] := hP41.lendN _ hT55
 refine gx_nil (gx_thenN (hK40 _ _ (gx_seq (fun K56 hK57 => gx_region (gx_k (vP w10.heap.size) w53 (gx_k (vP w10.heap.size) w53 (gx_nil (gx_thenN ?_))))))))
 refine hK57 _ _ (gx_ret ?_)
 obtain rfl := sj hF
 exact gxF (vP w10.heap.size) ⟨_, rfl, w10.heap.size, A8, c9, rfl, (hS54.pick [1, 0] rfl rfl)⟩
def rulC : List Value := .func (.func 22) #[] #[] :: .func (.func 23) #[] #[] :: .func (.func 24) #[] #[] :: .func (.func 25) #[] #[] :: .func (.func 26) #[] #[] :: .func (.func 27) #[] #[] :: .func (.func 28) #[] #[] :: .func (.func 29) #[] #[] :: .func (.func 30) #[] #[] :: .func (.func 31) #[] #[] :: .func (.func 32) #[] #[] :: .func (.func 33) #[] #[] :: .func (.func 34) #[] #[] :: .func (.func 35) #[] #[] :: .func (.func 36) #[] #[] :: .func (.func 37) #[] #[] :: .func (.func 38) #[] #[] :: .func (.func 39) #[] #[] :: .func (.func 40) #[] #[] :: .func (.func 41) #[] #[] :: .func (.func 42) #[] #[] :: .func (.func 43) #[] #[] :: .func (.func 44) #[] #[] :: .func (.func 45) #[] #[] :: .func (.func 46) #[] #[] :: .func (.func 47) #[] #[] :: .func (.func 48) #[] #[] :: .func (.func 49) #[] #[] :: .func (.func 50) #[] #[] :: .func (.func 51) #[] #[] :: .func (.func 52) #[] #[] :: .func (.func 53) #[] #[] :: .func (.func 54) #[] #[] :: .func (.func 55) #[] #[] :: .func (.func 56) #[] #[] :: .func (.func 57) #[] #[] :: .func (.func 58) #[] #[] :: .func (.func 59) #[] #[] :: .func (.func 60) #[] #[] :: .func (.func 61) #[] #[] :: .func (.func 62) #[] #[] :: .func (.func 63) #[] #[] :: .func (.func 64) #[] #[] :: []
def pRules (_N : Nat) : Option (Unit) :=
 some ()
def pRules_R (_r : Unit) (w0 : World) (v : Value) (w : World) : Prop := v = .agg rulC.toArray ∧ St [] w0 w []
theorem pRules_ok (N : Nat)  (r : Unit) (hF : pRules N = some r) (w0 : World)  :
  Calls Tryz.prog 12 #[] w0 fun e w => ∃ v, e = .returned v ∧ pRules_R r w0 v w := by
 have hS0 := St.start w0
 unfold pRules at hF
 refine calls_of Tryz.func12 rfl ⟨(undef :: undef :: []).toArray, []⟩ (by kernel_rfl) (gx_seq (fun K1 hK2 => gx_region (gx_r (st_boxed [Value.nilFunc, Value.nilFunc, Value.nilFunc, Value.nilFunc, Value.nilFunc, Value.nilFunc, Value.nilFunc, Value.nilFunc, Value.nilFunc, Value.nilFunc, Value.nilFunc, Value.nilFunc, Value.nilFunc, Value.nilFunc, Value.nilFunc, Value.nilFunc, Value.nilFunc, Value.nilFunc, Value.nilFunc, Value.nilFunc, Value.nilFunc, Value.nilFunc, Value.nilFunc, Value.nilFunc, Value.nilFunc, Value.nilFunc, Value.nilFunc, Value.nilFunc, Value.nilFunc, Value.nilFunc, Value.nilFunc, Value.nilFunc, Value.nilFunc, Value.nilFunc, Value.nilFunc, Value.nilFunc, Value.nilFunc, Value.nilFunc, Value.nilFunc, Value.nilFunc, Value.nilFunc, Value.nilFunc, Value.nilFunc] 35 hS0 (by kernel_rfl)) ?_)))
 rintro _ w3 ⟨rfl, hS4⟩
 have hS4 : St _ _ w3 [boxE w0.heap.size [Value.nilFunc, Value.nilFunc, Value.nilFunc, Value.nilFunc, Value.nilFunc, Value.nilFunc, Value.nilFunc, Value.nilFunc, Value.nilFunc, Value.nilFunc, Value.nilFunc, Value.nilFunc, Value.nilFunc, Value.nilFunc, Value.nilFunc, Value.nilFunc, Value.nilFunc, Value.nilFunc, Value.nilFunc, Value.nilFunc, Value.nilFunc, Value.nilFunc, Value.nilFunc, Value.nilFunc, Value.nilFunc, Value.nilFunc, Value.nilFunc, Value.nilFunc, Value.nilFunc, Value.nilFunc, Value.nilFunc, Value.nilFunc, Value.nilFunc, Value.nilFunc, Value.nilFunc, Value.nilFunc, Value.nilFunc, Value.nilFunc, Value.nilFunc, Value.nilFunc, Value.nilFunc, Value.nilFunc, Value.nilFunc] 35] := hS4
 refine gx_nil (gx_thenN (hK2 _ _ (gx_seq (fun K5 hK6 => gx_region (gx_k (.agg rulC.toArray) w3 ?_)))))
 refine gx_s (st_storeG (cs := [Value.nilFunc, Value.nilFunc, Value.nilFunc, Value.nilFunc, Value.nilFunc, Value.nilFunc, Value.nilFunc, Value.nilFunc, Value.nilFunc, Value.nilFunc, Value.nilFunc, Value.nilFunc, Value.nilFunc, Value.nilFunc, Value.nilFunc, Value.nilFunc, Value.nilFunc, Value.nilFunc, Value.nilFunc, Value.nilFunc, Value.nilFunc, Value.nilFunc, Value.nilFunc, Value.nilFunc, Value.nilFunc, Value.nilFunc, Value.nilFunc, Value.nilFunc, Value.nilFunc, Value.nilFunc, Value.nilFunc, Value.nilFunc, Value.nilFunc, Value.nilFunc, Value.nilFunc, Value.nilFunc, Value.nilFunc, Value.nilFunc, Value.nilFunc, Value.nilFunc, Value.nilFunc, Value.nilFunc, Value.nilFunc]) (ds := [.func (.func 22) #[] #[], .func (.func 23) #[] #[], .func (.func 24) #[] #[], .func (.func 25) #[] #[], .func (.func 26) #[] #[], .func (.func 27) #[] #[], .func (.func 28) #[] #[], .func (.func 29) #[] #[], .func (.func 30) #[] #[], .func (.func 31) #[] #[], .func (.func 32) #[] #[], .func (.func 33) #[] #[], .func (.func 34) #[] #[], .func (.func 35) #[] #[], .func (.func 36) #[] #[], .func (.func 37) #[] #[], .func (.func 38) #[] #[], .func (.func 39) #[] #[], .func (.func 40) #[] #[], .func (.func 41) #[] #[], .func (.func 42) #[] #[], .func (.func 43) #[] #[], .func (.func 44) #[] #[], .func (.func 45) #[] #[], .func (.func 46) #[] #[], .func (.func 47) #[] #[], .func (.func 48) #[] #[], .func (.func 49) #[] #[], .func (.func 50) #[] #[], .func (.func 51) #[] #[], .func (.func 52) #[] #[], .func (.func 53) #[] #[], .func (.func 54) #[] #[], .func (.func 55) #[] #[], .func (.func 56) #[] #[], .func (.func 57) #[] #[], .func (.func 58) #[] #[], .func (.func 59) #[] #[], .func (.func 60) #[] #[], .func (.func 61) #[] #[], .func (.func 62) #[] #[], .func (.func 63) #[] #[], .func (.func 64) #[] #[]]) rfl (by kernel_rfl) (by kernel_rfl) (by kernel_rfl) rfl rfl hS4 0 rfl) ?_
 rintro w7 hS8
 have hS8 : St _ _ w7 [boxE w0.heap.size rulC 35] := hS8
 refine gx_nil (gx_thenN (hK6 _ _ (gx_ret ?_)))
 obtain rfl := sj hF
 exact gx_fin (.agg rulC.toArray) (by kernel_rfl) (res_cell rfl _ _ w0.heap.size _ _ _ (by kernel_rfl) (hS8.get 0 rfl) (by kernel_rfl) (by kernel_rfl)) ⟨_, rfl, rfl, (hS8.pick [] rfl rfl)⟩
end Go.Proofs.YtdbimchiecdkoaaGreat

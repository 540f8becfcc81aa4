/-
  slices.Sort, walked.
-/
import Derived.Test.YtgjlpiljacecpaaZ0
namespace Go.Proofs.Ytgjlpiljacecpaa
open Go Go.RowKit
set_option linter.unusedVariables false
set_option maxRecDepth 100000
set_option maxHeartbeats 4000000
def zOrd (N : Nat) (p0 : List Int) (p1 : Int) (p2 : Int) (p3_0 : Int) : Option (Int × Int × Int) :=
 ((ix p0 p2).bind fun x9 => ((ix p0 p1).bind fun x11 => ((zLess N x9 x11).bind fun b15 => (match b15 with | true => some (p2, p1, (IntKind.i64.wrap (p3_0 + 1))) | false => some (p1, p2, p3_0)))))
def zOrd_R (p0 : List Int) (p1 : Int) (p2 : Int) (p3_0 : Int) (A0 : Option Addr) (c0 : Nat) (g3 : Nat) (r : Int × Int × Int) (w0 : World) (v : Value) (w : World) : Prop := v = .tuple #[.int .i64 r.1, .int .i64 r.2.1] ∧ St (foots [boxE g3 [.int .i64 p3_0] 3]) w0 w [boxE g3 [.int .i64 r.2.2] 3]
theorem zOrd_ok (N : Nat) (p0 : List Int) (p1 : Int) (p2 : Int) (p3_0 : Int) (A0 : Option Addr) (c0 : Nat) (g3 : Nat) (r : Int × Int × Int) (hF : zOrd N p0 p1 p2 p3_0 = some r) (w0 : World) (hv0 : Vw (foots [boxE g3 [.int .i64 p3_0] 3]) .u16 w0 A0 c0 p0) (hl : St (foots [boxE g3 [.int .i64 p3_0] 3]) w0 w0 [boxE g3 [.int .i64 p3_0] 3]) :
  Calls Try.prog 144 #[.slice A0 p0.length c0, .int .i64 p1, .int .i64 p2, .pointer (some ⟨g3, 0, none⟩)] w0 fun e w => ∃ v, e = .returned v ∧ zOrd_R p0 p1 p2 p3_0 A0 c0 g3 r w0 v w := by
 have hS0 := hl
 unfold zOrd at hF
 refine calls_of Try.func144 rfl ⟨((.slice A0 p0.length c0) :: (i6 p1) :: (i6 p2) :: (vP g3) :: un 24 ([])).toArray, []⟩ (by kernel_rfl) (gx_seq (fun K1 hK2 => gx_region (gx_k (i6 0) w0 (gx_k (i6 0) w0 (gx_nil (gx_thenN (hK2 _ _ (gx_seq (fun K3 hK4 => ?_)))))))))
 refine gx_seq (fun K5 hK6 => gdst (fun w => St (foots [boxE g3 [i6 p3_0] 3]) w0 w [boxE g3 [i6 p3_0] 3]) 9 ?_)
 have hS8 := hS0.drew
 generalize w0.drew = w7 at hS8 ⊢
 refine gv1 0 10 (.slice A0 p0.length c0) rfl hS8 (gv1 1 11 (i6 p2) rfl hS8 ?_)
 obtain ⟨x9, hx10, hF⟩ := bind_in hF
 refine gu1 2 12 (pI p2 A0) rfl hS8 (fun w hSw => rix 31 .i64 hx10 ((hS8.view hv0))) (gu1 3 13 (u6 x9) rfl hS8 (fun w hSw => rlx (hSw.view hv0) hx10) (gv1 4 14 (.slice A0 p0.length c0) rfl hS8 (gv1 5 15 (i6 p1) rfl hS8 ?_)))
 obtain ⟨x11, hx12, hF⟩ := bind_in hF
 refine gu1 6 16 (pI p1 A0) rfl hS8 (fun w hSw => rix 31 .i64 hx12 ((hS8.view hv0))) (gu1 7 17 (u6 x11) rfl hS8 (fun w hSw => rlx (hSw.view hv0) hx12) ?_)
 have hP13 : St _ _ w7 ([] ++ [boxE g3 [i6 p3_0] 3]) := hS8
 obtain ⟨b15, hc14, hF⟩ := bind_in hF
 try dsimp only at hF
 refine gdC 8 ⟨some 18, _, _, _, _, _⟩ _ rfl (by kernel_rfl) (zLess_ok N x9 x11 _ hc14 w7 ) ?_
 rintro _ w16 ⟨rfl, hT18⟩
 have hS17 : St _ _ w16 [boxE g3 [i6 p3_0] 3] := hS8.take _ hT18
 refine ⟨hS17, gd_done (by kernel_rfl) (gx_thenN (hK6 _ _ ?_))⟩
 rcases b15 with _ | _
 try dsimp only at hF
 refine gx_no (by kernel_rfl) (gx_pass (gx_thenN (hK4 _ _ (gx_seq (fun K25 hK26 => gx_region (gx_k (i6 p1) w16 (gx_k (i6 p2) w16 (gx_k (i6 p1) w16 (gx_k (i6 p2) w16 (gx_nil ?_))))))))))
 refine gx_thenN (hK26 _ _ (gx_ret ?_))
 obtain rfl := sj hF
 exact gxF (.tuple #[i6 p1, i6 p2]) ⟨_, rfl, rfl, hS17⟩
 try dsimp only at hF
 refine gx_yes (by kernel_rfl) (gx_seq (fun K19 hK20 => gx_region (gx_k (vP g3) w16 (gx_k (vP g3) w16 (gx_v (i6 p3_0) w16 (rl1 (hS17.box 0 rfl 0 rfl)) (gx_k (i6 (iw (p3_0 + 1))) w16 (gx_k (vP g3) w16 (gx_s (st_store (j := 0) (v := (i6 (iw (p3_0 + 1)))) rfl (by kernel_rfl) (by kernel_rfl) rfl (fun _ => by kernel_rfl) hS17 0 rfl (by show 0 < 1; decide)) ?_))))))))
 rintro w21 hS22
 have hS22 : St _ _ w21 [boxE g3 [i6 (iw (p3_0 + 1))] 3] := hS22
 refine gx_nil (gx_thenN (hK20 _ _ (gx_seq (fun K23 hK24 => gx_region (gx_k (i6 p2) w21 (gx_k (i6 p1) w21 (gx_k (i6 p2) w21 (gx_k (i6 p1) w21 (gx_nil (gx_thenN ?_))))))))))
 refine hK24 _ _ (gx_ret (gx_thenR ?_))
 obtain rfl := sj hF
 exact gxF (.tuple #[i6 p2, i6 p1]) ⟨_, rfl, rfl, hS22⟩
def zMed (N : Nat) (p0 : List Int) (p1 : Int) (p2 : Int) (p3 : Int) (p4_0 : Int) : Option (Int × Int) :=
 ((zOrd N p0 p1 p2 p4_0).bind fun (x8, x9, x7) => ((zOrd N p0 x9 p3 x7).bind fun (x18, _x19, x17) => ((zOrd N p0 x8 x18 x17).bind fun (_x28, x29, x27) => some (x29, x27))))
def zMed_R (p0 : List Int) (p1 : Int) (p2 : Int) (p3 : Int) (p4_0 : Int) (A0 : Option Addr) (c0 : Nat) (g4 : Nat) (r : Int × Int) (w0 : World) (v : Value) (w : World) : Prop := v = .int .i64 r.1 ∧ St (foots [boxE g4 [.int .i64 p4_0] 3]) w0 w [boxE g4 [.int .i64 r.2] 3]
theorem zMed_ok (N : Nat) (p0 : List Int) (p1 : Int) (p2 : Int) (p3 : Int) (p4_0 : Int) (A0 : Option Addr) (c0 : Nat) (g4 : Nat) (r : Int × Int) (hF : zMed N p0 p1 p2 p3 p4_0 = some r) (w0 : World) (hv0 : Vw (foots [boxE g4 [.int .i64 p4_0] 3]) .u16 w0 A0 c0 p0) (hl : St (foots [boxE g4 [.int .i64 p4_0] 3]) w0 w0 [boxE g4 [.int .i64 p4_0] 3]) :
  Calls Try.prog 139 #[.slice A0 p0.length c0, .int .i64 p1, .int .i64 p2, .int .i64 p3, .pointer (some ⟨g4, 0, none⟩)] w0 fun e w => ∃ v, e = .returned v ∧ zMed_R p0 p1 p2 p3 p4_0 A0 c0 g4 r w0 v w := by
 have hS0 := hl
 unfold zMed at hF
 refine calls_of Try.func139 rfl ⟨((.slice A0 p0.length c0) :: (i6 p1) :: (i6 p2) :: (i6 p3) :: (vP g4) :: un 31 ([])).toArray, []⟩ (by kernel_rfl) (gx_seq (fun K1 hK2 => gx_region (gx_k (i6 0) w0 (gx_nil (gx_thenN (hK2 _ _ (gx_seq (fun K3 hK4 => ?_))))))))
 refine gx_region (gx_k (.slice A0 p0.length c0) w0 (gx_k (i6 p1) w0 (gx_k (i6 p2) w0 (gx_k (vP g4) w0 ?_))))
 have hP5 : St _ _ w0 ([boxE g4 [i6 p4_0] 3] ++ []) := hS0
 obtain ⟨⟨x8, x9, x7⟩, hc6, hF⟩ := bind_in hF
 try dsimp only at hF
 refine gx_c _ (zOrd_ok N p0 p1 p2 p4_0 A0 c0 g4 _ hc6 w0 (hP5.vwA hv0) hP5.part) ?_
 rintro _ w10 ⟨rfl, hT12⟩
 have hS11 : St _ _ w10 [boxE g4 [i6 x7] 3] := hP5.lendN _ hT12
 refine gx_k (.tuple #[i6 x8, i6 x9]) w10 (gx_k (i6 x8) w10 (gx_k (i6 x9) w10 (gx_k (i6 x8) w10 (gx_k (i6 x9) w10 (gx_nil (gx_thenN (hK4 _ _ (gx_seq (fun K13 hK14 => gx_region (gx_k (.slice A0 p0.length c0) w10 (gx_k (i6 x9) w10 (gx_k (i6 p3) w10 (gx_k (vP g4) w10 ?_)))))))))))))
 have hP15 : St _ _ w10 ([boxE g4 [i6 x7] 3] ++ []) := hS11
 obtain ⟨⟨x18, x19, x17⟩, hc16, hF⟩ := bind_in hF
 try dsimp only at hF
 refine gx_c _ (zOrd_ok N p0 x9 p3 x7 A0 c0 g4 _ hc16 w10 (hP15.vwA hv0) hP15.part) ?_
 rintro _ w20 ⟨rfl, hT22⟩
 have hS21 : St _ _ w20 [boxE g4 [i6 x17] 3] := hP15.lendN _ hT22
 refine gx_k (.tuple #[i6 x18, i6 x19]) w20 (gx_k (i6 x18) w20 (gx_k (i6 x19) w20 (gx_k (i6 x18) w20 (gx_k (i6 x19) w20 (gx_nil (gx_thenN (hK14 _ _ (gx_seq (fun K23 hK24 => gx_region (gx_k (.slice A0 p0.length c0) w20 (gx_k (i6 x8) w20 (gx_k (i6 x18) w20 (gx_k (vP g4) w20 ?_)))))))))))))
 have hP25 : St _ _ w20 ([boxE g4 [i6 x17] 3] ++ []) := hS21
 obtain ⟨⟨x28, x29, x27⟩, hc26, hF⟩ := bind_in hF
 try dsimp only at hF
 refine gx_c _ (zOrd_ok N p0 x8 x18 x17 A0 c0 g4 _ hc26 w20 (hP25.vwA hv0) hP25.part) ?_
 rintro _ w30 ⟨rfl, hT32⟩
 have hS31 : St _ _ w30 [boxE g4 [i6 x27] 3] := hP25.lendN _ hT32
 refine gx_k (.tuple #[i6 x28, i6 x29]) w30 (gx_k (i6 x28) w30 (gx_k (i6 x29) w30 (gx_k (i6 x28) w30 (gx_k (i6 x29) w30 (gx_nil (gx_thenN (hK24 _ _ (gx_seq (fun K33 hK34 => gx_region (gx_k (i6 x29) w30 (gx_k (i6 x29) w30 (gx_nil ?_))))))))))))
 refine gx_thenN (hK34 _ _ (gx_ret ?_))
 obtain rfl := sj hF
 exact gxF (i6 x29) ⟨_, rfl, rfl, hS31⟩
def zAdj (N : Nat) (p0 : List Int) (p1 : Int) (p2_0 : Int) : Option (Int × Int) :=
 ((zMed N p0 (IntKind.i64.wrap (p1 - 1)) p1 (IntKind.i64.wrap (p1 + 1)) p2_0).bind fun (x8, x7) => some (x8, x7))
def zAdj_R (p0 : List Int) (p1 : Int) (p2_0 : Int) (A0 : Option Addr) (c0 : Nat) (g2 : Nat) (r : Int × Int) (w0 : World) (v : Value) (w : World) : Prop := v = .int .i64 r.1 ∧ St (foots [boxE g2 [.int .i64 p2_0] 3]) w0 w [boxE g2 [.int .i64 r.2] 3]
theorem zAdj_ok (N : Nat) (p0 : List Int) (p1 : Int) (p2_0 : Int) (A0 : Option Addr) (c0 : Nat) (g2 : Nat) (r : Int × Int) (hF : zAdj N p0 p1 p2_0 = some r) (w0 : World) (hv0 : Vw (foots [boxE g2 [.int .i64 p2_0] 3]) .u16 w0 A0 c0 p0) (hl : St (foots [boxE g2 [.int .i64 p2_0] 3]) w0 w0 [boxE g2 [.int .i64 p2_0] 3]) :
  Calls Try.prog 138 #[.slice A0 p0.length c0, .int .i64 p1, .pointer (some ⟨g2, 0, none⟩)] w0 fun e w => ∃ v, e = .returned v ∧ zAdj_R p0 p1 p2_0 A0 c0 g2 r w0 v w := by
 have hS0 := hl
 unfold zAdj at hF
 refine calls_of Try.func138 rfl ⟨((.slice A0 p0.length c0) :: (i6 p1) :: (vP g2) :: un 12 ([])).toArray, []⟩ (by kernel_rfl) (gx_seq (fun K1 hK2 => gx_region (gx_k (i6 0) w0 (gx_nil (gx_thenN (hK2 _ _ (gx_seq (fun K3 hK4 => ?_))))))))
 refine gx_region (gx_k (.slice A0 p0.length c0) w0 (gx_k (i6 p1) w0 (gx_k (i6 (iw (p1 - 1))) w0 (gx_k (i6 p1) w0 (gx_k (i6 p1) w0 (gx_k (i6 (iw (p1 + 1))) w0 (gx_k (vP g2) w0 ?_)))))))
 have hP5 : St _ _ w0 ([boxE g2 [i6 p2_0] 3] ++ []) := hS0
 obtain ⟨⟨x8, x7⟩, hc6, hF⟩ := bind_in hF
 try dsimp only at hF
 refine gx_c _ (zMed_ok N p0 (iw (p1 - 1)) p1 (iw (p1 + 1)) p2_0 A0 c0 g2 _ hc6 w0 (hP5.vwA hv0) hP5.part) ?_
 rintro _ w9 ⟨rfl, hT11⟩
 have hS10 : St _ _ w9 [boxE g2 [i6 x7] 3] := hP5.lendN _ hT11
 refine gx_k (i6 x8) w9 (gx_nil (gx_thenN (hK4 _ _ (gx_ret ?_))))
 obtain rfl := sj hF
 exact gxF (i6 x8) ⟨_, rfl, rfl, hS10⟩
def zPiv (N : Nat) (p0 : List Int) (p1 : Int) (p2 : Int) : Option (Int × Int) :=
 (((if (IntKind.i64.wrap (p2 - p1)) ≥ 8 then (if (IntKind.i64.wrap (p2 - p1)) ≥ 50 then ((zAdj N p0 (IntKind.i64.wrap (p1 + (IntKind.i64.wrap ((IntKind.i64.wrap (Int.tdiv (IntKind.i64.wrap (p2 - p1)) 4)) * 1)))) (0 : Int)).bind fun (x36, x35) => ((zAdj N p0 (IntKind.i64.wrap (p1 + (IntKind.i64.wrap ((IntKind.i64.wrap (Int.tdiv (IntKind.i64.wrap (p2 - p1)) 4)) * 2)))) x35).bind fun (x45, x44) => ((zAdj N p0 (IntKind.i64.wrap (p1 + (IntKind.i64.wrap ((IntKind.i64.wrap (Int.tdiv (IntKind.i64.wrap (p2 - p1)) 4)) * 3)))) x44).bind fun (x52, x51) => ((zMed N p0 x36 x45 x52 x51).bind fun (x59, x58) => some ((x58, x59)))))) else ((zMed N p0 (IntKind.i64.wrap (p1 + (IntKind.i64.wrap ((IntKind.i64.wrap (Int.tdiv (IntKind.i64.wrap (p2 - p1)) 4)) * 1)))) (IntKind.i64.wrap (p1 + (IntKind.i64.wrap ((IntKind.i64.wrap (Int.tdiv (IntKind.i64.wrap (p2 - p1)) 4)) * 2)))) (IntKind.i64.wrap (p1 + (IntKind.i64.wrap ((IntKind.i64.wrap (Int.tdiv (IntKind.i64.wrap (p2 - p1)) 4)) * 3)))) (0 : Int)).bind fun (x66, x65) => some ((x65, x66)))) else some ((0, (IntKind.i64.wrap (p1 + (IntKind.i64.wrap ((IntKind.i64.wrap (Int.tdiv (IntKind.i64.wrap (p2 - p1)) 4)) * 2))))))) : Option (Int × Int)).bind fun (x18, x19) => (if x18 = 0 then some (x19, 1) else (if x18 = 12 then some (x19, 2) else some (x19, 0))))
def zPiv_R (r : Int × Int) (w0 : World) (v : Value) (w : World) : Prop := v = .tuple #[.int .i64 r.1, .int .i64 r.2] ∧ St [] w0 w []
theorem zPiv_ok (N : Nat) (p0 : List Int) (p1 : Int) (p2 : Int) (A0 : Option Addr) (c0 : Nat) (r : Int × Int) (hF : zPiv N p0 p1 p2 = some r) (w0 : World) (hv0 : Vw [] .u16 w0 A0 c0 p0) :
  Calls Try.prog 124 #[.slice A0 p0.length c0, .int .i64 p1, .int .i64 p2] w0 fun e w => ∃ v, e = .returned v ∧ zPiv_R r w0 v w := by
 have hS0 := St.start w0
 unfold zPiv at hF
 refine calls_of Try.func124 rfl ⟨((.slice A0 p0.length c0) :: (i6 p1) :: (i6 p2) :: un 54 ([])).toArray, []⟩ (by kernel_rfl) (gx_seq (fun K1 hK2 => gx_region (gx_k (i6 0) w0 (gx_k (i6 0) w0 (gx_nil (gx_thenN (hK2 _ _ (gx_seq (fun K3 hK4 => ?_)))))))))
 refine gx_region (gx_k (i6 p2) w0 (gx_k (i6 p1) w0 (gx_k (i6 (iw (p2 - p1))) w0 (gx_k (i6 (iw (p2 - p1))) w0 (gx_nil (gx_thenN (hK4 _ _ (gx_seq (fun K5 hK6 => gx_region (gx_r (st_boxed [i6 0] 3 hS0 (by kernel_rfl)) ?_))))))))))
 rintro _ w7 ⟨rfl, hS8⟩
 have hS8 : St _ _ w7 [boxE w0.heap.size [i6 0] 3] := hS8
 refine gx_nil (gx_thenN (hK6 _ _ (gx_seq (fun K9 hK10 => gx_region (gx_k (i6 p1) w7 (gx_k (i6 (iw (p2 - p1))) w7 (gx_k (i6 (iw (Int.tdiv (iw (p2 - p1)) 4))) w7 (gx_k (i6 (iw ((iw (Int.tdiv (iw (p2 - p1)) 4)) * 1))) w7 (gx_k (i6 (iw (p1 + (iw ((iw (Int.tdiv (iw (p2 - p1)) 4)) * 1))))) w7 (gx_k (i6 (iw (p1 + (iw ((iw (Int.tdiv (iw (p2 - p1)) 4)) * 1))))) w7 (gx_nil (gx_thenN ?_))))))))))))
 refine hK10 _ _ (gx_seq (fun K11 hK12 => gx_region (gx_k (i6 p1) w7 (gx_k (i6 (iw (p2 - p1))) w7 (gx_k (i6 (iw (Int.tdiv (iw (p2 - p1)) 4))) w7 (gx_k (i6 (iw ((iw (Int.tdiv (iw (p2 - p1)) 4)) * 2))) w7 (gx_k (i6 (iw (p1 + (iw ((iw (Int.tdiv (iw (p2 - p1)) 4)) * 2))))) w7 (gx_k (i6 (iw (p1 + (iw ((iw (Int.tdiv (iw (p2 - p1)) 4)) * 2))))) w7 (gx_nil (gx_thenN (hK12 _ _ (gx_seq (fun K13 hK14 => ?_)))))))))))))
 refine gx_region (gx_k (i6 p1) w7 (gx_k (i6 (iw (p2 - p1))) w7 (gx_k (i6 (iw (Int.tdiv (iw (p2 - p1)) 4))) w7 (gx_k (i6 (iw ((iw (Int.tdiv (iw (p2 - p1)) 4)) * 3))) w7 (gx_k (i6 (iw (p1 + (iw ((iw (Int.tdiv (iw (p2 - p1)) 4)) * 3))))) w7 (gx_k (i6 (iw (p1 + (iw ((iw (Int.tdiv (iw (p2 - p1)) 4)) * 3))))) w7 (gx_nil (gx_thenN (hK14 _ _ ?_)))))))))
 obtain ⟨c20, hE21, hO22⟩ := bind_in hF
 refine gx_cut (fun a w => ∃ (x18 : Int) (x19 : Int), selfA (fun u17 => ⟨((u17 0) :: (i6 p1) :: (i6 p2) :: un 3 ((i6 0) :: (i6 0) :: (i6 (iw (p2 - p1))) :: (vP w0.heap.size) :: (u17 10) :: (i6 x19) :: (u17 12) :: (i6 p2) :: (i6 p1) :: (i6 (iw (p2 - p1))) :: (i6 p1) :: (i6 (iw (p2 - p1))) :: (i6 (iw (Int.tdiv (iw (p2 - p1)) 4))) :: (i6 (iw ((iw (Int.tdiv (iw (p2 - p1)) 4)) * 1))) :: (i6 (iw (p1 + (iw ((iw (Int.tdiv (iw (p2 - p1)) 4)) * 1))))) :: (i6 p1) :: (i6 (iw (p2 - p1))) :: (i6 (iw (Int.tdiv (iw (p2 - p1)) 4))) :: (i6 (iw ((iw (Int.tdiv (iw (p2 - p1)) 4)) * 2))) :: (i6 (iw (p1 + (iw ((iw (Int.tdiv (iw (p2 - p1)) 4)) * 2))))) :: (i6 p1) :: (i6 (iw (p2 - p1))) :: (i6 (iw (Int.tdiv (iw (p2 - p1)) 4))) :: (i6 (iw ((iw (Int.tdiv (iw (p2 - p1)) 4)) * 3))) :: (i6 (iw (p1 + (iw ((iw (Int.tdiv (iw (p2 - p1)) 4)) * 3))))) :: dd u17 31 18 (un 8 ([])))).toArray, []⟩) a ∧ (x18, x19) = c20 ∧ St [] w0 w [boxE w0.heap.size [i6 x18] 3]) ?_ ?_
 refine gx_seq (fun K23 hK24 => gx_region (gx_k (i6 (iw (p2 - p1))) w7 ?_))
 rcases if_in hE21 with ⟨h25, hE21⟩ | ⟨h25, hE21⟩
 refine gx_v (.bool true) w7 (rbE (decide_eq_true h25)) (gx_nil (gx_thenN (hK24 _ _ (gx_yes (by kernel_rfl) (gx_seq (fun K26 hK27 => gx_seq (fun K28 hK29 => gx_region ?_)))))))
 refine gx_k (i6 (iw (p2 - p1))) w7 ?_
 rcases if_in hE21 with ⟨h30, hE21⟩ | ⟨h30, hE21⟩
 refine gx_v (.bool true) w7 (rbE (decide_eq_true h30)) (gx_nil (gx_thenN (hK29 _ _ (gx_yes (by kernel_rfl) (gx_seq (fun K31 hK32 => gx_region (gx_k (.slice A0 p0.length c0) w7 (gx_k (i6 (iw (p1 + (iw ((iw (Int.tdiv (iw (p2 - p1)) 4)) * 1))))) w7 ?_))))))))
 have hP33 : St _ _ w7 ([boxE w0.heap.size [i6 0] 3] ++ []) := hS8
 obtain ⟨⟨x36, x35⟩, hc34, hE21⟩ := bind_in hE21
 try dsimp only at hE21
 refine gx_c _ (zAdj_ok N p0 (iw (p1 + (iw ((iw (Int.tdiv (iw (p2 - p1)) 4)) * 1)))) (0 : Int) A0 c0 w0.heap.size _ hc34 w7 (hP33.vwA hv0) hP33.part) ?_
 rintro _ w37 ⟨rfl, hT39⟩
 have hS38 : St _ _ w37 [boxE w0.heap.size [i6 x35] 3] := hP33.lendN _ hT39
 refine gx_k (i6 x36) w37 (gx_nil (gx_thenN (hK32 _ _ (gx_seq (fun K40 hK41 => gx_region (gx_k (.slice A0 p0.length c0) w37 (gx_k (i6 (iw (p1 + (iw ((iw (Int.tdiv (iw (p2 - p1)) 4)) * 2))))) w37 ?_)))))))
 have hP42 : St _ _ w37 ([boxE w0.heap.size [i6 x35] 3] ++ []) := hS38
 obtain ⟨⟨x45, x44⟩, hc43, hE21⟩ := bind_in hE21
 try dsimp only at hE21
 refine gx_c _ (zAdj_ok N p0 (iw (p1 + (iw ((iw (Int.tdiv (iw (p2 - p1)) 4)) * 2)))) x35 A0 c0 w0.heap.size _ hc43 w37 (hP42.vwA hv0) hP42.part) ?_
 rintro _ w46 ⟨rfl, hT48⟩
 have hS47 : St _ _ w46 [boxE w0.heap.size [i6 x44] 3] := hP42.lendN _ hT48
 refine gx_k (i6 x45) w46 (gx_nil (gx_thenN (hK41 _ _ (gx_region (gx_k (.slice A0 p0.length c0) w46 (gx_k (i6 (iw (p1 + (iw ((iw (Int.tdiv (iw (p2 - p1)) 4)) * 3))))) w46 ?_))))))
 have hP49 : St _ _ w46 ([boxE w0.heap.size [i6 x44] 3] ++ []) := hS47
 obtain ⟨⟨x52, x51⟩, hc50, hE21⟩ := bind_in hE21
 try dsimp only at hE21
 refine gx_c _ (zAdj_ok N p0 (iw (p1 + (iw ((iw (Int.tdiv (iw (p2 - p1)) 4)) * 3)))) x44 A0 c0 w0.heap.size _ hc50 w46 (hP49.vwA hv0) hP49.part) ?_
 rintro _ w53 ⟨rfl, hT55⟩
 have hS54 : St _ _ w53 [boxE w0.heap.size [i6 x51] 3] := hP49.lendN _ hT55
 refine gx_k (i6 x52) w53 (gx_nil (gx_thenN (hK27 _ _ (gx_region (gx_k (.slice A0 p0.length c0) w53 (gx_k (i6 x36) w53 (gx_k (i6 x45) w53 (gx_k (i6 x52) w53 ?_))))))))
 have hP56 : St _ _ w53 ([boxE w0.heap.size [i6 x51] 3] ++ []) := hS54
 obtain ⟨⟨x59, x58⟩, hc57, hE21⟩ := bind_in hE21
 try dsimp only at hE21
 refine gx_c _ (zMed_ok N p0 x36 x45 x52 x51 A0 c0 w0.heap.size _ hc57 w53 (hP56.vwA hv0) hP56.part) ?_
 rintro _ w60 ⟨rfl, hT62⟩
 have hS61 : St _ _ w60 [boxE w0.heap.size [i6 x58] 3] := hP56.lendN _ hT62
 refine gx_k (i6 x59) w60 (gx_nil (gx_thenN ?_))
 exact ⟨x58, x59, selfA_i (by kernel_rfl), (sj hE21), hS61⟩
 refine gx_v (.bool false) w7 (rbE (decide_eq_false h30)) (gx_nil (gx_thenN (hK29 _ _ (gx_no (by kernel_rfl) (gx_pass (gx_thenN (hK27 _ _ ?_)))))))
 refine gx_region (gx_k (.slice A0 p0.length c0) w7 (gx_k (i6 (iw (p1 + (iw ((iw (Int.tdiv (iw (p2 - p1)) 4)) * 1))))) w7 (gx_k (i6 (iw (p1 + (iw ((iw (Int.tdiv (iw (p2 - p1)) 4)) * 2))))) w7 (gx_k (i6 (iw (p1 + (iw ((iw (Int.tdiv (iw (p2 - p1)) 4)) * 3))))) w7 ?_))))
 have hP63 : St _ _ w7 ([boxE w0.heap.size [i6 0] 3] ++ []) := hS8
 obtain ⟨⟨x66, x65⟩, hc64, hE21⟩ := bind_in hE21
 try dsimp only at hE21
 refine gx_c _ (zMed_ok N p0 (iw (p1 + (iw ((iw (Int.tdiv (iw (p2 - p1)) 4)) * 1)))) (iw (p1 + (iw ((iw (Int.tdiv (iw (p2 - p1)) 4)) * 2)))) (iw (p1 + (iw ((iw (Int.tdiv (iw (p2 - p1)) 4)) * 3)))) (0 : Int) A0 c0 w0.heap.size _ hc64 w7 (hP63.vwA hv0) hP63.part) ?_
 rintro _ w67 ⟨rfl, hT69⟩
 have hS68 : St _ _ w67 [boxE w0.heap.size [i6 x65] 3] := hP63.lendN _ hT69
 refine gx_k (i6 x66) w67 (gx_nil (gx_thenN ?_))
 exact ⟨x65, x66, selfA_i (by kernel_rfl), (sj hE21), hS68⟩
 refine gx_v (.bool false) w7 (rbE (decide_eq_false h25)) (gx_nil (gx_thenN (hK24 _ _ (gx_no (by kernel_rfl) (gx_pass (gx_thenN ?_))))))
 exact ⟨0, (iw (p1 + (iw ((iw (Int.tdiv (iw (p2 - p1)) 4)) * 2)))), selfA_i (by kernel_rfl), (sj hE21), hS8⟩
 rintro _ w15 ⟨x18, x19, hq84, rfl, hS16⟩
 obtain ⟨u17, rfl⟩ := selfA_u hq84
 try dsimp only at hO22
 refine gx_seq (fun K70 hK71 => gx_region (gx_v (i6 x18) w15 (rl1 (hS16.box 0 rfl 0 rfl)) (gx_nil (gx_thenN (hK71 _ _ (gx_block (gx_seq (fun K72 hK73 => ?_))))))))
 refine gx_region ?_
 rcases if_in hO22 with ⟨h74, hO22⟩ | ⟨h74, hO22⟩
 refine gx_v (.bool true) w15 (rbE (decide_eq_true h74)) (gx_k (.bool true) w15 (gx_nil (gx_thenN (hK73 _ _ (gx_yes (by kernel_rfl) (gx_seq (fun K75 hK76 => gx_region ?_)))))))
 refine gx_k (i6 x19) w15 (gx_k (i6 x19) w15 (gx_k (i6 1) w15 (gx_nil (gx_thenN (hK76 _ _ (gx_ret (gx_blkR ?_)))))))
 obtain rfl := sj hO22
 exact gxF (.tuple #[i6 x19, i6 1]) ⟨_, rfl, rfl, (hS16.pick [] rfl rfl)⟩
 refine gx_v (.bool false) w15 (rbE (decide_eq_false h74)) (gx_k (.bool false) w15 (gx_nil (gx_thenN (hK73 _ _ (gx_no (by kernel_rfl) (gx_seq (fun K77 hK78 => gx_region ?_)))))))
 rcases if_in hO22 with ⟨h79, hO22⟩ | ⟨h79, hO22⟩
 refine gx_v (.bool true) w15 (rbE (decide_eq_true h79)) (gx_k (.bool true) w15 (gx_nil (gx_thenN (hK78 _ _ (gx_yes (by kernel_rfl) (gx_seq (fun K80 hK81 => gx_region ?_)))))))
 refine gx_k (i6 x19) w15 (gx_k (i6 x19) w15 (gx_k (i6 2) w15 (gx_nil (gx_thenN (hK81 _ _ (gx_ret (gx_blkR ?_)))))))
 obtain rfl := sj hO22
 exact gxF (.tuple #[i6 x19, i6 2]) ⟨_, rfl, rfl, (hS16.pick [] rfl rfl)⟩
 refine gx_v (.bool false) w15 (rbE (decide_eq_false h79)) (gx_k (.bool false) w15 (gx_nil (gx_thenN (hK78 _ _ (gx_no (by kernel_rfl) (gx_seq (fun K82 hK83 => gx_region ?_)))))))
 refine gx_k (i6 x19) w15 (gx_k (i6 x19) w15 (gx_k (i6 0) w15 (gx_nil (gx_thenN (hK83 _ _ (gx_ret (gx_blkR ?_)))))))
 obtain rfl := sj hO22
 exact gxF (.tuple #[i6 x19, i6 0]) ⟨_, rfl, rfl, (hS16.pick [] rfl rfl)⟩
def zRev_L1 (N : Nat) : Nat → (List Int) → Int → Int → Option (List Int)
 | 0, _, _, _ => none
 | k12+1, l9, x10, x11 => (if x10 < x11 then ((ix l9 x11).bind fun xz3_20o6_1 => ((ix l9 x10).bind fun xz3_20o10_1 => ((ix l9 x10).bind fun _xz3_20o12_1 => ((setx l9 x10 xz3_20o6_1).bind fun lz3_20o13_3 => ((ix lz3_20o13_3 x11).bind fun _xz3_20o14_1 => ((setx lz3_20o13_3 x11 xz3_20o10_1).bind fun lz3_20o15_3 => zRev_L1 N k12 lz3_20o15_3 (IntKind.i64.wrap (x10 + 1)) (IntKind.i64.wrap (x11 - 1)))))))) else some l9)
def zRev (N : Nat) (p0 : List Int) (p1 : Int) (p2 : Int) : Option (List Int) :=
 zRev_L1 N N p0 p1 (IntKind.i64.wrap (p2 - 1))
def zRev_R (p0 : List Int) (p1 : Int) (p2 : Int) (A0 : Option Addr) (c0 : Nat) (r : List Int) (w0 : World) (v : Value) (w : World) : Prop := v = .tuple #[] ∧ St (foots [rowE .u16 31 A0 c0 p0]) w0 w [rowE .u16 31 A0 c0 r] ∧ r.length = p0.length
theorem zRev_ok (N : Nat) (p0 : List Int) (p1 : Int) (p2 : Int) (A0 : Option Addr) (c0 : Nat) (r : List Int) (hF : zRev N p0 p1 p2 = some r) (w0 : World) (hl : St (foots [rowE .u16 31 A0 c0 p0]) w0 w0 [rowE .u16 31 A0 c0 p0]) :
  Calls Try.prog 125 #[.slice A0 p0.length c0, .int .i64 p1, .int .i64 p2] w0 fun e w => ∃ v, e = .returned v ∧ zRev_R p0 p1 p2 A0 c0 r w0 v w := by
 have hS0 := hl
 unfold zRev at hF
 refine calls_of Try.func125 rfl ⟨((.slice A0 p0.length c0) :: (i6 p1) :: (i6 p2) :: un 29 ([])).toArray, []⟩ (by kernel_rfl) (gx_seq (fun K1 hK2 => gx_region (gx_k (i6 p1) w0 (gx_k (i6 p1) w0 (gx_nil (gx_thenN (hK2 _ _ (gx_seq (fun K3 hK4 => ?_)))))))))
 refine gx_region (gx_k (i6 p2) w0 (gx_k (i6 (iw (p2 - 1))) w0 (gx_k (i6 (iw (p2 - 1))) w0 (gx_nil (gx_thenN (hK4 _ _ (gx_block (gx_loop (fun k a w => ∃ (l9 : List Int) (x10 : Int) (x11 : Int), selfA (fun u7 => ⟨((.slice A0 p0.length c0) :: (i6 p1) :: (i6 p2) :: un 3 ((i6 x10) :: (i6 x11) :: (i6 p1) :: (i6 p2) :: (i6 (iw (p2 - 1))) :: dd u7 11 21 ([]))).toArray, []⟩) a ∧ zRev_L1 N k l9 x10 x11 = some r ∧ St (foots [rowE .u16 31 A0 c0 p0]) w0 w [rowE .u16 31 A0 c0 l9] ∧ p0.length = l9.length) N ?_ ?_))))))))
 exact ⟨p0, p1, (iw (p2 - 1)), selfA_i (by kernel_rfl), hF, hS0, rfl⟩
 rintro k12 _ w5 ⟨l9, x10, x11, hq29, hL13, hS6, hn8⟩
 obtain ⟨u7, rfl⟩ := selfA_u hq29
 rcases k12 with _ | k12
 cases hL13
 first | rw [zRev_L1] at hL13 | unfold zRev_L1 at hL13
 refine gx_seq (fun K14 hK15 => gx_seq (fun K16 hK17 => gx_region (gx_k (i6 x10) w5 (gx_k (i6 x11) w5 ?_))))
 rcases if_in hL13 with ⟨h18, hL13⟩ | ⟨h18, hL13⟩
 refine gx_v (.bool true) w5 (rbE (decide_eq_true h18)) (gx_nil (gx_thenN (hK17 _ _ (gx_yes (by kernel_rfl) (gx_pass (gx_thenN (hK15 _ _ ?_)))))))
 refine gx_block (gx_seq (fun K19 hK20 => gdst (fun w => St (foots [rowE .u16 31 A0 c0 p0]) w0 w []) 16 ?_))
 have hS23 := hS6.drew
 generalize w5.drew = w22 at hS23 ⊢
 obtain ⟨xz3_20o6_1, hxz3_20o6_2, hL13⟩ := bind_in hL13
 obtain ⟨xz3_20o10_1, hxz3_20o10_2, hL13⟩ := bind_in hL13
 obtain ⟨xz3_20o12_1, hxz3_20o12_2, hL13⟩ := bind_in hL13
 obtain ⟨lz3_20o13_3, hxz3_20o13_4, hL13⟩ := bind_in hL13
 obtain ⟨xz3_20o14_1, hxz3_20o14_2, hL13⟩ := bind_in hL13
 obtain ⟨lz3_20o15_3, hxz3_20o15_4, hL13⟩ := bind_in hL13
 refine gd_share (X := Unit) (fun _ => ⟨((.slice A0 p0.length c0) :: (i6 p1) :: (i6 p2) :: un 3 ((i6 x10) :: (i6 x11) :: (i6 p1) :: (i6 p2) :: (i6 (iw (p2 - 1))) :: (i6 x10) :: (i6 x11) :: (.bool true) :: (.slice A0 p0.length c0) :: (i6 x10) :: (.slice A0 p0.length c0) :: (i6 x11) :: (.slice A0 p0.length c0) :: (i6 x11) :: (pI x11 A0) :: (u6 xz3_20o6_1) :: (.slice A0 p0.length c0) :: (i6 x10) :: (pI x10 A0) :: (u6 xz3_20o10_1) :: (pI x10 A0) :: (pI x11 A0) :: dd u7 28 4 ([]))).toArray, []⟩) (fun _ w => St (foots [rowE .u16 31 A0 c0 p0]) w0 w [rowE .u16 31 A0 c0 lz3_20o15_3]) ?_ ?_
 rintro _ w24 hS25
 have hS25 : St _ _ w24 [rowE .u16 31 A0 c0 lz3_20o15_3] := hS25
 show WQ _ _ ⟨((.slice A0 p0.length c0) :: (i6 p1) :: (i6 p2) :: un 3 ((i6 x10) :: (i6 x11) :: (i6 p1) :: (i6 p2) :: (i6 (iw (p2 - 1))) :: (i6 x10) :: (i6 x11) :: (.bool true) :: (.slice A0 p0.length c0) :: (i6 x10) :: (.slice A0 p0.length c0) :: (i6 x11) :: (.slice A0 p0.length c0) :: (i6 x11) :: (pI x11 A0) :: (u6 xz3_20o6_1) :: (.slice A0 p0.length c0) :: (i6 x10) :: (pI x10 A0) :: (u6 xz3_20o10_1) :: (pI x10 A0) :: (pI x11 A0) :: dd u7 28 4 ([]))).toArray, []⟩ _
 refine gx_thenN (hK20 _ _ (gx_seq (fun K26 hK27 => gx_region (gx_k (i6 x10) w24 (gx_k (i6 (iw (x10 + 1))) w24 (gx_k (i6 (iw (x10 + 1))) w24 (gx_nil (gx_thenN (hK27 _ _ ?_)))))))))
 refine gx_region (gx_k (i6 x11) w24 (gx_k (i6 (iw (x11 - 1))) w24 (gx_k (i6 (iw (x11 - 1))) w24 (gx_nil (gx_blkN (gx_thenN ?_))))))
 exact ⟨k12, Nat.lt_succ_self k12, lz3_20o15_3, (iw (x10 + 1)), (iw (x11 - 1)), selfA_i (by kernel_rfl), hL13, hS25, ((hn8.trans (setx_len hxz3_20o13_4).symm).trans (setx_len hxz3_20o15_4).symm)⟩
 intro K28
 refine gv1 0 14 (.slice A0 p0.length c0) rfl (hS23.pick [] rfl rfl) (gv1 1 15 (i6 x10) rfl (hS23.pick [] rfl rfl) (gv1 2 16 (.slice A0 p0.length c0) rfl (hS23.pick [] rfl rfl) (gv1 3 17 (i6 x11) rfl (hS23.pick [] rfl rfl) (gv1 4 18 (.slice A0 p0.length c0) rfl (hS23.pick [] rfl rfl) (gv1 5 19 (i6 x11) rfl (hS23.pick [] rfl rfl) (gu1 6 20 (pI x11 A0) rfl (hS23.pick [] rfl rfl) (fun w hSw => riy 31 .i64 hxz3_20o6_2 hn8 (((hS23.row 0 rfl).1))) (gv1 8 22 (.slice A0 p0.length c0) rfl (hS23.pick [] rfl rfl) ?_)))))))
 refine gv1 9 23 (i6 x10) rfl (hS23.pick [] rfl rfl) (gu1 10 24 (pI x10 A0) rfl (hS23.pick [] rfl rfl) (fun w hSw => riy 31 .i64 hxz3_20o10_2 hn8 (((hS23.row 0 rfl).1))) (gd_fork2 7 11 ⟨some 21, _, _, _, _, _⟩ ⟨some 25, _, _, _, _, _⟩ rfl rfl ?_ ?_))
 refine gfR 7 ⟨some 21, _, _, _, _, _⟩ (R := fun v w => v = u6 xz3_20o6_1 ∧ w22 = w) rfl ⟨_, _, rlx (hS23.row 0 rfl).1 hxz3_20o6_2, rfl, rfl⟩ ?_
 rintro _ _ ⟨rfl, rfl⟩
 refine ⟨(hS23.pick [] rfl rfl), gdR 11 ⟨some 25, _, _, _, _, _⟩ (R := fun v w => v = u6 xz3_20o10_1 ∧ w22 = w) rfl ⟨_, _, rlx (hS23.row 0 rfl).1 hxz3_20o10_2, rfl, rfl⟩ ?_⟩
 rintro _ _ ⟨rfl, rfl⟩
 refine ⟨(hS23.pick [] rfl rfl), gu1 12 26 (pI x10 A0) rfl (hS23.pick [] rfl rfl) (fun w hSw => riy 31 .i64 hxz3_20o12_2 hn8 (((hS23.row 0 rfl).1))) (gdS 13 ⟨none, _, _, _, _, _⟩ rfl (st_storeix rfl (by kernel_rfl) (by kernel_rfl) (fun _ => by kernel_rfl) hS23 0 rfl hxz3_20o13_4) ?_)⟩
 rintro wz3_20o13_1 hSz3_20o13_2
 have hSz3_20o13_2 : St _ _ wz3_20o13_1 [rowE .u16 31 A0 c0 lz3_20o13_3] := hSz3_20o13_2
 refine ⟨(hSz3_20o13_2.pick [] rfl rfl), gu1 14 27 (pI x11 A0) rfl (hSz3_20o13_2.pick [] rfl rfl) (fun w hSw => riy 31 .i64 hxz3_20o14_2 (hn8.trans (setx_len hxz3_20o13_4).symm) (((hSz3_20o13_2.row 0 rfl).1))) (gdSz 15 ⟨none, _, _, _, _, _⟩ rfl (st_storeix rfl (by kernel_rfl) (by kernel_rfl) (fun _ => by kernel_rfl) hSz3_20o13_2 0 rfl hxz3_20o15_4) ?_)⟩
 rintro wz3_20o15_1 hSz3_20o15_2
 have hSz3_20o15_2 : St _ _ wz3_20o15_1 [rowE .u16 31 A0 c0 lz3_20o15_3] := hSz3_20o15_2
 exact gd_meet (by kernel_rfl) (by kernel_rfl) (K28 () _ hSz3_20o15_2)
 refine gfR 11 ⟨some 25, _, _, _, _, _⟩ (R := fun v w => v = u6 xz3_20o10_1 ∧ w22 = w) rfl ⟨_, _, rlx (hS23.row 0 rfl).1 hxz3_20o10_2, rfl, rfl⟩ ?_
 rintro _ _ ⟨rfl, rfl⟩
 refine ⟨(hS23.pick [] rfl rfl), gdR 7 ⟨some 21, _, _, _, _, _⟩ (R := fun v w => v = u6 xz3_20o6_1 ∧ w22 = w) rfl ⟨_, _, rlx (hS23.row 0 rfl).1 hxz3_20o6_2, rfl, rfl⟩ ?_⟩
 rintro _ _ ⟨rfl, rfl⟩
 refine ⟨(hS23.pick [] rfl rfl), gu1 12 26 (pI x10 A0) rfl (hS23.pick [] rfl rfl) (fun w hSw => riy 31 .i64 hxz3_20o12_2 hn8 (((hS23.row 0 rfl).1))) (gdS 13 ⟨none, _, _, _, _, _⟩ rfl (st_storeix rfl (by kernel_rfl) (by kernel_rfl) (fun _ => by kernel_rfl) hS23 0 rfl hxz3_20o13_4) ?_)⟩
 rintro wz3_20o13_1 hSz3_20o13_2
 have hSz3_20o13_2 : St _ _ wz3_20o13_1 [rowE .u16 31 A0 c0 lz3_20o13_3] := hSz3_20o13_2
 refine ⟨(hSz3_20o13_2.pick [] rfl rfl), gu1 14 27 (pI x11 A0) rfl (hSz3_20o13_2.pick [] rfl rfl) (fun w hSw => riy 31 .i64 hxz3_20o14_2 (hn8.trans (setx_len hxz3_20o13_4).symm) (((hSz3_20o13_2.row 0 rfl).1))) (gdSz 15 ⟨none, _, _, _, _, _⟩ rfl (st_storeix rfl (by kernel_rfl) (by kernel_rfl) (fun _ => by kernel_rfl) hSz3_20o13_2 0 rfl hxz3_20o15_4) ?_)⟩
 rintro wz3_20o15_1 hSz3_20o15_2
 have hSz3_20o15_2 : St _ _ wz3_20o15_1 [rowE .u16 31 A0 c0 lz3_20o15_3] := hSz3_20o15_2
 exact gd_meet (by kernel_rfl) (by kernel_rfl) (K28 () _ hSz3_20o15_2)
 refine gx_v (.bool false) w5 (rbE (decide_eq_false h18)) (gx_nil (gx_thenN (hK17 _ _ (gx_no (by kernel_rfl) (gx_exit (gx_thenE (gx_thenE ?_)))))))
 refine gx_blkE ?_
 obtain rfl := sj hL13
 exact gx_finN (.tuple #[]) (by kernel_rfl) (by kernel_rfl) ⟨_, rfl, rfl, hS6, (hn8).symm⟩
end Go.Proofs.Ytgjlpiljacecpaa

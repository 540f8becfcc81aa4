/-
  The program, walked.
-/
import Derived.Test.YtdbimchiecdkoaaP3
namespace Go.Proofs.Ytdbimchiecdkoaa
open Go Go.RowKit
set_option linter.unusedVariables false
def pBreaks_L1 (N : Nat) (p0 : List Int) (l23 : List Int) : Nat → Int → Int → Int → Int → Int → Int → Int → Bool → Bool → Bool → (List Int) → Option (List Int)
 | 0, _, _, _, _, _, _, _, _, _, _, _ => none
 | k54+1, x42, x43, x44, x45, x46, x47, x48, b49, b50, b51, l53 => (if x44 < ((p0.length : Nat) : Int) then ((pTold N p0 l23 x42 x43 x44 x45 x46 x47 x48 b49 b50 b51).bind fun x67 => ((ix l53 x44).bind fun _x71 => ((setx l53 x44 x67).bind fun l75 => ((pGoOn N p0 l23 x42 x43 x44 x45 x46 x47 x48 b49 b50 b51).bind fun (x79, x80, x81, x82, x83, x84, x85, b86, b87, b88) => pBreaks_L1 N p0 l23 k54 x79 x80 x81 x82 x83 x84 x85 b86 b87 b88 l75)))) else some (l53))
def pBreaks (N : Nat) (p0 : List Int) : Option (List Int) :=
 ((mkx (IntKind.i64.wrap (((p0.length : Nat) : Int) + 1))).bind fun lz1_4o3_1 => ((pRules N ).bind fun () => ((((pFirst N p0).bind fun (l23, x26, x27, x28, x29, x30, x31, x32, b33, b34, b35) => pBreaks_L1 N p0 l23 N x26 x27 x28 x29 x30 x31 x32 b33 b34 b35 lz1_4o3_1) : Option (List Int)).bind fun l14 => ((ix l14 ((p0.length : Nat) : Int)).bind fun _x95 => ((setx l14 ((p0.length : Nat) : Int) 2).bind fun l99 => some l99)))))
set_option linter.unusedVariables false in
def pBreaks_R (r : List Int) (w0 : World) (v : Value) (w : World) : Prop := ∃ (A0' : Option Addr) (c0' : Nat), v = .slice A0' r.length c0' ∧ St [] w0 w [rowE .u8 5 A0' c0' r]
set_option maxRecDepth 100000 in
set_option maxHeartbeats 4000000 in
theorem pBreaks_ok (N : Nat) (p0 : List Int) (A0 : Option Addr) (c0 : Nat) (r : List Int) (hF : pBreaks N p0 = some r) (w0 : World) (hv0 : Vw [] .i32 w0 A0 c0 p0) :
  Calls Try.prog 10 #[.slice A0 p0.length c0] w0 fun e w => ∃ v, e = .returned v ∧ pBreaks_R r w0 v w := by
 have hS0 := St.start w0
 unfold pBreaks at hF
 refine calls_of Try.func10 rfl ⟨((.slice A0 p0.length c0) :: un 34 ([])).toArray, []⟩ (by kernel_rfl) ?_
 refine gx_seq (fun K1 hK2 => ?_)
 refine gx_region ?_
 refine gx_k (.slice none 0 0) w0 ?_
 refine gx_nil ?_
 refine gx_thenN ?_
 refine hK2 _ _ ?_
 refine gx_seq (fun K3 hK4 => ?_)
 refine gd_start (fun w => St [] w0 w []) 8 #[false, false, false, false, false, false, false, false] (by kernel_rfl) (by kernel_rfl) ?_
 have hS7 := hS0.drew
 generalize w0.drew = w6 at hS7 ⊢
 obtain ⟨lz1_4o3_1, hmz1_4o3_2, hF⟩ := bind_in hF
 obtain ⟨_, hcz1_4o4_2, hF⟩ := bind_in hF
 try dsimp only at hF
 refine gd_share (X := (Option Addr) × Nat × Nat) (fun ⟨Az1_4o3_5, cz1_4o3_6, gz1_4B0⟩ => ⟨((.slice A0 p0.length c0) :: undef :: (.slice none 0 0) :: (.slice Az1_4o3_5 lz1_4o3_1.length cz1_4o3_6) :: (.pointer (some ⟨gz1_4B0, 0, none⟩)) :: undef :: (.slice A0 p0.length c0) :: (.int .i64 ((p0.length : Nat) : Int)) :: (.int .i64 (IntKind.i64.wrap (((p0.length : Nat) : Int) + 1))) :: (.slice Az1_4o3_5 lz1_4o3_1.length cz1_4o3_6) :: (.agg rulC.toArray) :: un 24 ([])).toArray, []⟩) (fun ⟨Az1_4o3_5, cz1_4o3_6, gz1_4B0⟩ w => St [] w0 w [rowE .u8 5 Az1_4o3_5 cz1_4o3_6 lz1_4o3_1, boxE gz1_4B0 rulC 42]) ?_ ?_
 ·rintro ⟨Az1_4o3_5, cz1_4o3_6, gz1_4B0⟩ w8 hS9
  have hS9 : St _ _ w8 [rowE .u8 5 Az1_4o3_5 cz1_4o3_6 lz1_4o3_1, boxE gz1_4B0 rulC 42] := hS9
  show WQ _ _ ⟨((.slice A0 p0.length c0) :: undef :: (.slice none 0 0) :: (.slice Az1_4o3_5 lz1_4o3_1.length cz1_4o3_6) :: (.pointer (some ⟨gz1_4B0, 0, none⟩)) :: undef :: (.slice A0 p0.length c0) :: (.int .i64 ((p0.length : Nat) : Int)) :: (.int .i64 (IntKind.i64.wrap (((p0.length : Nat) : Int) + 1))) :: (.slice Az1_4o3_5 lz1_4o3_1.length cz1_4o3_6) :: (.agg rulC.toArray) :: un 24 ([])).toArray, []⟩ _
  refine gx_thenN ?_
  refine hK4 _ _ ?_
  obtain ⟨c15, hE16, hO17⟩ := bind_in hF
  refine gx_cut (fun a w => ∃ (l14 : List Int), selfA (fun u12 => ⟨((.slice A0 p0.length c0) :: undef :: (.slice none 0 0) :: (.slice Az1_4o3_5 lz1_4o3_1.length cz1_4o3_6) :: (.pointer (some ⟨gz1_4B0, 0, none⟩)) :: dd u12 5 2 ((.int .i64 ((p0.length : Nat) : Int)) :: (.int .i64 (IntKind.i64.wrap (((p0.length : Nat) : Int) + 1))) :: dd u12 9 21 (un 5 ([])))).toArray, []⟩) a ∧ l14 = c15 ∧ St [] w0 w [boxE gz1_4B0 rulC 42, rowE .u8 5 Az1_4o3_5 cz1_4o3_6 l14] ∧ lz1_4o3_1.length = l14.length) ?_ ?_
  ·refine gx_seq (fun K18 hK19 => ?_)
   refine gx_region ?_
   refine gx_k (.slice A0 p0.length c0) w8 ?_
   have hP20 : St _ _ w8 ([] ++ [rowE .u8 5 Az1_4o3_5 cz1_4o3_6 lz1_4o3_1, boxE gz1_4B0 rulC 42]) := hS9
   obtain ⟨⟨l23, x26, x27, x28, x29, x30, x31, x32, b33, b34, b35⟩, hc21, hE16⟩ := bind_in hE16
   try dsimp only at hE16
   refine gx_c (pFirst_R p0 A0 c0 (l23, x26, x27, x28, x29, x30, x31, x32, b33, b34, b35) w8) (pFirst_ok N p0 A0 c0 _ hc21 w8 (hP20.vwA hv0)) ?_
   rintro _ w36 ⟨g22, A24, c25, rfl, hT38⟩
   have hS37 : St _ _ w36 [rowE .u8 5 Az1_4o3_5 cz1_4o3_6 lz1_4o3_1, boxE gz1_4B0 rulC 42, boxE g22 [.slice A0 p0.length c0, .slice A24 l23.length c25, .int .i64 x26, .int .i64 x27, .int .i64 x28, .int .i64 x29, .int .i64 x30, .int .i64 x31, .int .i64 x32, .bool b33, .bool b34, .bool b35] 49, rowE .u8 5 A24 c25 l23] := hS9.take _ hT38
   refine gx_k (.pointer (some ⟨g22, 0, none⟩)) w36 ?_
   refine gx_nil ?_
   refine gx_thenN ?_
   refine hK19 _ _ ?_
   refine gx_block ?_
   refine gx_loop (fun k a w => ∃ (x42 : Int) (x43 : Int) (x44 : Int) (x45 : Int) (x46 : Int) (x47 : Int) (x48 : Int) (b49 : Bool) (b50 : Bool) (b51 : Bool) (l53 : List Int), selfA (fun u41 => ⟨((.slice A0 p0.length c0) :: undef :: (.slice none 0 0) :: (.slice Az1_4o3_5 lz1_4o3_1.length cz1_4o3_6) :: (.pointer (some ⟨gz1_4B0, 0, none⟩)) :: (.pointer (some ⟨g22, 0, none⟩)) :: (u41 6) :: (.int .i64 ((p0.length : Nat) : Int)) :: (.int .i64 (IntKind.i64.wrap (((p0.length : Nat) : Int) + 1))) :: dd u41 9 3 ((.pointer (some ⟨g22, 0, none⟩)) :: dd u41 13 17 (un 5 ([])))).toArray, []⟩) a ∧ pBreaks_L1 N p0 l23 k x42 x43 x44 x45 x46 x47 x48 b49 b50 b51 l53 = some c15 ∧ St [] w0 w [boxE gz1_4B0 rulC 42, rowE .u8 5 A24 c25 l23, boxE g22 [.slice A0 p0.length c0, .slice A24 l23.length c25, .int .i64 x42, .int .i64 x43, .int .i64 x44, .int .i64 x45, .int .i64 x46, .int .i64 x47, .int .i64 x48, .bool b49, .bool b50, .bool b51] 49, rowE .u8 5 Az1_4o3_5 cz1_4o3_6 l53] ∧ lz1_4o3_1.length = l53.length) N ?_ ?_
   ·exact ⟨x26, x27, x28, x29, x30, x31, x32, b33, b34, b35, lz1_4o3_1, selfA_i (by kernel_rfl), hE16, (hS37.pick [1, 3, 2, 0] rfl rfl), rfl⟩
   ·rintro k54 _ w39 ⟨x42, x43, x44, x45, x46, x47, x48, b49, b50, b51, l53, hq92, hL55, hS40, hn52⟩
    obtain ⟨u41, rfl⟩ := selfA_u hq92
    cases k54 with
    | zero => cases hL55
    | succ k54 =>
     first | rw [pBreaks_L1] at hL55 | unfold pBreaks_L1 at hL55
     refine gx_seq (fun K56 hK57 => ?_)
     refine gx_seq (fun K58 hK59 => ?_)
     refine gx_region ?_
     refine gx_k (.pointer (some ⟨g22, 0, none⟩)) w39 (gx_k (.pointer (some ⟨g22, 0, none⟩)) w39 (gx_k (.pointer (some ⟨g22, 4, none⟩)) w39 ?_))
     refine gx_v (.int .i64 x44) w39 (run_load1 rfl (by kernel_rfl) (fun _ => by kernel_rfl) (hS40.box 2 rfl 4 rfl)) ?_
     refine gx_k (.slice A0 p0.length c0) w39 (gx_k (.int .i64 ((p0.length : Nat) : Int)) w39 ?_)
     rcases if_in hL55 with ⟨h60, hL55⟩ | ⟨h60, hL55⟩
     ·refine gx_v (.bool true) w39 (run_boolE (decide_eq_true h60) (by kernel_rfl)) ?_
      refine gx_nil ?_
      refine gx_thenN ?_
      refine hK59 _ _ ?_
      refine gx_yes (by kernel_rfl) ?_
      refine gx_pass ?_
      refine gx_thenN ?_
      refine hK57 _ _ ?_
      refine gx_seq (fun K61 hK62 => ?_)
      refine gx_block ?_
      refine gd_start (fun w => St [] w0 w [boxE gz1_4B0 rulC 42, rowE .u8 5 A24 c25 l23, boxE g22 [.slice A0 p0.length c0, .slice A24 l23.length c25, .int .i64 x42, .int .i64 x43, .int .i64 x44, .int .i64 x45, .int .i64 x46, .int .i64 x47, .int .i64 x48, .bool b49, .bool b50, .bool b51] 49, rowE .u8 5 Az1_4o3_5 cz1_4o3_6 l53]) 9 #[false, false, false, false, false, false, false, false, false] (by kernel_rfl) (by kernel_rfl) ?_
      have hS64 := hS40.drew
      generalize w39.drew = w63 at hS64 ⊢
      refine gv1 0 22 (.slice Az1_4o3_5 lz1_4o3_1.length cz1_4o3_6) rfl hS64 ?_
      refine gv1 1 23 (.pointer (some ⟨g22, 0, none⟩)) rfl hS64 ?_
      refine gv1 2 24 (.pointer (some ⟨g22, 0, none⟩)) rfl hS64 ?_
      refine gv1 3 25 (.pointer (some ⟨g22, 4, none⟩)) rfl hS64 ?_
      refine gu1 4 26 (.int .i64 x44) rfl hS64 (fun w hSw => run_load1 rfl (by kernel_rfl) (fun _ => by kernel_rfl) (hSw.box 2 rfl 4 rfl)) ?_
      refine gv1 5 27 (.pointer (some ⟨g22, 0, none⟩)) rfl hS64 ?_
      have hP65 : St _ _ w63 ([boxE g22 [.slice A0 p0.length c0, .slice A24 l23.length c25, .int .i64 x42, .int .i64 x43, .int .i64 x44, .int .i64 x45, .int .i64 x46, .int .i64 x47, .int .i64 x48, .bool b49, .bool b50, .bool b51] 49, boxE gz1_4B0 rulC 42] ++ [rowE .u8 5 A24 c25 l23, rowE .u8 5 Az1_4o3_5 cz1_4o3_6 l53]) := hS64.pick [2, 0, 1, 3] rfl rfl
      obtain ⟨x67, hc66, hL55⟩ := bind_in hL55
      try dsimp only at hL55
      refine gdC 6 { dst := some 28, op := _, type := _, pos := _, after := _, guard := _ } (pTold_R p0 l23 x42 x43 x44 x45 x46 x47 x48 b49 b50 b51 g22 A0 c0 A24 c25 gz1_4B0 x67 w63) rfl (by kernel_rfl) (pTold_ok N p0 l23 x42 x43 x44 x45 x46 x47 x48 b49 b50 b51 g22 A0 c0 A24 c25 gz1_4B0 _ hc66 w63 (hP65.vwA hv0) (hP65.vwB 0 rfl) hP65.part) ?_
      rintro _ w68 ⟨rfl, hT70⟩
      have hS69 : St _ _ w68 [rowE .u8 5 A24 c25 l23, rowE .u8 5 Az1_4o3_5 cz1_4o3_6 l53, boxE g22 [.slice A0 p0.length c0, .slice A24 l23.length c25, .int .i64 x42, .int .i64 x43, .int .i64 x44, .int .i64 x45, .int .i64 x46, .int .i64 x47, .int .i64 x48, .bool b49, .bool b50, .bool b51] 49, boxE gz1_4B0 rulC 42] := hP65.lendN _ hT70
      refine ⟨(hS69.pick [3, 0, 2, 1] rfl rfl), ?_⟩
      obtain ⟨x71, hx72, hL55⟩ := bind_in hL55
      refine gu1 7 29 (.pointer (Option.map (fun (p : Addr) => p.add (Int.toNat x44 * 1)) Az1_4o3_5)) rfl (hS69.pick [3, 0, 2, 1] rfl rfl) (fun w hSw => run_ixaddr (E := 5) (s := 1) (k := .i64) (c := cz1_4o3_6) rfl (by kernel_rfl) (by kernel_rfl) (by kernel_rfl) (fun _ => by kernel_rfl) (ix_in hx72).1 (lt_len hn52 (ix_in hx72).2.1) (nil_len hn52 (num_nil (hS69.row 1 rfl).1))) ?_
      obtain ⟨l75, hx76, hL55⟩ := bind_in hL55
      refine gdSz 8 { dst := none, op := _, type := _, pos := _, after := _, guard := _ } rfl (st_storeix rfl (by kernel_rfl) (by kernel_rfl) (fun _ => by kernel_rfl) hS69 1 rfl hx76) ?_
      rintro w73 hS74
      have hS74 : St _ _ w73 [rowE .u8 5 A24 c25 l23, rowE .u8 5 Az1_4o3_5 cz1_4o3_6 l75, boxE g22 [.slice A0 p0.length c0, .slice A24 l23.length c25, .int .i64 x42, .int .i64 x43, .int .i64 x44, .int .i64 x45, .int .i64 x46, .int .i64 x47, .int .i64 x48, .bool b49, .bool b50, .bool b51] 49, boxE gz1_4B0 rulC 42] := hS74
      refine gd_done (by kernel_rfl) ?_
      refine gx_blkN ?_
      refine gx_thenN ?_
      refine hK62 _ _ ?_
      refine gx_region ?_
      refine gx_k (.pointer (some ⟨g22, 0, none⟩)) w73 ?_
      have hP77 : St _ _ w73 ([boxE g22 [.slice A0 p0.length c0, .slice A24 l23.length c25, .int .i64 x42, .int .i64 x43, .int .i64 x44, .int .i64 x45, .int .i64 x46, .int .i64 x47, .int .i64 x48, .bool b49, .bool b50, .bool b51] 49] ++ [rowE .u8 5 A24 c25 l23, rowE .u8 5 Az1_4o3_5 cz1_4o3_6 l75, boxE gz1_4B0 rulC 42]) := hS74.pick [2, 0, 1, 3] rfl rfl
      obtain ⟨⟨x79, x80, x81, x82, x83, x84, x85, b86, b87, b88⟩, hc78, hL55⟩ := bind_in hL55
      try dsimp only at hL55
      refine gx_c (pGoOn_R p0 l23 x42 x43 x44 x45 x46 x47 x48 b49 b50 b51 g22 A0 c0 A24 c25 (x79, x80, x81, x82, x83, x84, x85, b86, b87, b88) w73) (pGoOn_ok N p0 l23 x42 x43 x44 x45 x46 x47 x48 b49 b50 b51 g22 A0 c0 A24 c25 _ hc78 w73 (hP77.vwA hv0) (hP77.vwB 0 rfl) hP77.part) ?_
      rintro _ w89 ⟨rfl, hT91⟩
      have hS90 : St _ _ w89 [rowE .u8 5 A24 c25 l23, rowE .u8 5 Az1_4o3_5 cz1_4o3_6 l75, boxE gz1_4B0 rulC 42, boxE g22 [.slice A0 p0.length c0, .slice A24 l23.length c25, .int .i64 x79, .int .i64 x80, .int .i64 x81, .int .i64 x82, .int .i64 x83, .int .i64 x84, .int .i64 x85, .bool b86, .bool b87, .bool b88] 49] := hP77.lendN _ hT91
      refine gx_nil ?_
      refine gx_thenN ?_
      exact ⟨k54, Nat.lt_succ_self k54, x79, x80, x81, x82, x83, x84, x85, b86, b87, b88, l75, selfA_i (by kernel_rfl), hL55, (hS90.pick [2, 0, 3, 1] rfl rfl), (hn52.trans (setx_len hx76).symm)⟩
     ·refine gx_v (.bool false) w39 (run_boolE (decide_eq_false h60) (by kernel_rfl)) ?_
      refine gx_nil ?_
      refine gx_thenN ?_
      refine hK59 _ _ ?_
      refine gx_no (by kernel_rfl) ?_
      refine gx_exit ?_
      refine gx_thenE ?_
      refine gx_thenE ?_
      refine gx_blkE ?_
      refine gx_thenN ?_
      exact ⟨l53, selfA_i (by kernel_rfl), (Option.some.inj hL55), (hS40.pick [0, 3] rfl rfl), hn52⟩
  ·rintro _ w10 ⟨l14, hq103, rfl, hS11, hn13⟩
   obtain ⟨u12, rfl⟩ := selfA_u hq103
   try dsimp only at hO17
   refine gx_seq (fun K93 hK94 => ?_)
   refine gx_region ?_
   refine gx_k (.slice Az1_4o3_5 lz1_4o3_1.length cz1_4o3_6) w10 (gx_k (.slice A0 p0.length c0) w10 (gx_k (.int .i64 ((p0.length : Nat) : Int)) w10 ?_))
   obtain ⟨x95, hx96, hO17⟩ := bind_in hO17
   refine gx_v (.pointer (Option.map (fun (p : Addr) => p.add (Int.toNat ((p0.length : Nat) : Int) * 1)) Az1_4o3_5)) w10 (run_ixaddr (E := 5) (s := 1) (k := .i64) (c := cz1_4o3_6) rfl (by kernel_rfl) (by kernel_rfl) (by kernel_rfl) (fun _ => by kernel_rfl) (ix_in hx96).1 (lt_len hn13 (ix_in hx96).2.1) (nil_len hn13 (num_nil (hS11.row 1 rfl).1))) ?_
   obtain ⟨l99, hx100, hO17⟩ := bind_in hO17
   refine gx_s (st_storeix rfl (by kernel_rfl) (by kernel_rfl) (fun _ => by kernel_rfl) hS11 1 rfl hx100) ?_
   rintro w97 hS98
   have hS98 : St _ _ w97 [boxE gz1_4B0 rulC 42, rowE .u8 5 Az1_4o3_5 cz1_4o3_6 l99] := hS98
   refine gx_nil ?_
   refine gx_thenN ?_
   refine hK94 _ _ ?_
   refine gx_seq (fun K101 hK102 => ?_)
   refine gx_region ?_
   refine gx_k (.slice Az1_4o3_5 lz1_4o3_1.length cz1_4o3_6) w97 (gx_k (.slice Az1_4o3_5 lz1_4o3_1.length cz1_4o3_6) w97 ?_)
   refine gx_nil ?_
   refine gx_thenN ?_
   refine hK102 _ _ ?_
   refine gx_ret ?_
   obtain rfl := Option.some.inj hO17
   exact gx_fin (.slice Az1_4o3_5 lz1_4o3_1.length cz1_4o3_6) (by kernel_rfl) (by kernel_rfl) ⟨_, rfl, Az1_4o3_5, cz1_4o3_6, by rw [← (hn13.trans (setx_len hx100).symm)] <;> kernel_rfl, (hS98.pick [1] rfl rfl)⟩
 ·intro K104
  refine gv1 0 6 (.slice A0 p0.length c0) rfl hS7 ?_
  refine gv1 1 7 (.int .i64 ((p0.length : Nat) : Int)) rfl hS7 ?_
  refine gv1 2 8 (.int .i64 (IntKind.i64.wrap (((p0.length : Nat) : Int) + 1))) rfl hS7 ?_
  refine gd_fork3 3 4 5 { dst := some 9, op := _, type := _, pos := _, after := _, guard := _ } { dst := some 10, op := _, type := _, pos := _, after := _, guard := _ } { dst := some 4, op := _, type := _, pos := _, after := _, guard := _ } rfl rfl rfl ?_ ?_ ?_
  ·skip
   refine gfR 3 { dst := some 9, op := _, type := _, pos := _, after := _, guard := _ } rfl (st_make (T := 5) (k := .u8) (by_ := 1) rfl (by kernel_rfl) (by kernel_rfl) (by kernel_rfl) (by kernel_rfl) (by kernel_rfl) hS7 hmz1_4o3_2) ?_
   rintro _ wz1_4o3_3 ⟨Az1_4o3_5, cz1_4o3_6, rfl, hSz1_4o3_4⟩
   have hSz1_4o3_4 : St _ _ wz1_4o3_3 [rowE .u8 5 Az1_4o3_5 cz1_4o3_6 lz1_4o3_1] := hSz1_4o3_4
   refine ⟨(hSz1_4o3_4.pick [] rfl rfl), ?_⟩
   refine gd_fork2 4 5 { dst := some 10, op := _, type := _, pos := _, after := _, guard := _ } { dst := some 4, op := _, type := _, pos := _, after := _, guard := _ } rfl rfl ?_ ?_
   ·have hPz1_4o4_1 : St _ _ wz1_4o3_3 ([] ++ [rowE .u8 5 Az1_4o3_5 cz1_4o3_6 lz1_4o3_1]) := hSz1_4o3_4
    refine gfC 4 { dst := some 10, op := _, type := _, pos := _, after := _, guard := _ } (pRules_R () wz1_4o3_3) rfl (by kernel_rfl) (pRules_ok N  _ hcz1_4o4_2 wz1_4o3_3 ) ?_
    rintro _ wz1_4o4_3 ⟨rfl, hTz1_4o4_5⟩
    have hSz1_4o4_4 : St _ _ wz1_4o4_3 [rowE .u8 5 Az1_4o3_5 cz1_4o3_6 lz1_4o3_1] := hSz1_4o3_4.take _ hTz1_4o4_5
    refine ⟨(hSz1_4o4_4.pick [] rfl rfl), ?_⟩
    refine gdR 5 { dst := some 4, op := _, type := _, pos := _, after := _, guard := _ } rfl (st_boxed [Value.nilFunc, Value.nilFunc, Value.nilFunc, Value.nilFunc, Value.nilFunc, Value.nilFunc, Value.nilFunc, Value.nilFunc, Value.nilFunc, Value.nilFunc, Value.nilFunc, Value.nilFunc, Value.nilFunc, Value.nilFunc, Value.nilFunc, Value.nilFunc, Value.nilFunc, Value.nilFunc, Value.nilFunc, Value.nilFunc, Value.nilFunc, Value.nilFunc, Value.nilFunc, Value.nilFunc, Value.nilFunc, Value.nilFunc, Value.nilFunc, Value.nilFunc, Value.nilFunc, Value.nilFunc, Value.nilFunc, Value.nilFunc, Value.nilFunc, Value.nilFunc, Value.nilFunc, Value.nilFunc, Value.nilFunc, Value.nilFunc, Value.nilFunc, Value.nilFunc, Value.nilFunc, Value.nilFunc, Value.nilFunc] 42 hSz1_4o4_4 (by kernel_rfl)) ?_
    rintro _ wz1_4o5_1 ⟨rfl, hSz1_4o5_2⟩
    have hSz1_4o5_2 : St _ _ wz1_4o5_1 [rowE .u8 5 Az1_4o3_5 cz1_4o3_6 lz1_4o3_1, boxE wz1_4o4_3.heap.size [Value.nilFunc, Value.nilFunc, Value.nilFunc, Value.nilFunc, Value.nilFunc, Value.nilFunc, Value.nilFunc, Value.nilFunc, Value.nilFunc, Value.nilFunc, Value.nilFunc, Value.nilFunc, Value.nilFunc, Value.nilFunc, Value.nilFunc, Value.nilFunc, Value.nilFunc, Value.nilFunc, Value.nilFunc, Value.nilFunc, Value.nilFunc, Value.nilFunc, Value.nilFunc, Value.nilFunc, Value.nilFunc, Value.nilFunc, Value.nilFunc, Value.nilFunc, Value.nilFunc, Value.nilFunc, Value.nilFunc, Value.nilFunc, Value.nilFunc, Value.nilFunc, Value.nilFunc, Value.nilFunc, Value.nilFunc, Value.nilFunc, Value.nilFunc, Value.nilFunc, Value.nilFunc, Value.nilFunc, Value.nilFunc] 42] := hSz1_4o5_2
    refine ⟨(hSz1_4o5_2.pick [] rfl rfl), ?_⟩
    refine gv1 6 3 (.slice Az1_4o3_5 lz1_4o3_1.length cz1_4o3_6) rfl (hSz1_4o5_2.pick [] rfl rfl) ?_
    refine gdSz 7 { dst := none, op := _, type := _, pos := _, after := _, guard := _ } rfl (st_storeG (cs := [Value.nilFunc, Value.nilFunc, Value.nilFunc, Value.nilFunc, Value.nilFunc, Value.nilFunc, Value.nilFunc, Value.nilFunc, Value.nilFunc, Value.nilFunc, Value.nilFunc, Value.nilFunc, Value.nilFunc, Value.nilFunc, Value.nilFunc, Value.nilFunc, Value.nilFunc, Value.nilFunc, Value.nilFunc, Value.nilFunc, Value.nilFunc, Value.nilFunc, Value.nilFunc, Value.nilFunc, Value.nilFunc, Value.nilFunc, Value.nilFunc, Value.nilFunc, Value.nilFunc, Value.nilFunc, Value.nilFunc, Value.nilFunc, Value.nilFunc, Value.nilFunc, Value.nilFunc, Value.nilFunc, Value.nilFunc, Value.nilFunc, Value.nilFunc, Value.nilFunc, Value.nilFunc, Value.nilFunc, Value.nilFunc]) (ds := [.func (.func 36) #[] #[], .func (.func 37) #[] #[], .func (.func 38) #[] #[], .func (.func 39) #[] #[], .func (.func 40) #[] #[], .func (.func 41) #[] #[], .func (.func 42) #[] #[], .func (.func 43) #[] #[], .func (.func 44) #[] #[], .func (.func 45) #[] #[], .func (.func 46) #[] #[], .func (.func 47) #[] #[], .func (.func 48) #[] #[], .func (.func 49) #[] #[], .func (.func 50) #[] #[], .func (.func 51) #[] #[], .func (.func 52) #[] #[], .func (.func 53) #[] #[], .func (.func 54) #[] #[], .func (.func 55) #[] #[], .func (.func 56) #[] #[], .func (.func 57) #[] #[], .func (.func 58) #[] #[], .func (.func 59) #[] #[], .func (.func 60) #[] #[], .func (.func 61) #[] #[], .func (.func 62) #[] #[], .func (.func 63) #[] #[], .func (.func 64) #[] #[], .func (.func 65) #[] #[], .func (.func 66) #[] #[], .func (.func 67) #[] #[], .func (.func 68) #[] #[], .func (.func 69) #[] #[], .func (.func 70) #[] #[], .func (.func 71) #[] #[], .func (.func 72) #[] #[], .func (.func 73) #[] #[], .func (.func 74) #[] #[], .func (.func 75) #[] #[], .func (.func 76) #[] #[], .func (.func 77) #[] #[], .func (.func 78) #[] #[]]) rfl (by kernel_rfl) (by kernel_rfl) (by kernel_rfl) rfl rfl hSz1_4o5_2 1 rfl) ?_
    rintro wz1_4o7_1 hSz1_4o7_2
    have hSz1_4o7_2 : St _ _ wz1_4o7_1 [rowE .u8 5 Az1_4o3_5 cz1_4o3_6 lz1_4o3_1, boxE wz1_4o4_3.heap.size rulC 42] := hSz1_4o7_2
    exact gd_meet (by kernel_rfl) (by kernel_rfl) (K104 (Az1_4o3_5, cz1_4o3_6, wz1_4o4_3.heap.size) _ hSz1_4o7_2)
   ·refine gfR 5 { dst := some 4, op := _, type := _, pos := _, after := _, guard := _ } rfl (st_boxed [Value.nilFunc, Value.nilFunc, Value.nilFunc, Value.nilFunc, Value.nilFunc, Value.nilFunc, Value.nilFunc, Value.nilFunc, Value.nilFunc, Value.nilFunc, Value.nilFunc, Value.nilFunc, Value.nilFunc, Value.nilFunc, Value.nilFunc, Value.nilFunc, Value.nilFunc, Value.nilFunc, Value.nilFunc, Value.nilFunc, Value.nilFunc, Value.nilFunc, Value.nilFunc, Value.nilFunc, Value.nilFunc, Value.nilFunc, Value.nilFunc, Value.nilFunc, Value.nilFunc, Value.nilFunc, Value.nilFunc, Value.nilFunc, Value.nilFunc, Value.nilFunc, Value.nilFunc, Value.nilFunc, Value.nilFunc, Value.nilFunc, Value.nilFunc, Value.nilFunc, Value.nilFunc, Value.nilFunc, Value.nilFunc] 42 hSz1_4o3_4 (by kernel_rfl)) ?_
    rintro _ wz1_4o5_1 ⟨rfl, hSz1_4o5_2⟩
    have hSz1_4o5_2 : St _ _ wz1_4o5_1 [rowE .u8 5 Az1_4o3_5 cz1_4o3_6 lz1_4o3_1, boxE wz1_4o3_3.heap.size [Value.nilFunc, Value.nilFunc, Value.nilFunc, Value.nilFunc, Value.nilFunc, Value.nilFunc, Value.nilFunc, Value.nilFunc, Value.nilFunc, Value.nilFunc, Value.nilFunc, Value.nilFunc, Value.nilFunc, Value.nilFunc, Value.nilFunc, Value.nilFunc, Value.nilFunc, Value.nilFunc, Value.nilFunc, Value.nilFunc, Value.nilFunc, Value.nilFunc, Value.nilFunc, Value.nilFunc, Value.nilFunc, Value.nilFunc, Value.nilFunc, Value.nilFunc, Value.nilFunc, Value.nilFunc, Value.nilFunc, Value.nilFunc, Value.nilFunc, Value.nilFunc, Value.nilFunc, Value.nilFunc, Value.nilFunc, Value.nilFunc, Value.nilFunc, Value.nilFunc, Value.nilFunc, Value.nilFunc, Value.nilFunc] 42] := hSz1_4o5_2
    refine ⟨(hSz1_4o5_2.pick [] rfl rfl), ?_⟩
    have hPz1_4o4_1 : St _ _ wz1_4o5_1 ([] ++ [rowE .u8 5 Az1_4o3_5 cz1_4o3_6 lz1_4o3_1, boxE wz1_4o3_3.heap.size [Value.nilFunc, Value.nilFunc, Value.nilFunc, Value.nilFunc, Value.nilFunc, Value.nilFunc, Value.nilFunc, Value.nilFunc, Value.nilFunc, Value.nilFunc, Value.nilFunc, Value.nilFunc, Value.nilFunc, Value.nilFunc, Value.nilFunc, Value.nilFunc, Value.nilFunc, Value.nilFunc, Value.nilFunc, Value.nilFunc, Value.nilFunc, Value.nilFunc, Value.nilFunc, Value.nilFunc, Value.nilFunc, Value.nilFunc, Value.nilFunc, Value.nilFunc, Value.nilFunc, Value.nilFunc, Value.nilFunc, Value.nilFunc, Value.nilFunc, Value.nilFunc, Value.nilFunc, Value.nilFunc, Value.nilFunc, Value.nilFunc, Value.nilFunc, Value.nilFunc, Value.nilFunc, Value.nilFunc, Value.nilFunc] 42]) := hSz1_4o5_2
    refine gdC 4 { dst := some 10, op := _, type := _, pos := _, after := _, guard := _ } (pRules_R () wz1_4o5_1) rfl (by kernel_rfl) (pRules_ok N  _ hcz1_4o4_2 wz1_4o5_1 ) ?_
    rintro _ wz1_4o4_3 ⟨rfl, hTz1_4o4_5⟩
    have hSz1_4o4_4 : St _ _ wz1_4o4_3 [rowE .u8 5 Az1_4o3_5 cz1_4o3_6 lz1_4o3_1, boxE wz1_4o3_3.heap.size [Value.nilFunc, Value.nilFunc, Value.nilFunc, Value.nilFunc, Value.nilFunc, Value.nilFunc, Value.nilFunc, Value.nilFunc, Value.nilFunc, Value.nilFunc, Value.nilFunc, Value.nilFunc, Value.nilFunc, Value.nilFunc, Value.nilFunc, Value.nilFunc, Value.nilFunc, Value.nilFunc, Value.nilFunc, Value.nilFunc, Value.nilFunc, Value.nilFunc, Value.nilFunc, Value.nilFunc, Value.nilFunc, Value.nilFunc, Value.nilFunc, Value.nilFunc, Value.nilFunc, Value.nilFunc, Value.nilFunc, Value.nilFunc, Value.nilFunc, Value.nilFunc, Value.nilFunc, Value.nilFunc, Value.nilFunc, Value.nilFunc, Value.nilFunc, Value.nilFunc, Value.nilFunc, Value.nilFunc, Value.nilFunc] 42] := hSz1_4o5_2.take _ hTz1_4o4_5
    refine ⟨(hSz1_4o4_4.pick [] rfl rfl), ?_⟩
    refine gv1 6 3 (.slice Az1_4o3_5 lz1_4o3_1.length cz1_4o3_6) rfl (hSz1_4o4_4.pick [] rfl rfl) ?_
    refine gdSz 7 { dst := none, op := _, type := _, pos := _, after := _, guard := _ } rfl (st_storeG (cs := [Value.nilFunc, Value.nilFunc, Value.nilFunc, Value.nilFunc, Value.nilFunc, Value.nilFunc, Value.nilFunc, Value.nilFunc, Value.nilFunc, Value.nilFunc, Value.nilFunc, Value.nilFunc, Value.nilFunc, Value.nilFunc, Value.nilFunc, Value.nilFunc, Value.nilFunc, Value.nilFunc, Value.nilFunc, Value.nilFunc, Value.nilFunc, Value.nilFunc, Value.nilFunc, Value.nilFunc, Value.nilFunc, Value.nilFunc, Value.nilFunc, Value.nilFunc, Value.nilFunc, Value.nilFunc, Value.nilFunc, Value.nilFunc, Value.nilFunc, Value.nilFunc, Value.nilFunc, Value.nilFunc, Value.nilFunc, Value.nilFunc, Value.nilFunc, Value.nilFunc, Value.nilFunc, Value.nilFunc, Value.nilFunc]) (ds := [.func (.func 36) #[] #[], .func (.func 37) #[] #[], .func (.func 38) #[] #[], .func (.func 39) #[] #[], .func (.func 40) #[] #[], .func (.func 41) #[] #[], .func (.func 42) #[] #[], .func (.func 43) #[] #[], .func (.func 44) #[] #[], .func (.func 45) #[] #[], .func (.func 46) #[] #[], .func (.func 47) #[] #[], .func (.func 48) #[] #[], .func (.func 49) #[] #[], .func (.func 50) #[] #[], .func (.func 51) #[] #[], .func (.func 52) #[] #[], .func (.func 53) #[] #[], .func (.func 54) #[] #[], .func (.func 55) #[] #[], .func (.func 56) #[] #[], .func (.func 57) #[] #[], .func (.func 58) #[] #[], .func (.func 59) #[] #[], .func (.func 60) #[] #[], .func (.func 61) #[] #[], .func (.func 62) #[] #[], .func (.func 63) #[] #[], .func (.func 64) #[] #[], .func (.func 65) #[] #[], .func (.func 66) #[] #[], .func (.func 67) #[] #[], .func (.func 68) #[] #[], .func (.func 69) #[] #[], .func (.func 70) #[] #[], .func (.func 71) #[] #[], .func (.func 72) #[] #[], .func (.func 73) #[] #[], .func (.func 74) #[] #[], .func (.func 75) #[] #[], .func (.func 76) #[] #[], .func (.func 77) #[] #[], .func (.func 78) #[] #[]]) rfl (by kernel_rfl) (by kernel_rfl) (by kernel_rfl) rfl rfl hSz1_4o4_4 1 rfl) ?_
    rintro wz1_4o7_1 hSz1_4o7_2
    have hSz1_4o7_2 : St _ _ wz1_4o7_1 [rowE .u8 5 Az1_4o3_5 cz1_4o3_6 lz1_4o3_1, boxE wz1_4o3_3.heap.size rulC 42] := hSz1_4o7_2
    exact gd_meet (by kernel_rfl) (by kernel_rfl) (K104 (Az1_4o3_5, cz1_4o3_6, wz1_4o3_3.heap.size) _ hSz1_4o7_2)
  ·have hPz1_4o4_1 : St _ _ w6 ([] ++ []) := hS7
   refine gfC 4 { dst := some 10, op := _, type := _, pos := _, after := _, guard := _ } (pRules_R () w6) rfl (by kernel_rfl) (pRules_ok N  _ hcz1_4o4_2 w6 ) ?_
   rintro _ wz1_4o4_3 ⟨rfl, hTz1_4o4_5⟩
   have hSz1_4o4_4 : St _ _ wz1_4o4_3 [] := hS7.take _ hTz1_4o4_5
   refine ⟨hSz1_4o4_4, ?_⟩
   refine gd_fork2 3 5 { dst := some 9, op := _, type := _, pos := _, after := _, guard := _ } { dst := some 4, op := _, type := _, pos := _, after := _, guard := _ } rfl rfl ?_ ?_
   ·skip
    refine gfR 3 { dst := some 9, op := _, type := _, pos := _, after := _, guard := _ } rfl (st_make (T := 5) (k := .u8) (by_ := 1) rfl (by kernel_rfl) (by kernel_rfl) (by kernel_rfl) (by kernel_rfl) (by kernel_rfl) hSz1_4o4_4 hmz1_4o3_2) ?_
    rintro _ wz1_4o3_3 ⟨Az1_4o3_5, cz1_4o3_6, rfl, hSz1_4o3_4⟩
    have hSz1_4o3_4 : St _ _ wz1_4o3_3 [rowE .u8 5 Az1_4o3_5 cz1_4o3_6 lz1_4o3_1] := hSz1_4o3_4
    refine ⟨(hSz1_4o3_4.pick [] rfl rfl), ?_⟩
    refine gdR 5 { dst := some 4, op := _, type := _, pos := _, after := _, guard := _ } rfl (st_boxed [Value.nilFunc, Value.nilFunc, Value.nilFunc, Value.nilFunc, Value.nilFunc, Value.nilFunc, Value.nilFunc, Value.nilFunc, Value.nilFunc, Value.nilFunc, Value.nilFunc, Value.nilFunc, Value.nilFunc, Value.nilFunc, Value.nilFunc, Value.nilFunc, Value.nilFunc, Value.nilFunc, Value.nilFunc, Value.nilFunc, Value.nilFunc, Value.nilFunc, Value.nilFunc, Value.nilFunc, Value.nilFunc, Value.nilFunc, Value.nilFunc, Value.nilFunc, Value.nilFunc, Value.nilFunc, Value.nilFunc, Value.nilFunc, Value.nilFunc, Value.nilFunc, Value.nilFunc, Value.nilFunc, Value.nilFunc, Value.nilFunc, Value.nilFunc, Value.nilFunc, Value.nilFunc, Value.nilFunc, Value.nilFunc] 42 hSz1_4o3_4 (by kernel_rfl)) ?_
    rintro _ wz1_4o5_1 ⟨rfl, hSz1_4o5_2⟩
    have hSz1_4o5_2 : St _ _ wz1_4o5_1 [rowE .u8 5 Az1_4o3_5 cz1_4o3_6 lz1_4o3_1, boxE wz1_4o3_3.heap.size [Value.nilFunc, Value.nilFunc, Value.nilFunc, Value.nilFunc, Value.nilFunc, Value.nilFunc, Value.nilFunc, Value.nilFunc, Value.nilFunc, Value.nilFunc, Value.nilFunc, Value.nilFunc, Value.nilFunc, Value.nilFunc, Value.nilFunc, Value.nilFunc, Value.nilFunc, Value.nilFunc, Value.nilFunc, Value.nilFunc, Value.nilFunc, Value.nilFunc, Value.nilFunc, Value.nilFunc, Value.nilFunc, Value.nilFunc, Value.nilFunc, Value.nilFunc, Value.nilFunc, Value.nilFunc, Value.nilFunc, Value.nilFunc, Value.nilFunc, Value.nilFunc, Value.nilFunc, Value.nilFunc, Value.nilFunc, Value.nilFunc, Value.nilFunc, Value.nilFunc, Value.nilFunc, Value.nilFunc, Value.nilFunc] 42] := hSz1_4o5_2
    refine ⟨(hSz1_4o5_2.pick [] rfl rfl), ?_⟩
    refine gv1 6 3 (.slice Az1_4o3_5 lz1_4o3_1.length cz1_4o3_6) rfl (hSz1_4o5_2.pick [] rfl rfl) ?_
    refine gdSz 7 { dst := none, op := _, type := _, pos := _, after := _, guard := _ } rfl (st_storeG (cs := [Value.nilFunc, Value.nilFunc, Value.nilFunc, Value.nilFunc, Value.nilFunc, Value.nilFunc, Value.nilFunc, Value.nilFunc, Value.nilFunc, Value.nilFunc, Value.nilFunc, Value.nilFunc, Value.nilFunc, Value.nilFunc, Value.nilFunc, Value.nilFunc, Value.nilFunc, Value.nilFunc, Value.nilFunc, Value.nilFunc, Value.nilFunc, Value.nilFunc, Value.nilFunc, Value.nilFunc, Value.nilFunc, Value.nilFunc, Value.nilFunc, Value.nilFunc, Value.nilFunc, Value.nilFunc, Value.nilFunc, Value.nilFunc, Value.nilFunc, Value.nilFunc, Value.nilFunc, Value.nilFunc, Value.nilFunc, Value.nilFunc, Value.nilFunc, Value.nilFunc, Value.nilFunc, Value.nilFunc, Value.nilFunc]) (ds := [.func (.func 36) #[] #[], .func (.func 37) #[] #[], .func (.func 38) #[] #[], .func (.func 39) #[] #[], .func (.func 40) #[] #[], .func (.func 41) #[] #[], .func (.func 42) #[] #[], .func (.func 43) #[] #[], .func (.func 44) #[] #[], .func (.func 45) #[] #[], .func (.func 46) #[] #[], .func (.func 47) #[] #[], .func (.func 48) #[] #[], .func (.func 49) #[] #[], .func (.func 50) #[] #[], .func (.func 51) #[] #[], .func (.func 52) #[] #[], .func (.func 53) #[] #[], .func (.func 54) #[] #[], .func (.func 55) #[] #[], .func (.func 56) #[] #[], .func (.func 57) #[] #[], .func (.func 58) #[] #[], .func (.func 59) #[] #[], .func (.func 60) #[] #[], .func (.func 61) #[] #[], .func (.func 62) #[] #[], .func (.func 63) #[] #[], .func (.func 64) #[] #[], .func (.func 65) #[] #[], .func (.func 66) #[] #[], .func (.func 67) #[] #[], .func (.func 68) #[] #[], .func (.func 69) #[] #[], .func (.func 70) #[] #[], .func (.func 71) #[] #[], .func (.func 72) #[] #[], .func (.func 73) #[] #[], .func (.func 74) #[] #[], .func (.func 75) #[] #[], .func (.func 76) #[] #[], .func (.func 77) #[] #[], .func (.func 78) #[] #[]]) rfl (by kernel_rfl) (by kernel_rfl) (by kernel_rfl) rfl rfl hSz1_4o5_2 1 rfl) ?_
    rintro wz1_4o7_1 hSz1_4o7_2
    have hSz1_4o7_2 : St _ _ wz1_4o7_1 [rowE .u8 5 Az1_4o3_5 cz1_4o3_6 lz1_4o3_1, boxE wz1_4o3_3.heap.size rulC 42] := hSz1_4o7_2
    exact gd_meet (by kernel_rfl) (by kernel_rfl) (K104 (Az1_4o3_5, cz1_4o3_6, wz1_4o3_3.heap.size) _ hSz1_4o7_2)
   ·refine gfR 5 { dst := some 4, op := _, type := _, pos := _, after := _, guard := _ } rfl (st_boxed [Value.nilFunc, Value.nilFunc, Value.nilFunc, Value.nilFunc, Value.nilFunc, Value.nilFunc, Value.nilFunc, Value.nilFunc, Value.nilFunc, Value.nilFunc, Value.nilFunc, Value.nilFunc, Value.nilFunc, Value.nilFunc, Value.nilFunc, Value.nilFunc, Value.nilFunc, Value.nilFunc, Value.nilFunc, Value.nilFunc, Value.nilFunc, Value.nilFunc, Value.nilFunc, Value.nilFunc, Value.nilFunc, Value.nilFunc, Value.nilFunc, Value.nilFunc, Value.nilFunc, Value.nilFunc, Value.nilFunc, Value.nilFunc, Value.nilFunc, Value.nilFunc, Value.nilFunc, Value.nilFunc, Value.nilFunc, Value.nilFunc, Value.nilFunc, Value.nilFunc, Value.nilFunc, Value.nilFunc, Value.nilFunc] 42 hSz1_4o4_4 (by kernel_rfl)) ?_
    rintro _ wz1_4o5_1 ⟨rfl, hSz1_4o5_2⟩
    have hSz1_4o5_2 : St _ _ wz1_4o5_1 [boxE wz1_4o4_3.heap.size [Value.nilFunc, Value.nilFunc, Value.nilFunc, Value.nilFunc, Value.nilFunc, Value.nilFunc, Value.nilFunc, Value.nilFunc, Value.nilFunc, Value.nilFunc, Value.nilFunc, Value.nilFunc, Value.nilFunc, Value.nilFunc, Value.nilFunc, Value.nilFunc, Value.nilFunc, Value.nilFunc, Value.nilFunc, Value.nilFunc, Value.nilFunc, Value.nilFunc, Value.nilFunc, Value.nilFunc, Value.nilFunc, Value.nilFunc, Value.nilFunc, Value.nilFunc, Value.nilFunc, Value.nilFunc, Value.nilFunc, Value.nilFunc, Value.nilFunc, Value.nilFunc, Value.nilFunc, Value.nilFunc, Value.nilFunc, Value.nilFunc, Value.nilFunc, Value.nilFunc, Value.nilFunc, Value.nilFunc, Value.nilFunc] 42] := hSz1_4o5_2
    refine ⟨(hSz1_4o5_2.pick [] rfl rfl), ?_⟩
    refine gdR 3 { dst := some 9, op := _, type := _, pos := _, after := _, guard := _ } rfl (st_make (T := 5) (k := .u8) (by_ := 1) rfl (by kernel_rfl) (by kernel_rfl) (by kernel_rfl) (by kernel_rfl) (by kernel_rfl) hSz1_4o5_2 hmz1_4o3_2) ?_
    rintro _ wz1_4o3_3 ⟨Az1_4o3_5, cz1_4o3_6, rfl, hSz1_4o3_4⟩
    have hSz1_4o3_4 : St _ _ wz1_4o3_3 [boxE wz1_4o4_3.heap.size [Value.nilFunc, Value.nilFunc, Value.nilFunc, Value.nilFunc, Value.nilFunc, Value.nilFunc, Value.nilFunc, Value.nilFunc, Value.nilFunc, Value.nilFunc, Value.nilFunc, Value.nilFunc, Value.nilFunc, Value.nilFunc, Value.nilFunc, Value.nilFunc, Value.nilFunc, Value.nilFunc, Value.nilFunc, Value.nilFunc, Value.nilFunc, Value.nilFunc, Value.nilFunc, Value.nilFunc, Value.nilFunc, Value.nilFunc, Value.nilFunc, Value.nilFunc, Value.nilFunc, Value.nilFunc, Value.nilFunc, Value.nilFunc, Value.nilFunc, Value.nilFunc, Value.nilFunc, Value.nilFunc, Value.nilFunc, Value.nilFunc, Value.nilFunc, Value.nilFunc, Value.nilFunc, Value.nilFunc, Value.nilFunc] 42, rowE .u8 5 Az1_4o3_5 cz1_4o3_6 lz1_4o3_1] := hSz1_4o3_4
    refine ⟨(hSz1_4o3_4.pick [] rfl rfl), ?_⟩
    refine gv1 6 3 (.slice Az1_4o3_5 lz1_4o3_1.length cz1_4o3_6) rfl (hSz1_4o3_4.pick [] rfl rfl) ?_
    refine gdSz 7 { dst := none, op := _, type := _, pos := _, after := _, guard := _ } rfl (st_storeG (cs := [Value.nilFunc, Value.nilFunc, Value.nilFunc, Value.nilFunc, Value.nilFunc, Value.nilFunc, Value.nilFunc, Value.nilFunc, Value.nilFunc, Value.nilFunc, Value.nilFunc, Value.nilFunc, Value.nilFunc, Value.nilFunc, Value.nilFunc, Value.nilFunc, Value.nilFunc, Value.nilFunc, Value.nilFunc, Value.nilFunc, Value.nilFunc, Value.nilFunc, Value.nilFunc, Value.nilFunc, Value.nilFunc, Value.nilFunc, Value.nilFunc, Value.nilFunc, Value.nilFunc, Value.nilFunc, Value.nilFunc, Value.nilFunc, Value.nilFunc, Value.nilFunc, Value.nilFunc, Value.nilFunc, Value.nilFunc, Value.nilFunc, Value.nilFunc, Value.nilFunc, Value.nilFunc, Value.nilFunc, Value.nilFunc]) (ds := [.func (.func 36) #[] #[], .func (.func 37) #[] #[], .func (.func 38) #[] #[], .func (.func 39) #[] #[], .func (.func 40) #[] #[], .func (.func 41) #[] #[], .func (.func 42) #[] #[], .func (.func 43) #[] #[], .func (.func 44) #[] #[], .func (.func 45) #[] #[], .func (.func 46) #[] #[], .func (.func 47) #[] #[], .func (.func 48) #[] #[], .func (.func 49) #[] #[], .func (.func 50) #[] #[], .func (.func 51) #[] #[], .func (.func 52) #[] #[], .func (.func 53) #[] #[], .func (.func 54) #[] #[], .func (.func 55) #[] #[], .func (.func 56) #[] #[], .func (.func 57) #[] #[], .func (.func 58) #[] #[], .func (.func 59) #[] #[], .func (.func 60) #[] #[], .func (.func 61) #[] #[], .func (.func 62) #[] #[], .func (.func 63) #[] #[], .func (.func 64) #[] #[], .func (.func 65) #[] #[], .func (.func 66) #[] #[], .func (.func 67) #[] #[], .func (.func 68) #[] #[], .func (.func 69) #[] #[], .func (.func 70) #[] #[], .func (.func 71) #[] #[], .func (.func 72) #[] #[], .func (.func 73) #[] #[], .func (.func 74) #[] #[], .func (.func 75) #[] #[], .func (.func 76) #[] #[], .func (.func 77) #[] #[], .func (.func 78) #[] #[]]) rfl (by kernel_rfl) (by kernel_rfl) (by kernel_rfl) rfl rfl hSz1_4o3_4 0 rfl) ?_
    rintro wz1_4o7_1 hSz1_4o7_2
    have hSz1_4o7_2 : St _ _ wz1_4o7_1 [boxE wz1_4o4_3.heap.size rulC 42, rowE .u8 5 Az1_4o3_5 cz1_4o3_6 lz1_4o3_1] := hSz1_4o7_2
    exact gd_meet (by kernel_rfl) (by kernel_rfl) (K104 (Az1_4o3_5, cz1_4o3_6, wz1_4o4_3.heap.size) _ (hSz1_4o7_2.pick [1, 0] rfl rfl))
  ·refine gfR 5 { dst := some 4, op := _, type := _, pos := _, after := _, guard := _ } rfl (st_boxed [Value.nilFunc, Value.nilFunc, Value.nilFunc, Value.nilFunc, Value.nilFunc, Value.nilFunc, Value.nilFunc, Value.nilFunc, Value.nilFunc, Value.nilFunc, Value.nilFunc, Value.nilFunc, Value.nilFunc, Value.nilFunc, Value.nilFunc, Value.nilFunc, Value.nilFunc, Value.nilFunc, Value.nilFunc, Value.nilFunc, Value.nilFunc, Value.nilFunc, Value.nilFunc, Value.nilFunc, Value.nilFunc, Value.nilFunc, Value.nilFunc, Value.nilFunc, Value.nilFunc, Value.nilFunc, Value.nilFunc, Value.nilFunc, Value.nilFunc, Value.nilFunc, Value.nilFunc, Value.nilFunc, Value.nilFunc, Value.nilFunc, Value.nilFunc, Value.nilFunc, Value.nilFunc, Value.nilFunc, Value.nilFunc] 42 hS7 (by kernel_rfl)) ?_
   rintro _ wz1_4o5_1 ⟨rfl, hSz1_4o5_2⟩
   have hSz1_4o5_2 : St _ _ wz1_4o5_1 [boxE w6.heap.size [Value.nilFunc, Value.nilFunc, Value.nilFunc, Value.nilFunc, Value.nilFunc, Value.nilFunc, Value.nilFunc, Value.nilFunc, Value.nilFunc, Value.nilFunc, Value.nilFunc, Value.nilFunc, Value.nilFunc, Value.nilFunc, Value.nilFunc, Value.nilFunc, Value.nilFunc, Value.nilFunc, Value.nilFunc, Value.nilFunc, Value.nilFunc, Value.nilFunc, Value.nilFunc, Value.nilFunc, Value.nilFunc, Value.nilFunc, Value.nilFunc, Value.nilFunc, Value.nilFunc, Value.nilFunc, Value.nilFunc, Value.nilFunc, Value.nilFunc, Value.nilFunc, Value.nilFunc, Value.nilFunc, Value.nilFunc, Value.nilFunc, Value.nilFunc, Value.nilFunc, Value.nilFunc, Value.nilFunc, Value.nilFunc] 42] := hSz1_4o5_2
   refine ⟨(hSz1_4o5_2.pick [] rfl rfl), ?_⟩
   refine gd_fork2 3 4 { dst := some 9, op := _, type := _, pos := _, after := _, guard := _ } { dst := some 10, op := _, type := _, pos := _, after := _, guard := _ } rfl rfl ?_ ?_
   ·skip
    refine gfR 3 { dst := some 9, op := _, type := _, pos := _, after := _, guard := _ } rfl (st_make (T := 5) (k := .u8) (by_ := 1) rfl (by kernel_rfl) (by kernel_rfl) (by kernel_rfl) (by kernel_rfl) (by kernel_rfl) hSz1_4o5_2 hmz1_4o3_2) ?_
    rintro _ wz1_4o3_3 ⟨Az1_4o3_5, cz1_4o3_6, rfl, hSz1_4o3_4⟩
    have hSz1_4o3_4 : St _ _ wz1_4o3_3 [boxE w6.heap.size [Value.nilFunc, Value.nilFunc, Value.nilFunc, Value.nilFunc, Value.nilFunc, Value.nilFunc, Value.nilFunc, Value.nilFunc, Value.nilFunc, Value.nilFunc, Value.nilFunc, Value.nilFunc, Value.nilFunc, Value.nilFunc, Value.nilFunc, Value.nilFunc, Value.nilFunc, Value.nilFunc, Value.nilFunc, Value.nilFunc, Value.nilFunc, Value.nilFunc, Value.nilFunc, Value.nilFunc, Value.nilFunc, Value.nilFunc, Value.nilFunc, Value.nilFunc, Value.nilFunc, Value.nilFunc, Value.nilFunc, Value.nilFunc, Value.nilFunc, Value.nilFunc, Value.nilFunc, Value.nilFunc, Value.nilFunc, Value.nilFunc, Value.nilFunc, Value.nilFunc, Value.nilFunc, Value.nilFunc, Value.nilFunc] 42, rowE .u8 5 Az1_4o3_5 cz1_4o3_6 lz1_4o3_1] := hSz1_4o3_4
    refine ⟨(hSz1_4o3_4.pick [] rfl rfl), ?_⟩
    have hPz1_4o4_1 : St _ _ wz1_4o3_3 ([] ++ [boxE w6.heap.size [Value.nilFunc, Value.nilFunc, Value.nilFunc, Value.nilFunc, Value.nilFunc, Value.nilFunc, Value.nilFunc, Value.nilFunc, Value.nilFunc, Value.nilFunc, Value.nilFunc, Value.nilFunc, Value.nilFunc, Value.nilFunc, Value.nilFunc, Value.nilFunc, Value.nilFunc, Value.nilFunc, Value.nilFunc, Value.nilFunc, Value.nilFunc, Value.nilFunc, Value.nilFunc, Value.nilFunc, Value.nilFunc, Value.nilFunc, Value.nilFunc, Value.nilFunc, Value.nilFunc, Value.nilFunc, Value.nilFunc, Value.nilFunc, Value.nilFunc, Value.nilFunc, Value.nilFunc, Value.nilFunc, Value.nilFunc, Value.nilFunc, Value.nilFunc, Value.nilFunc, Value.nilFunc, Value.nilFunc, Value.nilFunc] 42, rowE .u8 5 Az1_4o3_5 cz1_4o3_6 lz1_4o3_1]) := hSz1_4o3_4
    refine gdC 4 { dst := some 10, op := _, type := _, pos := _, after := _, guard := _ } (pRules_R () wz1_4o3_3) rfl (by kernel_rfl) (pRules_ok N  _ hcz1_4o4_2 wz1_4o3_3 ) ?_
    rintro _ wz1_4o4_3 ⟨rfl, hTz1_4o4_5⟩
    have hSz1_4o4_4 : St _ _ wz1_4o4_3 [boxE w6.heap.size [Value.nilFunc, Value.nilFunc, Value.nilFunc, Value.nilFunc, Value.nilFunc, Value.nilFunc, Value.nilFunc, Value.nilFunc, Value.nilFunc, Value.nilFunc, Value.nilFunc, Value.nilFunc, Value.nilFunc, Value.nilFunc, Value.nilFunc, Value.nilFunc, Value.nilFunc, Value.nilFunc, Value.nilFunc, Value.nilFunc, Value.nilFunc, Value.nilFunc, Value.nilFunc, Value.nilFunc, Value.nilFunc, Value.nilFunc, Value.nilFunc, Value.nilFunc, Value.nilFunc, Value.nilFunc, Value.nilFunc, Value.nilFunc, Value.nilFunc, Value.nilFunc, Value.nilFunc, Value.nilFunc, Value.nilFunc, Value.nilFunc, Value.nilFunc, Value.nilFunc, Value.nilFunc, Value.nilFunc, Value.nilFunc] 42, rowE .u8 5 Az1_4o3_5 cz1_4o3_6 lz1_4o3_1] := hSz1_4o3_4.take _ hTz1_4o4_5
    refine ⟨(hSz1_4o4_4.pick [] rfl rfl), ?_⟩
    refine gv1 6 3 (.slice Az1_4o3_5 lz1_4o3_1.length cz1_4o3_6) rfl (hSz1_4o4_4.pick [] rfl rfl) ?_
    refine gdSz 7 { dst := none, op := _, type := _, pos := _, after := _, guard := _ } rfl (st_storeG (cs := [Value.nilFunc, Value.nilFunc, Value.nilFunc, Value.nilFunc, Value.nilFunc, Value.nilFunc, Value.nilFunc, Value.nilFunc, Value.nilFunc, Value.nilFunc, Value.nilFunc, Value.nilFunc, Value.nilFunc, Value.nilFunc, Value.nilFunc, Value.nilFunc, Value.nilFunc, Value.nilFunc, Value.nilFunc, Value.nilFunc, Value.nilFunc, Value.nilFunc, Value.nilFunc, Value.nilFunc, Value.nilFunc, Value.nilFunc, Value.nilFunc, Value.nilFunc, Value.nilFunc, Value.nilFunc, Value.nilFunc, Value.nilFunc, Value.nilFunc, Value.nilFunc, Value.nilFunc, Value.nilFunc, Value.nilFunc, Value.nilFunc, Value.nilFunc, Value.nilFunc, Value.nilFunc, Value.nilFunc, Value.nilFunc]) (ds := [.func (.func 36) #[] #[], .func (.func 37) #[] #[], .func (.func 38) #[] #[], .func (.func 39) #[] #[], .func (.func 40) #[] #[], .func (.func 41) #[] #[], .func (.func 42) #[] #[], .func (.func 43) #[] #[], .func (.func 44) #[] #[], .func (.func 45) #[] #[], .func (.func 46) #[] #[], .func (.func 47) #[] #[], .func (.func 48) #[] #[], .func (.func 49) #[] #[], .func (.func 50) #[] #[], .func (.func 51) #[] #[], .func (.func 52) #[] #[], .func (.func 53) #[] #[], .func (.func 54) #[] #[], .func (.func 55) #[] #[], .func (.func 56) #[] #[], .func (.func 57) #[] #[], .func (.func 58) #[] #[], .func (.func 59) #[] #[], .func (.func 60) #[] #[], .func (.func 61) #[] #[], .func (.func 62) #[] #[], .func (.func 63) #[] #[], .func (.func 64) #[] #[], .func (.func 65) #[] #[], .func (.func 66) #[] #[], .func (.func 67) #[] #[], .func (.func 68) #[] #[], .func (.func 69) #[] #[], .func (.func 70) #[] #[], .func (.func 71) #[] #[], .func (.func 72) #[] #[], .func (.func 73) #[] #[], .func (.func 74) #[] #[], .func (.func 75) #[] #[], .func (.func 76) #[] #[], .func (.func 77) #[] #[], .func (.func 78) #[] #[]]) rfl (by kernel_rfl) (by kernel_rfl) (by kernel_rfl) rfl rfl hSz1_4o4_4 0 rfl) ?_
    rintro wz1_4o7_1 hSz1_4o7_2
    have hSz1_4o7_2 : St _ _ wz1_4o7_1 [boxE w6.heap.size rulC 42, rowE .u8 5 Az1_4o3_5 cz1_4o3_6 lz1_4o3_1] := hSz1_4o7_2
    exact gd_meet (by kernel_rfl) (by kernel_rfl) (K104 (Az1_4o3_5, cz1_4o3_6, w6.heap.size) _ (hSz1_4o7_2.pick [1, 0] rfl rfl))
   ·have hPz1_4o4_1 : St _ _ wz1_4o5_1 ([] ++ [boxE w6.heap.size [Value.nilFunc, Value.nilFunc, Value.nilFunc, Value.nilFunc, Value.nilFunc, Value.nilFunc, Value.nilFunc, Value.nilFunc, Value.nilFunc, Value.nilFunc, Value.nilFunc, Value.nilFunc, Value.nilFunc, Value.nilFunc, Value.nilFunc, Value.nilFunc, Value.nilFunc, Value.nilFunc, Value.nilFunc, Value.nilFunc, Value.nilFunc, Value.nilFunc, Value.nilFunc, Value.nilFunc, Value.nilFunc, Value.nilFunc, Value.nilFunc, Value.nilFunc, Value.nilFunc, Value.nilFunc, Value.nilFunc, Value.nilFunc, Value.nilFunc, Value.nilFunc, Value.nilFunc, Value.nilFunc, Value.nilFunc, Value.nilFunc, Value.nilFunc, Value.nilFunc, Value.nilFunc, Value.nilFunc, Value.nilFunc] 42]) := hSz1_4o5_2
    refine gfC 4 { dst := some 10, op := _, type := _, pos := _, after := _, guard := _ } (pRules_R () wz1_4o5_1) rfl (by kernel_rfl) (pRules_ok N  _ hcz1_4o4_2 wz1_4o5_1 ) ?_
    rintro _ wz1_4o4_3 ⟨rfl, hTz1_4o4_5⟩
    have hSz1_4o4_4 : St _ _ wz1_4o4_3 [boxE w6.heap.size [Value.nilFunc, Value.nilFunc, Value.nilFunc, Value.nilFunc, Value.nilFunc, Value.nilFunc, Value.nilFunc, Value.nilFunc, Value.nilFunc, Value.nilFunc, Value.nilFunc, Value.nilFunc, Value.nilFunc, Value.nilFunc, Value.nilFunc, Value.nilFunc, Value.nilFunc, Value.nilFunc, Value.nilFunc, Value.nilFunc, Value.nilFunc, Value.nilFunc, Value.nilFunc, Value.nilFunc, Value.nilFunc, Value.nilFunc, Value.nilFunc, Value.nilFunc, Value.nilFunc, Value.nilFunc, Value.nilFunc, Value.nilFunc, Value.nilFunc, Value.nilFunc, Value.nilFunc, Value.nilFunc, Value.nilFunc, Value.nilFunc, Value.nilFunc, Value.nilFunc, Value.nilFunc, Value.nilFunc, Value.nilFunc] 42] := hSz1_4o5_2.take _ hTz1_4o4_5
    refine ⟨(hSz1_4o4_4.pick [] rfl rfl), ?_⟩
    refine gdR 3 { dst := some 9, op := _, type := _, pos := _, after := _, guard := _ } rfl (st_make (T := 5) (k := .u8) (by_ := 1) rfl (by kernel_rfl) (by kernel_rfl) (by kernel_rfl) (by kernel_rfl) (by kernel_rfl) hSz1_4o4_4 hmz1_4o3_2) ?_
    rintro _ wz1_4o3_3 ⟨Az1_4o3_5, cz1_4o3_6, rfl, hSz1_4o3_4⟩
    have hSz1_4o3_4 : St _ _ wz1_4o3_3 [boxE w6.heap.size [Value.nilFunc, Value.nilFunc, Value.nilFunc, Value.nilFunc, Value.nilFunc, Value.nilFunc, Value.nilFunc, Value.nilFunc, Value.nilFunc, Value.nilFunc, Value.nilFunc, Value.nilFunc, Value.nilFunc, Value.nilFunc, Value.nilFunc, Value.nilFunc, Value.nilFunc, Value.nilFunc, Value.nilFunc, Value.nilFunc, Value.nilFunc, Value.nilFunc, Value.nilFunc, Value.nilFunc, Value.nilFunc, Value.nilFunc, Value.nilFunc, Value.nilFunc, Value.nilFunc, Value.nilFunc, Value.nilFunc, Value.nilFunc, Value.nilFunc, Value.nilFunc, Value.nilFunc, Value.nilFunc, Value.nilFunc, Value.nilFunc, Value.nilFunc, Value.nilFunc, Value.nilFunc, Value.nilFunc, Value.nilFunc] 42, rowE .u8 5 Az1_4o3_5 cz1_4o3_6 lz1_4o3_1] := hSz1_4o3_4
    refine ⟨(hSz1_4o3_4.pick [] rfl rfl), ?_⟩
    refine gv1 6 3 (.slice Az1_4o3_5 lz1_4o3_1.length cz1_4o3_6) rfl (hSz1_4o3_4.pick [] rfl rfl) ?_
    refine gdSz 7 { dst := none, op := _, type := _, pos := _, after := _, guard := _ } rfl (st_storeG (cs := [Value.nilFunc, Value.nilFunc, Value.nilFunc, Value.nilFunc, Value.nilFunc, Value.nilFunc, Value.nilFunc, Value.nilFunc, Value.nilFunc, Value.nilFunc, Value.nilFunc, Value.nilFunc, Value.nilFunc, Value.nilFunc, Value.nilFunc, Value.nilFunc, Value.nilFunc, Value.nilFunc, Value.nilFunc, Value.nilFunc, Value.nilFunc, Value.nilFunc, Value.nilFunc, Value.nilFunc, Value.nilFunc, Value.nilFunc, Value.nilFunc, Value.nilFunc, Value.nilFunc, Value.nilFunc, Value.nilFunc, Value.nilFunc, Value.nilFunc, Value.nilFunc, Value.nilFunc, Value.nilFunc, Value.nilFunc, Value.nilFunc, Value.nilFunc, Value.nilFunc, Value.nilFunc, Value.nilFunc, Value.nilFunc]) (ds := [.func (.func 36) #[] #[], .func (.func 37) #[] #[], .func (.func 38) #[] #[], .func (.func 39) #[] #[], .func (.func 40) #[] #[], .func (.func 41) #[] #[], .func (.func 42) #[] #[], .func (.func 43) #[] #[], .func (.func 44) #[] #[], .func (.func 45) #[] #[], .func (.func 46) #[] #[], .func (.func 47) #[] #[], .func (.func 48) #[] #[], .func (.func 49) #[] #[], .func (.func 50) #[] #[], .func (.func 51) #[] #[], .func (.func 52) #[] #[], .func (.func 53) #[] #[], .func (.func 54) #[] #[], .func (.func 55) #[] #[], .func (.func 56) #[] #[], .func (.func 57) #[] #[], .func (.func 58) #[] #[], .func (.func 59) #[] #[], .func (.func 60) #[] #[], .func (.func 61) #[] #[], .func (.func 62) #[] #[], .func (.func 63) #[] #[], .func (.func 64) #[] #[], .func (.func 65) #[] #[], .func (.func 66) #[] #[], .func (.func 67) #[] #[], .func (.func 68) #[] #[], .func (.func 69) #[] #[], .func (.func 70) #[] #[], .func (.func 71) #[] #[], .func (.func 72) #[] #[], .func (.func 73) #[] #[], .func (.func 74) #[] #[], .func (.func 75) #[] #[], .func (.func 76) #[] #[], .func (.func 77) #[] #[], .func (.func 78) #[] #[]]) rfl (by kernel_rfl) (by kernel_rfl) (by kernel_rfl) rfl rfl hSz1_4o3_4 0 rfl) ?_
    rintro wz1_4o7_1 hSz1_4o7_2
    have hSz1_4o7_2 : St _ _ wz1_4o7_1 [boxE w6.heap.size rulC 42, rowE .u8 5 Az1_4o3_5 cz1_4o3_6 lz1_4o3_1] := hSz1_4o7_2
    exact gd_meet (by kernel_rfl) (by kernel_rfl) (K104 (Az1_4o3_5, cz1_4o3_6, w6.heap.size) _ (hSz1_4o7_2.pick [1, 0] rfl rfl))
end Go.Proofs.Ytdbimchiecdkoaa

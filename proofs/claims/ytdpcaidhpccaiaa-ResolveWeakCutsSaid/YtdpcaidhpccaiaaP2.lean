/-
  The program, walked.
-/
import Derived.Test.YtdpcaidhpccaiaaP1
namespace Go.Proofs.Ytdpcaidhpccaiaa
open Go Go.RowKit
set_option linter.unusedVariables false

def pWeak (N : Nat) (p0 : List Int) (p1 : Int) : Option (List Int) :=
 ((pDense N p0).bind fun l7 => ((pEdge N p1).bind fun x17 => ((pMarks N l7 x17).bind fun l25 => ((pArab N l25 x17).bind fun l34 => ((pNums N l34 x17).bind fun l43 => ((pSpread N p0 l43).bind fun l52 => some l52))))))

set_option linter.unusedVariables false in
def pWeak_R (r : List Int) (w0 : World) (v : Value) (w : World) : Prop := ∃ (A0' : Option Addr) (c0' : Nat), v = .slice A0' r.length c0' ∧ St [] w0 w [rowE .u8 23 A0' c0' r]

set_option maxRecDepth 100000 in
set_option maxHeartbeats 4000000 in
theorem pWeak_ok (N : Nat) (p0 : List Int) (p1 : Int) (A0 : Option Addr) (c0 : Nat) (r : List Int) (hF : pWeak N p0 p1 = some r) (w0 : World) (hv0 : Vw [] .u8 w0 A0 c0 p0) :
  Calls Try.prog 18 #[.slice A0 p0.length c0, .int .u8 p1] w0 fun e w => ∃ v, e = .returned v ∧ pWeak_R r w0 v w := by
 have hS0 := St.start w0
 unfold pWeak at hF
 refine calls_of Try.func18 rfl ⟨((.slice A0 p0.length c0) :: (.int .u8 p1) :: un 21 ([])).toArray, []⟩ (by kernel_rfl) ?_
 refine gx_seq (fun K1 hK2 => ?_)
 refine gx_region ?_
 refine gx_k (.slice none 0 0) w0 ?_
 refine gx_nil ?_
 refine gx_thenN ?_
 refine hK2 _ _ ?_
 refine gx_seq (fun K3 hK4 => ?_)
 refine gx_region ?_
 refine gx_k (.slice A0 p0.length c0) w0 ?_
 have hP5 : St _ _ w0 ([] ++ []) := hS0
 obtain ⟨l7, hc6, hF⟩ := bind_in hF
 try dsimp only at hF
 refine gx_c (pDense_R l7 w0) (pDense_ok N p0 A0 c0 _ hc6 w0 (hP5.vwA hv0)) ?_
 rintro _ w10 ⟨A8, c9, rfl, hT12⟩
 have hS11 : St _ _ w10 [rowE .u8 23 A8 c9 l7] := hS0.take _ hT12
 refine gx_k (.slice A8 l7.length c9) w10 ?_
 refine gx_nil ?_
 refine gx_thenN ?_
 refine hK4 _ _ ?_
 refine gx_seq (fun K13 hK14 => ?_)
 refine gx_region ?_
 refine gx_k (.int .u8 p1) w10 ?_
 have hP15 : St _ _ w10 ([] ++ [rowE .u8 23 A8 c9 l7]) := hS11
 obtain ⟨x17, hc16, hF⟩ := bind_in hF
 try dsimp only at hF
 refine gx_c (pEdge_R x17 w10) (pEdge_ok N p1 _ hc16 w10 ) ?_
 rintro _ w18 ⟨rfl, hT20⟩
 have hS19 : St _ _ w18 [rowE .u8 23 A8 c9 l7] := hS11.take _ hT20
 refine gx_k (.int .u8 x17) w18 ?_
 refine gx_nil ?_
 refine gx_thenN ?_
 refine hK14 _ _ ?_
 refine gx_seq (fun K21 hK22 => ?_)
 refine gx_region ?_
 refine gx_k (.slice A8 l7.length c9) w18 (gx_k (.int .u8 x17) w18 ?_)
 have hP23 : St _ _ w18 ([rowE .u8 23 A8 c9 l7] ++ []) := hS19
 obtain ⟨l25, hc24, hF⟩ := bind_in hF
 try dsimp only at hF
 refine gx_c (pMarks_R l7 x17 A8 c9 l25 w18) (pMarks_ok N l7 x17 A8 c9 _ hc24 w18 hP23.part) ?_
 rintro _ w27 ⟨rfl, hT29, hl26⟩
 have hS28 : St _ _ w27 [rowE .u8 23 A8 c9 l25] := hP23.lendN _ hT29
 refine gx_nil ?_
 refine gx_thenN ?_
 refine hK22 _ _ ?_
 refine gx_seq (fun K30 hK31 => ?_)
 refine gx_region ?_
 refine gx_k (.slice A8 l7.length c9) w27 (gx_k (.int .u8 x17) w27 ?_)
 have hP32 : St _ _ w27 ([rowE .u8 23 A8 c9 l25] ++ []) := hS28
 obtain ⟨l34, hc33, hF⟩ := bind_in hF
 try dsimp only at hF
 refine gx_call (pArab_R l25 x17 A8 c9 l34 w27) (by kernel_rfl) (by rw [← hl26.symm] <;> kernel_rfl) (pArab_ok N l25 x17 A8 c9 _ hc33 w27 hP32.part) ?_
 rintro _ w36 ⟨rfl, hT38, hl35⟩
 have hS37 : St _ _ w36 [rowE .u8 23 A8 c9 l34] := hP32.lendN _ hT38
 refine gx_nil ?_
 refine gx_thenN ?_
 refine hK31 _ _ ?_
 refine gx_seq (fun K39 hK40 => ?_)
 refine gx_region ?_
 refine gx_k (.slice A8 l7.length c9) w36 (gx_k (.int .u8 x17) w36 ?_)
 have hP41 : St _ _ w36 ([rowE .u8 23 A8 c9 l34] ++ []) := hS37
 obtain ⟨l43, hc42, hF⟩ := bind_in hF
 try dsimp only at hF
 refine gx_call (pNums_R l34 x17 A8 c9 l43 w36) (by kernel_rfl) (by rw [← (hl26.symm.trans hl35.symm)] <;> kernel_rfl) (pNums_ok N l34 x17 A8 c9 _ hc42 w36 hP41.part) ?_
 rintro _ w45 ⟨rfl, hT47, hl44⟩
 have hS46 : St _ _ w45 [rowE .u8 23 A8 c9 l43] := hP41.lendN _ hT47
 refine gx_nil ?_
 refine gx_thenN ?_
 refine hK40 _ _ ?_
 refine gx_seq (fun K48 hK49 => ?_)
 refine gx_region ?_
 refine gx_k (.slice A0 p0.length c0) w45 (gx_k (.slice A8 l7.length c9) w45 ?_)
 have hP50 : St _ _ w45 ([] ++ [rowE .u8 23 A8 c9 l43]) := hS46
 obtain ⟨l52, hc51, hF⟩ := bind_in hF
 try dsimp only at hF
 refine gx_call (pSpread_R l52 w45) (by kernel_rfl) (by rw [← ((hl26.symm.trans hl35.symm).trans hl44.symm)] <;> kernel_rfl) (pSpread_ok N p0 l43 A0 c0 A8 c9 _ hc51 w45 (hP50.vwA hv0) (hP50.vwB 0 rfl)) ?_
 rintro _ w55 ⟨A53, c54, rfl, hT57⟩
 have hS56 : St _ _ w55 [rowE .u8 23 A8 c9 l43, rowE .u8 23 A53 c54 l52] := hS46.take _ hT57
 refine gx_k (.slice A53 l52.length c54) w55 ?_
 refine gx_nil ?_
 refine gx_thenN ?_
 refine hK49 _ _ ?_
 refine gx_ret ?_
 obtain rfl := Option.some.inj hF
 exact gx_fin (.slice A53 l52.length c54) (by kernel_rfl) (by kernel_rfl) ⟨_, rfl, A53, c54, rfl, (hS56.pick [1] rfl rfl)⟩

def pNeutral (N : Nat) (p0 : List Int) (p1 : Int) (p2 : Int) (p3 : Int) : Option (List Int) :=
 ((pDense N p0).bind fun l7 => ((pSideOf N p1).bind fun x17 => ((pEdge N p2).bind fun x23 => ((pEdge N p3).bind fun x29 => ((pNeut N l7 x17 x23 x29).bind fun l35 => ((pSpread N p0 l35).bind fun l44 => some l44))))))

set_option linter.unusedVariables false in
def pNeutral_R (r : List Int) (w0 : World) (v : Value) (w : World) : Prop := ∃ (A0' : Option Addr) (c0' : Nat), v = .slice A0' r.length c0' ∧ St [] w0 w [rowE .u8 23 A0' c0' r]

set_option maxRecDepth 100000 in
set_option maxHeartbeats 4000000 in
theorem pNeutral_ok (N : Nat) (p0 : List Int) (p1 : Int) (p2 : Int) (p3 : Int) (A0 : Option Addr) (c0 : Nat) (r : List Int) (hF : pNeutral N p0 p1 p2 p3 = some r) (w0 : World) (hv0 : Vw [] .u8 w0 A0 c0 p0) :
  Calls Try.prog 21 #[.slice A0 p0.length c0, .int .u8 p1, .int .u8 p2, .int .u8 p3] w0 fun e w => ∃ v, e = .returned v ∧ pNeutral_R r w0 v w := by
 have hS0 := St.start w0
 unfold pNeutral at hF
 refine calls_of Try.func21 rfl ⟨((.slice A0 p0.length c0) :: (.int .u8 p1) :: (.int .u8 p2) :: (.int .u8 p3) :: un 19 ([])).toArray, []⟩ (by kernel_rfl) ?_
 refine gx_seq (fun K1 hK2 => ?_)
 refine gx_region ?_
 refine gx_k (.slice none 0 0) w0 ?_
 refine gx_nil ?_
 refine gx_thenN ?_
 refine hK2 _ _ ?_
 refine gx_seq (fun K3 hK4 => ?_)
 refine gx_region ?_
 refine gx_k (.slice A0 p0.length c0) w0 ?_
 have hP5 : St _ _ w0 ([] ++ []) := hS0
 obtain ⟨l7, hc6, hF⟩ := bind_in hF
 try dsimp only at hF
 refine gx_c (pDense_R l7 w0) (pDense_ok N p0 A0 c0 _ hc6 w0 (hP5.vwA hv0)) ?_
 rintro _ w10 ⟨A8, c9, rfl, hT12⟩
 have hS11 : St _ _ w10 [rowE .u8 23 A8 c9 l7] := hS0.take _ hT12
 refine gx_k (.slice A8 l7.length c9) w10 ?_
 refine gx_nil ?_
 refine gx_thenN ?_
 refine hK4 _ _ ?_
 refine gx_seq (fun K13 hK14 => ?_)
 refine gx_region ?_
 refine gx_k (.slice A8 l7.length c9) w10 (gx_k (.int .u8 p1) w10 ?_)
 have hP15 : St _ _ w10 ([] ++ [rowE .u8 23 A8 c9 l7]) := hS11
 obtain ⟨x17, hc16, hF⟩ := bind_in hF
 try dsimp only at hF
 refine gx_c (pSideOf_R x17 w10) (pSideOf_ok N p1 _ hc16 w10 ) ?_
 rintro _ w18 ⟨rfl, hT20⟩
 have hS19 : St _ _ w18 [rowE .u8 23 A8 c9 l7] := hS11.take _ hT20
 refine gx_k (.int .u8 p2) w18 ?_
 have hP21 : St _ _ w18 ([] ++ [rowE .u8 23 A8 c9 l7]) := hS19
 obtain ⟨x23, hc22, hF⟩ := bind_in hF
 try dsimp only at hF
 refine gx_c (pEdge_R x23 w18) (pEdge_ok N p2 _ hc22 w18 ) ?_
 rintro _ w24 ⟨rfl, hT26⟩
 have hS25 : St _ _ w24 [rowE .u8 23 A8 c9 l7] := hS19.take _ hT26
 refine gx_k (.int .u8 p3) w24 ?_
 have hP27 : St _ _ w24 ([] ++ [rowE .u8 23 A8 c9 l7]) := hS25
 obtain ⟨x29, hc28, hF⟩ := bind_in hF
 try dsimp only at hF
 refine gx_c (pEdge_R x29 w24) (pEdge_ok N p3 _ hc28 w24 ) ?_
 rintro _ w30 ⟨rfl, hT32⟩
 have hS31 : St _ _ w30 [rowE .u8 23 A8 c9 l7] := hS25.take _ hT32
 have hP33 : St _ _ w30 ([rowE .u8 23 A8 c9 l7] ++ []) := hS31
 obtain ⟨l35, hc34, hF⟩ := bind_in hF
 try dsimp only at hF
 refine gx_c (pNeut_R l7 x17 x23 x29 A8 c9 l35 w30) (pNeut_ok N l7 x17 x23 x29 A8 c9 _ hc34 w30 hP33.part) ?_
 rintro _ w37 ⟨rfl, hT39, hl36⟩
 have hS38 : St _ _ w37 [rowE .u8 23 A8 c9 l35] := hP33.lendN _ hT39
 refine gx_nil ?_
 refine gx_thenN ?_
 refine hK14 _ _ ?_
 refine gx_seq (fun K40 hK41 => ?_)
 refine gx_region ?_
 refine gx_k (.slice A0 p0.length c0) w37 (gx_k (.slice A8 l7.length c9) w37 ?_)
 have hP42 : St _ _ w37 ([] ++ [rowE .u8 23 A8 c9 l35]) := hS38
 obtain ⟨l44, hc43, hF⟩ := bind_in hF
 try dsimp only at hF
 refine gx_call (pSpread_R l44 w37) (by kernel_rfl) (by rw [← hl36.symm] <;> kernel_rfl) (pSpread_ok N p0 l35 A0 c0 A8 c9 _ hc43 w37 (hP42.vwA hv0) (hP42.vwB 0 rfl)) ?_
 rintro _ w47 ⟨A45, c46, rfl, hT49⟩
 have hS48 : St _ _ w47 [rowE .u8 23 A8 c9 l35, rowE .u8 23 A45 c46 l44] := hS38.take _ hT49
 refine gx_k (.slice A45 l44.length c46) w47 ?_
 refine gx_nil ?_
 refine gx_thenN ?_
 refine hK41 _ _ ?_
 refine gx_ret ?_
 obtain rfl := Option.some.inj hF
 exact gx_fin (.slice A45 l44.length c46) (by kernel_rfl) (by kernel_rfl) ⟨_, rfl, A45, c46, rfl, (hS48.pick [1] rfl rfl)⟩

def pLvl_L1 (N : Nat) (p0 : List Int) (p1 : Int) : Nat → (List Int) → Int → Option (List Int)
 | 0, _, _ => none
 | k27+1, l25, x26 => (if x26 < ((p0.length : Nat) : Int) then ((ix p0 x26).bind fun x38 => ((pAbove N x38 p1).bind fun x42 => ((ix l25 x26).bind fun _x46 => ((setx l25 x26 (IntKind.u8.wrap (p1 + x42))).bind fun l50 => pLvl_L1 N p0 p1 k27 l50 (IntKind.i64.wrap (x26 + 1)))))) else some (l25))
def pLvl (N : Nat) (p0 : List Int) (p1 : Int) : Option (List Int) :=
 ((mkx ((p0.length : Nat) : Int)).bind fun l5 => ((pLvl_L1 N p0 p1 N l5 0 : Option (List Int)).bind fun l15 => some l15))

set_option linter.unusedVariables false in
def pLvl_R (r : List Int) (w0 : World) (v : Value) (w : World) : Prop := ∃ (A0' : Option Addr) (c0' : Nat), v = .slice A0' r.length c0' ∧ St [] w0 w [rowE .u8 5 A0' c0' r]

set_option maxRecDepth 100000 in
set_option maxHeartbeats 4000000 in
theorem pLvl_ok (N : Nat) (p0 : List Int) (p1 : Int) (A0 : Option Addr) (c0 : Nat) (r : List Int) (hF : pLvl N p0 p1 = some r) (w0 : World) (hv0 : Vw [] .u8 w0 A0 c0 p0) :
  Calls Try.prog 23 #[.slice A0 p0.length c0, .int .u8 p1] w0 fun e w => ∃ v, e = .returned v ∧ pLvl_R r w0 v w := by
 have hS0 := St.start w0
 unfold pLvl at hF
 refine calls_of Try.func23 rfl ⟨((.slice A0 p0.length c0) :: (.int .u8 p1) :: un 26 ([])).toArray, []⟩ (by kernel_rfl) ?_
 refine gx_seq (fun K1 hK2 => ?_)
 refine gx_region ?_
 refine gx_k (.slice none 0 0) w0 ?_
 refine gx_nil ?_
 refine gx_thenN ?_
 refine hK2 _ _ ?_
 refine gx_seq (fun K3 hK4 => ?_)
 refine gx_region ?_
 refine gx_k (.slice A0 p0.length c0) w0 (gx_k (.int .i64 ((p0.length : Nat) : Int)) w0 ?_)
 obtain ⟨l5, hm6, hF⟩ := bind_in hF
 refine gx_r (st_make (T := 5) (k := .u8) (by_ := 1) rfl (by kernel_rfl) (by kernel_rfl) (by kernel_rfl) (by kernel_rfl) (by kernel_rfl) hS0 hm6) ?_
 rintro _ w7 ⟨A9, c10, rfl, hS8⟩
 have hS8 : St _ _ w7 [rowE .u8 5 A9 c10 l5] := hS8
 refine gx_k (.slice A9 l5.length c10) w7 ?_
 refine gx_nil ?_
 refine gx_thenN ?_
 refine hK4 _ _ ?_
 obtain ⟨c16, hE17, hO18⟩ := bind_in hF
 refine gx_cut (fun a w => ∃ (l15 : List Int), selfA (fun u13 => ⟨((u13 0) :: (.int .u8 p1) :: undef :: undef :: (.slice none 0 0) :: (.slice A9 l5.length c10) :: dd u13 6 3 ((.int .i64 ((p0.length : Nat) : Int)) :: dd u13 10 17 (undef :: []))).toArray, []⟩) a ∧ l15 = c16 ∧ St [] w0 w [rowE .u8 5 A9 c10 l15] ∧ l5.length = l15.length) ?_ ?_
 ·refine gx_seq (fun K19 hK20 => ?_)
  refine gx_region ?_
  refine gx_k (.slice A0 p0.length c0) w7 (gx_k (.int .i64 ((p0.length : Nat) : Int)) w7 (gx_k (.int .i64 0) w7 ?_))
  refine gx_nil ?_
  refine gx_thenN ?_
  refine hK20 _ _ ?_
  refine gx_block ?_
  refine gx_loop (fun k a w => ∃ (l25 : List Int) (x26 : Int), selfA (fun u23 => ⟨((u23 0) :: (.int .u8 p1) :: undef :: undef :: (.slice none 0 0) :: (.slice A9 l5.length c10) :: dd u23 6 3 ((.int .i64 ((p0.length : Nat) : Int)) :: (u23 10) :: (.slice A0 p0.length c0) :: (.int .i64 ((p0.length : Nat) : Int)) :: (.int .i64 x26) :: dd u23 14 13 (undef :: []))).toArray, []⟩) a ∧ pLvl_L1 N p0 p1 k l25 x26 = some c16 ∧ St [] w0 w [rowE .u8 5 A9 c10 l25] ∧ l5.length = l25.length) N ?_ ?_
  ·exact ⟨l5, 0, selfA_i (by kernel_rfl), hE17, hS8, rfl⟩
  ·rintro k27 _ w21 ⟨l25, x26, hq54, hL28, hS22, hn24⟩
   obtain ⟨u23, rfl⟩ := selfA_u hq54
   cases k27 with
   | zero => cases hL28
   | succ k27 =>
    first | rw [pLvl_L1] at hL28 | unfold pLvl_L1 at hL28
    refine gx_seq (fun K29 hK30 => ?_)
    refine gx_region ?_
    rcases if_in hL28 with ⟨h31, hL28⟩ | ⟨h31, hL28⟩
    ·refine gx_v (.bool true) w21 (run_boolE (decide_eq_true h31) (by kernel_rfl)) ?_
     refine gx_nil ?_
     refine gx_thenN ?_
     refine hK30 _ _ ?_
     refine gx_seq (fun K32 hK33 => ?_)
     refine gx_yes (by kernel_rfl) ?_
     refine gx_pass ?_
     refine gx_thenN ?_
     refine hK33 _ _ ?_
     refine gx_seq (fun K34 hK35 => ?_)
     refine gx_block ?_
     refine gx_seq (fun K36 hK37 => ?_)
     refine gx_region ?_
     refine gx_k (.int .i64 x26) w21 ?_
     obtain ⟨x38, hx39, hL28⟩ := bind_in hL28
     refine gx_v (.pointer (Option.map (fun (p : Addr) => p.add (Int.toNat x26 * 1)) A0)) w21 (run_ixaddr (E := 23) (s := 1) (k := .i64) (c := c0) rfl (by kernel_rfl) (by kernel_rfl) (by kernel_rfl) (fun _ => by kernel_rfl) (ix_in hx39).1 (ix_in hx39).2.1 (num_nil (hS22.view hv0))) ?_
     refine gx_v (.int .u8 x38) w21 (run_loadix rfl (by kernel_rfl) (fun _ => by kernel_rfl) (hS22.view hv0) hx39) ?_
     refine gx_k (.int .i64 x26) w21 (gx_k (.int .u8 x38) w21 ?_)
     refine gx_nil ?_
     refine gx_thenN ?_
     refine hK37 _ _ ?_
     refine gx_region ?_
     refine gx_k (.slice A9 l5.length c10) w21 (gx_k (.int .i64 x26) w21 (gx_k (.int .u8 p1) w21 (gx_k (.int .u8 x38) w21 (gx_k (.int .u8 p1) w21 ?_))))
     have hP40 : St _ _ w21 ([] ++ [rowE .u8 5 A9 c10 l25]) := hS22
     obtain ⟨x42, hc41, hL28⟩ := bind_in hL28
     try dsimp only at hL28
     refine gx_c (pAbove_R x42 w21) (pAbove_ok N x38 p1 _ hc41 w21 ) ?_
     rintro _ w43 ⟨rfl, hT45⟩
     have hS44 : St _ _ w43 [rowE .u8 5 A9 c10 l25] := hS22.take _ hT45
     refine gx_k (.int .u8 (IntKind.u8.wrap (p1 + x42))) w43 ?_
     obtain ⟨x46, hx47, hL28⟩ := bind_in hL28
     refine gx_v (.pointer (Option.map (fun (p : Addr) => p.add (Int.toNat x26 * 1)) A9)) w43 (run_ixaddr (E := 5) (s := 1) (k := .i64) (c := c10) rfl (by kernel_rfl) (by kernel_rfl) (by kernel_rfl) (fun _ => by kernel_rfl) (ix_in hx47).1 (lt_len hn24 (ix_in hx47).2.1) (nil_len hn24 (num_nil (hS44.row 0 rfl).1))) ?_
     obtain ⟨l50, hx51, hL28⟩ := bind_in hL28
     refine gx_s (st_storeix rfl (by kernel_rfl) (by kernel_rfl) (fun _ => by kernel_rfl) hS44 0 rfl hx51) ?_
     rintro w48 hS49
     have hS49 : St _ _ w48 [rowE .u8 5 A9 c10 l50] := hS49
     refine gx_nil ?_
     refine gx_blkN ?_
     refine gx_thenN ?_
     refine hK35 _ _ ?_
     refine gx_region ?_
     refine gx_k (.int .i64 (IntKind.i64.wrap (x26 + 1))) w48 (gx_k (.int .i64 (IntKind.i64.wrap (x26 + 1))) w48 ?_)
     refine gx_nil ?_
     refine gx_thenN ?_
     exact ⟨k27, Nat.lt_succ_self k27, l50, (IntKind.i64.wrap (x26 + 1)), selfA_i (by kernel_rfl), hL28, hS49, (hn24.trans (setx_len hx51).symm)⟩
    ·refine gx_v (.bool false) w21 (run_boolE (decide_eq_false h31) (by kernel_rfl)) ?_
     refine gx_nil ?_
     refine gx_thenN ?_
     refine hK30 _ _ ?_
     refine gx_seq (fun K52 hK53 => ?_)
     refine gx_no (by kernel_rfl) ?_
     refine gx_exit ?_
     refine gx_thenE ?_
     refine gx_thenE ?_
     refine gx_blkE ?_
     refine gx_thenN ?_
     exact ⟨l25, selfA_i (by kernel_rfl), (Option.some.inj hL28), hS22, hn24⟩
 ·rintro _ w11 ⟨l15, hq57, rfl, hS12, hn14⟩
  obtain ⟨u13, rfl⟩ := selfA_u hq57
  try dsimp only at hO18
  refine gx_seq (fun K55 hK56 => ?_)
  refine gx_region ?_
  refine gx_k (.slice A9 l5.length c10) w11 (gx_k (.slice A9 l5.length c10) w11 ?_)
  refine gx_nil ?_
  refine gx_thenN ?_
  refine hK56 _ _ ?_
  refine gx_ret ?_
  obtain rfl := Option.some.inj hO18
  exact gx_fin (.slice A9 l5.length c10) (by kernel_rfl) (by kernel_rfl) ⟨_, rfl, A9, c10, by rw [← hn14] <;> kernel_rfl, hS12⟩

end Go.Proofs.Ytdpcaidhpccaiaa

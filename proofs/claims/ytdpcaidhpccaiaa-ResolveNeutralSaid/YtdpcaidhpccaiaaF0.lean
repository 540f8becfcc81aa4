/-
  The statements, walked.
-/
import Derived.Test.YtdpcaidhpccaiaaP2
namespace Go.Proofs.Ytdpcaidhpccaiaa
open Go Go.RowKit
set_option linter.unusedVariables false

def kIs_L1 (N : Nat) (p0 : List Int) (p1 : List Int) : Nat → Int → Option (Ctl (Unit) (Bool))
 | 0, _ => none
 | k22+1, x21 => (if x21 < ((p0.length : Nat) : Int) then ((ix p0 x21).bind fun x35 => ((ix p1 x21).bind fun x37 => (if x35 ≠ x37 then some (Ctl.ret false) else kIs_L1 N p0 p1 k22 (IntKind.i64.wrap (x21 + 1))))) else some (Ctl.go ()))
def kIs (N : Nat) (p0 : List Int) (p1 : List Int) : Option (Bool) :=
 (if ((p0.length : Nat) : Int) ≠ ((p1.length : Nat) : Int) then some false else ((kIs_L1 N p0 p1 N 0 : Option (Ctl (Unit) (Bool))).bind fun | Ctl.go () => some true | Ctl.ret r => some r))

set_option linter.unusedVariables false in
def kIs_R (r : Bool) (w0 : World) (v : Value) (w : World) : Prop := v = .bool r ∧ St [] w0 w []

set_option maxRecDepth 100000 in
set_option maxHeartbeats 4000000 in
theorem kIs_ok (N : Nat) (p0 : List Int) (p1 : List Int) (A0 : Option Addr) (c0 : Nat) (A1 : Option Addr) (c1 : Nat) (r : Bool) (hF : kIs N p0 p1 = some r) (w0 : World) (hv0 : Vw [] .u8 w0 A0 c0 p0) (hv1 : Vw [] .u8 w0 A1 c1 p1) :
  Calls Try.prog 17 #[.slice A0 p0.length c0, .slice A1 p1.length c1] w0 fun e w => ∃ v, e = .returned v ∧ kIs_R r w0 v w := by
 have hS0 := St.start w0
 unfold kIs at hF
 refine calls_of Try.func17 rfl ⟨((.slice A0 p0.length c0) :: (.slice A1 p1.length c1) :: un 24 ([])).toArray, []⟩ (by kernel_rfl) ?_
 refine gx_seq (fun K1 hK2 => ?_)
 refine gx_region ?_
 refine gx_k (.bool false) w0 ?_
 refine gx_nil ?_
 refine gx_thenN ?_
 refine hK2 _ _ ?_
 refine gx_seq (fun K3 hK4 => ?_)
 refine gx_seq (fun K5 hK6 => ?_)
 refine gx_region ?_
 refine gx_k (.slice A0 p0.length c0) w0 (gx_k (.int .i64 ((p0.length : Nat) : Int)) w0 (gx_k (.slice A1 p1.length c1) w0 (gx_k (.int .i64 ((p1.length : Nat) : Int)) w0 ?_)))
 rcases if_in hF with ⟨h7, hF⟩ | ⟨h7, hF⟩
 ·refine gx_v (.bool true) w0 (run_boolE (ne_yes h7) (by kernel_rfl)) ?_
  refine gx_nil ?_
  refine gx_thenN ?_
  refine hK6 _ _ ?_
  refine gx_yes (by kernel_rfl) ?_
  refine gx_seq (fun K8 hK9 => ?_)
  refine gx_region ?_
  refine gx_k (.bool false) w0 ?_
  refine gx_nil ?_
  refine gx_thenN ?_
  refine hK9 _ _ ?_
  refine gx_ret ?_
  refine gx_thenR ?_
  obtain rfl := Option.some.inj hF
  exact gx_fin (.bool false) (by kernel_rfl) (by kernel_rfl) ⟨_, rfl, rfl, hS0⟩
 ·refine gx_v (.bool false) w0 (run_boolE (ne_no h7) (by kernel_rfl)) ?_
  refine gx_nil ?_
  refine gx_thenN ?_
  refine hK6 _ _ ?_
  refine gx_no (by kernel_rfl) ?_
  refine gx_pass ?_
  refine gx_thenN ?_
  refine hK4 _ _ ?_
  obtain ⟨c13, hE14, hO15⟩ := bind_in hF
  refine gx_cut (fun a w => selfA (fun u12 => ⟨(dd u12 0 2 (undef :: undef :: dd u12 4 3 ((.int .i64 ((p0.length : Nat) : Int)) :: (u12 8) :: (.int .i64 ((p1.length : Nat) : Int)) :: (.bool false) :: dd u12 11 15 ([])))).toArray, []⟩) a ∧ Ctl.go () = c13 ∧ St [] w0 w []) ?_ ?_
  ·refine gx_seq (fun K16 hK17 => ?_)
   refine gx_region ?_
   refine gx_k (.int .i64 0) w0 ?_
   refine gx_nil ?_
   refine gx_thenN ?_
   refine hK17 _ _ ?_
   refine gx_block ?_
   refine gx_loop (fun k a w => ∃ (x21 : Int), selfA (fun u20 => ⟨((.slice A0 p0.length c0) :: (.slice A1 p1.length c1) :: undef :: undef :: (u20 4) :: (.int .i64 x21) :: (u20 6) :: (.int .i64 ((p0.length : Nat) : Int)) :: (u20 8) :: (.int .i64 ((p1.length : Nat) : Int)) :: (.bool false) :: dd u20 11 15 ([])).toArray, []⟩) a ∧ kIs_L1 N p0 p1 k x21 = some c13 ∧ St [] w0 w []) N ?_ ?_
   ·exact ⟨0, selfA_i (by kernel_rfl), hE14, hS0⟩
   ·rintro k22 _ w18 ⟨x21, hq42, hL23, hS19⟩
    obtain ⟨u20, rfl⟩ := selfA_u hq42
    cases k22 with
    | zero => cases hL23
    | succ k22 =>
     first | rw [kIs_L1] at hL23 | unfold kIs_L1 at hL23
     refine gx_seq (fun K24 hK25 => ?_)
     refine gx_seq (fun K26 hK27 => ?_)
     refine gx_region ?_
     refine gx_k (.int .i64 x21) w18 (gx_k (.slice A0 p0.length c0) w18 (gx_k (.int .i64 ((p0.length : Nat) : Int)) w18 ?_))
     rcases if_in hL23 with ⟨h28, hL23⟩ | ⟨h28, hL23⟩
     ·refine gx_v (.bool true) w18 (run_boolE (decide_eq_true h28) (by kernel_rfl)) ?_
      refine gx_nil ?_
      refine gx_thenN ?_
      refine hK27 _ _ ?_
      refine gx_yes (by kernel_rfl) ?_
      refine gx_pass ?_
      refine gx_thenN ?_
      refine hK25 _ _ ?_
      refine gx_seq (fun K29 hK30 => ?_)
      refine gx_block ?_
      refine gx_seq (fun K31 hK32 => ?_)
      refine gd_start (fun w => St [] w0 w []) 9 #[false, false, false, false, false, false, false, false, false] (by kernel_rfl) (by kernel_rfl) ?_
      have hS34 := hS19.drew
      generalize w18.drew = w33 at hS34 ⊢
      refine gd1 0 { dst := some 17, op := _, type := _, pos := _, after := _, guard := _ } (.slice A0 p0.length c0) rfl hS34 (fun w hSw => by kernel_rfl) ?_
      refine gd1 1 { dst := some 18, op := _, type := _, pos := _, after := _, guard := _ } (.int .i64 x21) rfl hS34 (fun w hSw => by kernel_rfl) ?_
      obtain ⟨x35, hx36, hL23⟩ := bind_in hL23
      refine gd1 2 { dst := some 19, op := _, type := _, pos := _, after := _, guard := _ } (.pointer (Option.map (fun (p : Addr) => p.add (Int.toNat x21 * 1)) A0)) rfl hS34 (fun w hSw => run_ixaddr (E := 23) (s := 1) (k := .i64) (c := c0) rfl (by kernel_rfl) (by kernel_rfl) (by kernel_rfl) (fun _ => by kernel_rfl) (ix_in hx36).1 (ix_in hx36).2.1 (num_nil (hS34.view hv0))) ?_
      refine gd1 3 { dst := some 20, op := _, type := _, pos := _, after := _, guard := _ } (.int .u8 x35) rfl hS34 (fun w hSw => run_loadix rfl (by kernel_rfl) (fun _ => by kernel_rfl) (hSw.view hv0) hx36) ?_
      refine gd1 4 { dst := some 21, op := _, type := _, pos := _, after := _, guard := _ } (.slice A1 p1.length c1) rfl hS34 (fun w hSw => by kernel_rfl) ?_
      refine gd1 5 { dst := some 22, op := _, type := _, pos := _, after := _, guard := _ } (.int .i64 x21) rfl hS34 (fun w hSw => by kernel_rfl) ?_
      obtain ⟨x37, hx38, hL23⟩ := bind_in hL23
      refine gd1 6 { dst := some 23, op := _, type := _, pos := _, after := _, guard := _ } (.pointer (Option.map (fun (p : Addr) => p.add (Int.toNat x21 * 1)) A1)) rfl hS34 (fun w hSw => run_ixaddr (E := 23) (s := 1) (k := .i64) (c := c1) rfl (by kernel_rfl) (by kernel_rfl) (by kernel_rfl) (fun _ => by kernel_rfl) (ix_in hx38).1 (ix_in hx38).2.1 (num_nil (hS34.view hv1))) ?_
      refine gd1 7 { dst := some 24, op := _, type := _, pos := _, after := _, guard := _ } (.int .u8 x37) rfl hS34 (fun w hSw => run_loadix rfl (by kernel_rfl) (fun _ => by kernel_rfl) (hSw.view hv1) hx38) ?_
      rcases if_in hL23 with ⟨h39, hL23⟩ | ⟨h39, hL23⟩
      ·refine gd1 8 { dst := some 25, op := _, type := _, pos := _, after := _, guard := _ } (.bool true) rfl hS34 (fun w hSw => run_boolE (ne_yes h39) (by kernel_rfl)) ?_
       refine gd_done (by kernel_rfl) ?_
       refine gx_thenN ?_
       refine hK32 _ _ ?_
       refine gx_yes (by kernel_rfl) ?_
       refine gx_seq (fun K40 hK41 => ?_)
       refine gx_region ?_
       refine gx_k (.bool false) w33 ?_
       refine gx_nil ?_
       refine gx_thenN ?_
       refine hK41 _ _ ?_
       refine gx_ret ?_
       refine gx_blkR ?_
       refine gx_thenR ?_
       refine gx_thenR ?_
       refine gx_blkR ?_
       refine gx_thenR ?_
       obtain rfl := Option.some.inj hL23
       try dsimp only at hO15
       obtain rfl := Option.some.inj hO15
       exact gx_fin (.bool false) (by kernel_rfl) (by kernel_rfl) ⟨_, rfl, rfl, hS34⟩
      ·refine gd1 8 { dst := some 25, op := _, type := _, pos := _, after := _, guard := _ } (.bool false) rfl hS34 (fun w hSw => run_boolE (ne_no h39) (by kernel_rfl)) ?_
       refine gd_done (by kernel_rfl) ?_
       refine gx_thenN ?_
       refine hK32 _ _ ?_
       refine gx_no (by kernel_rfl) ?_
       refine gx_pass ?_
       refine gx_blkN ?_
       refine gx_thenN ?_
       refine hK30 _ _ ?_
       refine gx_region ?_
       refine gx_k (.int .i64 x21) w33 (gx_k (.int .i64 (IntKind.i64.wrap (x21 + 1))) w33 (gx_k (.int .i64 (IntKind.i64.wrap (x21 + 1))) w33 ?_))
       refine gx_nil ?_
       refine gx_thenN ?_
       exact ⟨k22, Nat.lt_succ_self k22, (IntKind.i64.wrap (x21 + 1)), selfA_i (by kernel_rfl), hL23, hS34⟩
     ·refine gx_v (.bool false) w18 (run_boolE (decide_eq_false h28) (by kernel_rfl)) ?_
      refine gx_nil ?_
      refine gx_thenN ?_
      refine hK27 _ _ ?_
      refine gx_no (by kernel_rfl) ?_
      refine gx_exit ?_
      refine gx_thenE ?_
      refine gx_thenE ?_
      refine gx_blkE ?_
      refine gx_thenN ?_
      exact ⟨selfA_i (by kernel_rfl), (Option.some.inj hL23), hS19⟩
  ·rintro _ w10 ⟨hq45, rfl, hS11⟩
   obtain ⟨u12, rfl⟩ := selfA_u hq45
   try dsimp only at hO15
   refine gx_seq (fun K43 hK44 => ?_)
   refine gx_region ?_
   refine gx_k (.bool true) w10 ?_
   refine gx_nil ?_
   refine gx_thenN ?_
   refine hK44 _ _ ?_
   refine gx_ret ?_
   obtain rfl := Option.some.inj hO15
   exact gx_fin (.bool true) (by kernel_rfl) (by kernel_rfl) ⟨_, rfl, rfl, hS11⟩

def kOwn (_N : Nat) (p0 : List Int) : Option (List Int) :=
 ((apx ([]) p0).bind fun l8 => some l8)

set_option linter.unusedVariables false in
def kOwn_R (r : List Int) (w0 : World) (v : Value) (w : World) : Prop := ∃ (A0' : Option Addr) (c0' : Nat), v = .slice A0' r.length c0' ∧ St [] w0 w [rowE .u8 23 A0' c0' r]

set_option maxRecDepth 100000 in
set_option maxHeartbeats 4000000 in
theorem kOwn_ok (N : Nat) (p0 : List Int) (A0 : Option Addr) (c0 : Nat) (r : List Int) (hF : kOwn N p0 = some r) (w0 : World) (hv0 : Vw [] .u8 w0 A0 c0 p0) :
  Calls Try.prog 16 #[.slice A0 p0.length c0] w0 fun e w => ∃ v, e = .returned v ∧ kOwn_R r w0 v w := by
 have hS0 := St.start w0
 unfold kOwn at hF
 refine calls_of Try.func16 rfl ⟨((.slice A0 p0.length c0) :: un 7 ([])).toArray, []⟩ (by kernel_rfl) ?_
 refine gx_seq (fun K1 hK2 => ?_)
 refine gx_region ?_
 refine gx_k (.slice none 0 0) w0 ?_
 refine gx_nil ?_
 refine gx_thenN ?_
 refine hK2 _ _ ?_
 refine gx_seq (fun K3 hK4 => ?_)
 refine gx_region ?_
 refine gx_k (.slice none 0 0) w0 ?_
 refine gx_nil ?_
 refine gx_thenN ?_
 refine hK4 _ _ ?_
 refine gx_seq (fun K5 hK6 => ?_)
 refine gx_region ?_
 refine gx_k (.slice none 0 0) w0 (gx_k (.slice A0 p0.length c0) w0 ?_)
 have hS7 : St _ _ w0 [rowE .u8 23 none 0 ([])] := hS0.nilrow .u8 23
 obtain ⟨l8, ha9, hF⟩ := bind_in hF
 obtain ⟨ha9, hq10⟩ := apx_in ha9
 refine gx_r (st_append rfl (by kernel_rfl) (by kernel_rfl) hS7 0 rfl (hS7.view hv0) hv0.nn ha9 (by kernel_rfl) (by kernel_rfl)) ?_
 rintro _ w13 ⟨A11, c12, rfl, hS14⟩
 rw [← hq10] at hS14 ⊢
 have hS14 : St _ _ w13 [rowE .u8 23 A11 c12 l8] := hS14
 refine gx_k (.slice A11 l8.length c12) w13 ?_
 refine gx_nil ?_
 refine gx_thenN ?_
 refine hK6 _ _ ?_
 refine gx_seq (fun K15 hK16 => ?_)
 refine gx_region ?_
 refine gx_k (.slice A11 l8.length c12) w13 (gx_k (.slice A11 l8.length c12) w13 ?_)
 refine gx_nil ?_
 refine gx_thenN ?_
 refine hK16 _ _ ?_
 refine gx_ret ?_
 obtain rfl := Option.some.inj hF
 exact gx_fin (.slice A11 l8.length c12) (by kernel_rfl) (by kernel_rfl) ⟨_, rfl, A11, c12, rfl, hS14⟩

def kArabic (N : Nat) : Option (Bool) :=
 ((pWeak N ([3, 9, 4, 8, 4]) (1 : Int)).bind fun l9 => ((kIs N l9 ([2, 2, 7, 7, 7])).bind fun b19 => some b19))

set_option linter.unusedVariables false in
def kArabic_R (r : Bool) (w0 : World) (v : Value) (w : World) : Prop := v = .bool r ∧ St [] w0 w []

set_option maxRecDepth 100000 in
set_option maxHeartbeats 4000000 in
theorem kArabic_ok (N : Nat)  (r : Bool) (hF : kArabic N = some r) (w0 : World)  :
  Calls Try.prog 15 #[] w0 fun e w => ∃ v, e = .returned v ∧ kArabic_R r w0 v w := by
 have hS0 := St.start w0
 unfold kArabic at hF
 refine calls_of Try.func15 rfl ⟨(un 5 ([])).toArray, []⟩ (by kernel_rfl) ?_
 refine gx_seq (fun K1 hK2 => ?_)
 refine gx_region ?_
 refine gx_k (.bool false) w0 ?_
 refine gx_nil ?_
 refine gx_thenN ?_
 refine hK2 _ _ ?_
 refine gx_seq (fun K3 hK4 => ?_)
 refine gx_region ?_
 refine gx_r (st_made .u8 23 [3, 9, 4, 8, 4] hS0 (by show 5 ≤ 1000000000; decide) (by kernel_rfl)) ?_
 rintro _ w5 ⟨rfl, hS6⟩
 have hS6 : St _ _ w5 [rowE .u8 23 (some ⟨w0.heap.size, 0, none⟩) 5 ([3, 9, 4, 8, 4])] := hS6
 have hP7 : St _ _ w5 ([] ++ [rowE .u8 23 (some ⟨w0.heap.size, 0, none⟩) 5 ([3, 9, 4, 8, 4])]) := hS6
 obtain ⟨l9, hc8, hF⟩ := bind_in hF
 try dsimp only at hF
 refine gx_c (pWeak_R l9 w5) (pWeak_ok N ([3, 9, 4, 8, 4]) (1 : Int) (some ⟨w0.heap.size, 0, none⟩) 5 _ hc8 w5 (hP7.vwB 0 rfl)) ?_
 rintro _ w12 ⟨A10, c11, rfl, hT14⟩
 have hS13 : St _ _ w12 [rowE .u8 23 (some ⟨w0.heap.size, 0, none⟩) 5 ([3, 9, 4, 8, 4]), rowE .u8 23 A10 c11 l9] := hS6.take _ hT14
 refine gx_r (st_made .u8 23 [2, 2, 7, 7, 7] hS13 (by show 5 ≤ 1000000000; decide) (by kernel_rfl)) ?_
 rintro _ w15 ⟨rfl, hS16⟩
 have hS16 : St _ _ w15 [rowE .u8 23 (some ⟨w0.heap.size, 0, none⟩) 5 ([3, 9, 4, 8, 4]), rowE .u8 23 A10 c11 l9, rowE .u8 23 (some ⟨w12.heap.size, 0, none⟩) 5 ([2, 2, 7, 7, 7])] := hS16
 have hP17 : St _ _ w15 ([] ++ [rowE .u8 23 (some ⟨w0.heap.size, 0, none⟩) 5 ([3, 9, 4, 8, 4]), rowE .u8 23 A10 c11 l9, rowE .u8 23 (some ⟨w12.heap.size, 0, none⟩) 5 ([2, 2, 7, 7, 7])]) := hS16
 obtain ⟨b19, hc18, hF⟩ := bind_in hF
 try dsimp only at hF
 refine gx_c (kIs_R b19 w15) (kIs_ok N l9 ([2, 2, 7, 7, 7]) A10 c11 (some ⟨w12.heap.size, 0, none⟩) 5 _ hc18 w15 (hP17.vwB 1 rfl) (hP17.vwB 2 rfl)) ?_
 rintro _ w20 ⟨rfl, hT22⟩
 have hS21 : St _ _ w20 [rowE .u8 23 (some ⟨w0.heap.size, 0, none⟩) 5 ([3, 9, 4, 8, 4]), rowE .u8 23 A10 c11 l9, rowE .u8 23 (some ⟨w12.heap.size, 0, none⟩) 5 ([2, 2, 7, 7, 7])] := hS16.take _ hT22
 refine gx_k (.bool b19) w20 ?_
 refine gx_nil ?_
 refine gx_thenN ?_
 refine hK4 _ _ ?_
 refine gx_ret ?_
 obtain rfl := Option.some.inj hF
 exact gx_fin (.bool b19) (by kernel_rfl) (by kernel_rfl) ⟨_, rfl, rfl, (hS21.pick [] rfl rfl)⟩

def kWorks (N : Nat) : Option (Bool) :=
 ((pNeutral N ([1, 14, 2, 14, 4, 13, 1]) (0 : Int) (1 : Int) (1 : Int)).bind fun l9 => ((kIs N l9 ([1, 1, 2, 2, 4, 1, 1])).bind fun b21 => (match b21 with | true => ((pLvl N l9 (0 : Int)).bind fun l27 => some (((strOfNums l27).toList == (⟨#[0, 0, 1, 1, 2, 0, 0]⟩ : ByteArray).toList))) | false => some false)))

set_option linter.unusedVariables false in
def kWorks_R (r : Bool) (w0 : World) (v : Value) (w : World) : Prop := v = .bool r ∧ St [] w0 w []

set_option maxRecDepth 100000 in
set_option maxHeartbeats 4000000 in
theorem kWorks_ok (N : Nat)  (r : Bool) (hF : kWorks N = some r) (w0 : World)  :
  Calls Try.prog 20 #[] w0 fun e w => ∃ v, e = .returned v ∧ kWorks_R r w0 v w := by
 have hS0 := St.start w0
 unfold kWorks at hF
 refine calls_of Try.func20 rfl ⟨(un 13 ([])).toArray, []⟩ (by kernel_rfl) ?_
 refine gx_seq (fun K1 hK2 => ?_)
 refine gx_region ?_
 refine gx_k (.bool false) w0 ?_
 refine gx_nil ?_
 refine gx_thenN ?_
 refine hK2 _ _ ?_
 refine gx_seq (fun K3 hK4 => ?_)
 refine gx_region ?_
 refine gx_r (st_made .u8 23 [1, 14, 2, 14, 4, 13, 1] hS0 (by show 7 ≤ 1000000000; decide) (by kernel_rfl)) ?_
 rintro _ w5 ⟨rfl, hS6⟩
 have hS6 : St _ _ w5 [rowE .u8 23 (some ⟨w0.heap.size, 0, none⟩) 7 ([1, 14, 2, 14, 4, 13, 1])] := hS6
 have hP7 : St _ _ w5 ([] ++ [rowE .u8 23 (some ⟨w0.heap.size, 0, none⟩) 7 ([1, 14, 2, 14, 4, 13, 1])]) := hS6
 obtain ⟨l9, hc8, hF⟩ := bind_in hF
 try dsimp only at hF
 refine gx_c (pNeutral_R l9 w5) (pNeutral_ok N ([1, 14, 2, 14, 4, 13, 1]) (0 : Int) (1 : Int) (1 : Int) (some ⟨w0.heap.size, 0, none⟩) 7 _ hc8 w5 (hP7.vwB 0 rfl)) ?_
 rintro _ w12 ⟨A10, c11, rfl, hT14⟩
 have hS13 : St _ _ w12 [rowE .u8 23 (some ⟨w0.heap.size, 0, none⟩) 7 ([1, 14, 2, 14, 4, 13, 1]), rowE .u8 23 A10 c11 l9] := hS6.take _ hT14
 refine gx_k (.slice A10 l9.length c11) w12 ?_
 refine gx_nil ?_
 refine gx_thenN ?_
 refine hK4 _ _ ?_
 refine gx_seq (fun K15 hK16 => ?_)
 refine gx_region ?_
 refine gx_k (.slice A10 l9.length c11) w12 ?_
 refine gx_r (st_made .u8 23 [1, 1, 2, 2, 4, 1, 1] hS13 (by show 7 ≤ 1000000000; decide) (by kernel_rfl)) ?_
 rintro _ w17 ⟨rfl, hS18⟩
 have hS18 : St _ _ w17 [rowE .u8 23 (some ⟨w0.heap.size, 0, none⟩) 7 ([1, 14, 2, 14, 4, 13, 1]), rowE .u8 23 A10 c11 l9, rowE .u8 23 (some ⟨w12.heap.size, 0, none⟩) 7 ([1, 1, 2, 2, 4, 1, 1])] := hS18
 have hP19 : St _ _ w17 ([] ++ [rowE .u8 23 (some ⟨w0.heap.size, 0, none⟩) 7 ([1, 14, 2, 14, 4, 13, 1]), rowE .u8 23 A10 c11 l9, rowE .u8 23 (some ⟨w12.heap.size, 0, none⟩) 7 ([1, 1, 2, 2, 4, 1, 1])]) := hS18
 obtain ⟨b21, hc20, hF⟩ := bind_in hF
 try dsimp only at hF
 refine gx_c (kIs_R b21 w17) (kIs_ok N l9 ([1, 1, 2, 2, 4, 1, 1]) A10 c11 (some ⟨w12.heap.size, 0, none⟩) 7 _ hc20 w17 (hP19.vwB 1 rfl) (hP19.vwB 2 rfl)) ?_
 rintro _ w22 ⟨rfl, hT24⟩
 have hS23 : St _ _ w22 [rowE .u8 23 (some ⟨w0.heap.size, 0, none⟩) 7 ([1, 14, 2, 14, 4, 13, 1]), rowE .u8 23 A10 c11 l9, rowE .u8 23 (some ⟨w12.heap.size, 0, none⟩) 7 ([1, 1, 2, 2, 4, 1, 1])] := hS18.take _ hT24
 refine gx_k (.bool b21) w22 ?_
 cases b21 with
 | true =>
  try dsimp only at hF
  refine gx_k (.slice A10 l9.length c11) w22 ?_
  have hP25 : St _ _ w22 ([] ++ [rowE .u8 23 (some ⟨w0.heap.size, 0, none⟩) 7 ([1, 14, 2, 14, 4, 13, 1]), rowE .u8 23 A10 c11 l9, rowE .u8 23 (some ⟨w12.heap.size, 0, none⟩) 7 ([1, 1, 2, 2, 4, 1, 1])]) := hS23
  obtain ⟨l27, hc26, hF⟩ := bind_in hF
  try dsimp only at hF
  refine gx_c (pLvl_R l27 w22) (pLvl_ok N l9 (0 : Int) A10 c11 _ hc26 w22 (hP25.vwB 1 rfl)) ?_
  rintro _ w30 ⟨A28, c29, rfl, hT32⟩
  have hS31 : St _ _ w30 [rowE .u8 23 (some ⟨w0.heap.size, 0, none⟩) 7 ([1, 14, 2, 14, 4, 13, 1]), rowE .u8 23 A10 c11 l9, rowE .u8 23 (some ⟨w12.heap.size, 0, none⟩) 7 ([1, 1, 2, 2, 4, 1, 1]), rowE .u8 5 A28 c29 l27] := hS23.take _ hT32
  refine gx_v (.string (strOfNums l27)) w30 (run_conv rfl (by kernel_rfl) (conv_b _ _ _ (hS31.row 3 rfl).1)) ?_
  refine gx_k (.bool (((strOfNums l27).toList == (⟨#[0, 0, 1, 1, 2, 0, 0]⟩ : ByteArray).toList))) w30 (gx_k (.bool (((strOfNums l27).toList == (⟨#[0, 0, 1, 1, 2, 0, 0]⟩ : ByteArray).toList))) w30 (gx_k (.bool (((strOfNums l27).toList == (⟨#[0, 0, 1, 1, 2, 0, 0]⟩ : ByteArray).toList))) w30 ?_))
  refine gx_nil ?_
  refine gx_thenN ?_
  refine hK16 _ _ ?_
  refine gx_ret ?_
  obtain rfl := Option.some.inj hF
  exact gx_fin (.bool (((strOfNums l27).toList == (⟨#[0, 0, 1, 1, 2, 0, 0]⟩ : ByteArray).toList))) (by kernel_rfl) (by kernel_rfl) ⟨_, rfl, rfl, (hS31.pick [] rfl rfl)⟩
 | false =>
  try dsimp only at hF
  refine gx_o (gx_o (gx_o (gx_o (gx_k (.bool false) w22 (gx_k (.bool false) w22 ?_)))))
  refine gx_nil ?_
  refine gx_thenN ?_
  refine hK16 _ _ ?_
  refine gx_ret ?_
  obtain rfl := Option.some.inj hF
  exact gx_fin (.bool false) (by kernel_rfl) (by kernel_rfl) ⟨_, rfl, rfl, (hS23.pick [] rfl rfl)⟩

def kCleared_L1 (N : Nat) (p0 : List Int) : Nat → (List Int) → Int → Option (List Int)
 | 0, _, _ => none
 | k24+1, l22, x23 => (if x23 < ((p0.length : Nat) : Int) then ((ix p0 x23).bind fun x35 => (((if x35 ≠ 1 then (if x35 ≠ 2 then some (true) else some (false)) else some (false)) : Option (Bool)).bind fun b44 => (((match b44 with | true => (if x35 ≠ 4 then some (true) else some (false)) | false => some (false)) : Option (Bool)).bind fun b54 => (((match b54 with | true => (if x35 ≠ 7 then some (true) else some (false)) | false => some (false)) : Option (Bool)).bind fun b63 => (match b63 with | true => (if x35 ≠ 10 then ((rNeu N x35).bind fun b72 => (match b72 with | true => ((apx l22 ([x35])).bind fun l78 => kCleared_L1 N p0 k24 l78 (IntKind.i64.wrap (x23 + 1))) | false => ((apx l22 ([14])).bind fun l87 => kCleared_L1 N p0 k24 l87 (IntKind.i64.wrap (x23 + 1))))) else ((apx l22 ([x35])).bind fun l96 => kCleared_L1 N p0 k24 l96 (IntKind.i64.wrap (x23 + 1)))) | false => ((apx l22 ([x35])).bind fun l105 => kCleared_L1 N p0 k24 l105 (IntKind.i64.wrap (x23 + 1)))))))) else some (l22))
def kCleared (N : Nat) (p0 : List Int) : Option (List Int) :=
 ((kCleared_L1 N p0 N ([]) 0 : Option (List Int)).bind fun l10 => some l10)

set_option linter.unusedVariables false in
def kCleared_R (r : List Int) (w0 : World) (v : Value) (w : World) : Prop := ∃ (A0' : Option Addr) (c0' : Nat), v = .slice A0' r.length c0' ∧ St [] w0 w [rowE .u8 23 A0' c0' r]

set_option maxRecDepth 100000 in
set_option maxHeartbeats 4000000 in
theorem kCleared_ok (N : Nat) (p0 : List Int) (A0 : Option Addr) (c0 : Nat) (r : List Int) (hF : kCleared N p0 = some r) (w0 : World) (hv0 : Vw [] .u8 w0 A0 c0 p0) :
  Calls Try.prog 25 #[.slice A0 p0.length c0] w0 fun e w => ∃ v, e = .returned v ∧ kCleared_R r w0 v w := by
 have hS0 := St.start w0
 unfold kCleared at hF
 refine calls_of Try.func25 rfl ⟨((.slice A0 p0.length c0) :: un 43 ([])).toArray, []⟩ (by kernel_rfl) ?_
 refine gx_seq (fun K1 hK2 => ?_)
 refine gx_region ?_
 refine gx_k (.slice none 0 0) w0 ?_
 refine gx_nil ?_
 refine gx_thenN ?_
 refine hK2 _ _ ?_
 refine gx_seq (fun K3 hK4 => ?_)
 refine gx_region ?_
 refine gx_k (.slice none 0 0) w0 ?_
 refine gx_nil ?_
 refine gx_thenN ?_
 refine hK4 _ _ ?_
 obtain ⟨c11, hE12, hO13⟩ := bind_in hF
 refine gx_cut (fun a w => ∃ (l10 : List Int) (A8 : Option Addr) (c9 : Nat), selfA (fun u7 => ⟨((u7 0) :: undef :: (.slice none 0 0) :: (.slice A8 l10.length c9) :: dd u7 4 39 (undef :: [])).toArray, []⟩) a ∧ l10 = c11 ∧ St [] w0 w [rowE .u8 23 A8 c9 l10]) ?_ ?_
 ·refine gx_seq (fun K14 hK15 => ?_)
  refine gx_region ?_
  refine gx_k (.int .i64 0) w0 ?_
  refine gx_nil ?_
  refine gx_thenN ?_
  refine hK15 _ _ ?_
  refine gx_block ?_
  have hS16 : St _ _ w0 [rowE .u8 23 none 0 ([])] := hS0.nilrow .u8 23
  refine gx_loop (fun k a w => ∃ (l22 : List Int) (x23 : Int) (A20 : Option Addr) (c21 : Nat), selfA (fun u19 => ⟨((.slice A0 p0.length c0) :: undef :: (.slice none 0 0) :: (.slice A20 l22.length c21) :: (.int .i64 x23) :: dd u19 5 38 (undef :: [])).toArray, []⟩) a ∧ kCleared_L1 N p0 k l22 x23 = some c11 ∧ St [] w0 w [rowE .u8 23 A20 c21 l22]) N ?_ ?_
  ·exact ⟨([]), 0, none, 0, selfA_i (by kernel_rfl), hE12, hS16⟩
  ·rintro k24 _ w17 ⟨l22, x23, A20, c21, hq112, hL25, hS18⟩
   obtain ⟨u19, rfl⟩ := selfA_u hq112
   cases k24 with
   | zero => cases hL25
   | succ k24 =>
    first | rw [kCleared_L1] at hL25 | unfold kCleared_L1 at hL25
    refine gx_seq (fun K26 hK27 => ?_)
    refine gx_seq (fun K28 hK29 => ?_)
    refine gx_region ?_
    refine gx_k (.int .i64 x23) w17 (gx_k (.slice A0 p0.length c0) w17 (gx_k (.int .i64 ((p0.length : Nat) : Int)) w17 ?_))
    rcases if_in hL25 with ⟨h30, hL25⟩ | ⟨h30, hL25⟩
    ·refine gx_v (.bool true) w17 (run_boolE (decide_eq_true h30) (by kernel_rfl)) ?_
     refine gx_nil ?_
     refine gx_thenN ?_
     refine hK29 _ _ ?_
     refine gx_yes (by kernel_rfl) ?_
     refine gx_pass ?_
     refine gx_thenN ?_
     refine hK27 _ _ ?_
     refine gx_seq (fun K31 hK32 => ?_)
     refine gx_block ?_
     refine gx_seq (fun K33 hK34 => ?_)
     refine gx_region ?_
     refine gx_k (.slice A0 p0.length c0) w17 (gx_k (.int .i64 x23) w17 ?_)
     obtain ⟨x35, hx36, hL25⟩ := bind_in hL25
     refine gx_v (.pointer (Option.map (fun (p : Addr) => p.add (Int.toNat x23 * 1)) A0)) w17 (run_ixaddr (E := 23) (s := 1) (k := .i64) (c := c0) rfl (by kernel_rfl) (by kernel_rfl) (by kernel_rfl) (fun _ => by kernel_rfl) (ix_in hx36).1 (ix_in hx36).2.1 (num_nil (hS18.view hv0))) ?_
     refine gx_v (.int .u8 x35) w17 (run_loadix rfl (by kernel_rfl) (fun _ => by kernel_rfl) (hS18.view hv0) hx36) ?_
     refine gx_k (.int .u8 x35) w17 ?_
     refine gx_nil ?_
     refine gx_thenN ?_
     refine hK34 _ _ ?_
     refine gx_seq (fun K37 hK38 => ?_)
     refine gx_seq (fun K39 hK40 => ?_)
     refine gx_region ?_
     refine gx_k (.int .u8 x35) w17 ?_
     obtain ⟨c45, hE46, hO47⟩ := bind_in hL25
     refine gx_part (l1 := [_, _, _, _, _]) (fun a w => ∃ (b44 : Bool), selfA (fun u43 => ⟨((.slice A0 p0.length c0) :: undef :: (.slice none 0 0) :: (.slice A20 l22.length c21) :: (.int .i64 x23) :: (.int .u8 x35) :: (.int .i64 x23) :: (u43 7) :: (.int .i64 ((p0.length : Nat) : Int)) :: (.bool true) :: dd u19 10 2 ((u43 12) :: (.int .i64 x23) :: (.pointer (Option.map (fun (p : Addr) => p.add (Int.toNat x23 * 1)) A0)) :: (.int .u8 x35) :: (.int .u8 x35) :: dd u43 17 4 ((.bool b44) :: dd u19 22 21 (undef :: [])))).toArray, []⟩) a ∧ b44 = c45 ∧ St [] w0 w [rowE .u8 23 A20 c21 l22]) rfl ?_ ?_
     ·rcases if_in hE46 with ⟨h49, hE46⟩ | ⟨h49, hE46⟩
      ·refine gx_v (.bool true) w17 (run_boolE (ne_yes h49) (by kernel_rfl)) ?_
       refine gx_k (.bool true) w17 (gx_k (.int .u8 x35) w17 ?_)
       rcases if_in hE46 with ⟨h50, hE46⟩ | ⟨h50, hE46⟩
       ·refine gx_v (.bool true) w17 (run_boolE (ne_yes h50) (by kernel_rfl)) ?_
        refine gx_k (.bool true) w17 ?_
        refine gx_nil ?_
        refine gx_thenN ?_
        exact ⟨true, selfA_i (by kernel_rfl), (Option.some.inj hE46), hS18⟩
       ·refine gx_v (.bool false) w17 (run_boolE (ne_no h50) (by kernel_rfl)) ?_
        refine gx_k (.bool false) w17 ?_
        refine gx_nil ?_
        refine gx_thenN ?_
        exact ⟨false, selfA_i (by kernel_rfl), (Option.some.inj hE46), hS18⟩
      ·refine gx_v (.bool false) w17 (run_boolE (ne_no h49) (by kernel_rfl)) ?_
       refine gx_k (.bool false) w17 (gx_o (gx_o (gx_k (.bool false) w17 ?_)))
       refine gx_nil ?_
       refine gx_thenN ?_
       exact ⟨false, selfA_i (by kernel_rfl), (Option.some.inj hE46), hS18⟩
     ·rintro _ w41 ⟨b44, hq48, rfl, hS42⟩
      obtain ⟨u43, rfl⟩ := selfA_u hq48
      try dsimp only at hO47
      obtain ⟨c55, hE56, hO57⟩ := bind_in hO47
      refine gx_part (l1 := [_, _, _, _]) (fun a w => ∃ (b54 : Bool), selfA (fun u53 => ⟨((.slice A0 p0.length c0) :: undef :: (.slice none 0 0) :: (.slice A20 l22.length c21) :: (.int .i64 x23) :: (.int .u8 x35) :: (.int .i64 x23) :: (u43 7) :: (.int .i64 ((p0.length : Nat) : Int)) :: (.bool true) :: dd u19 10 2 ((u43 12) :: (.int .i64 x23) :: (.pointer (Option.map (fun (p : Addr) => p.add (Int.toNat x23 * 1)) A0)) :: (.int .u8 x35) :: (.int .u8 x35) :: dd u43 17 4 ((.bool b44) :: dd u53 22 3 ((.bool b54) :: dd u19 26 17 (undef :: []))))).toArray, []⟩) a ∧ b54 = c55 ∧ St [] w0 w [rowE .u8 23 A20 c21 l22]) rfl ?_ ?_
      ·refine gx_k (.bool b44) w41 ?_
       cases b44 with
       | true =>
        try dsimp only at hE56
        refine gx_k (.int .u8 x35) w41 ?_
        rcases if_in hE56 with ⟨h59, hE56⟩ | ⟨h59, hE56⟩
        ·refine gx_v (.bool true) w41 (run_boolE (ne_yes h59) (by kernel_rfl)) ?_
         refine gx_k (.bool true) w41 ?_
         refine gx_nil ?_
         refine gx_thenN ?_
         exact ⟨true, selfA_i (by kernel_rfl), (Option.some.inj hE56), hS42⟩
        ·refine gx_v (.bool false) w41 (run_boolE (ne_no h59) (by kernel_rfl)) ?_
         refine gx_k (.bool false) w41 ?_
         refine gx_nil ?_
         refine gx_thenN ?_
         exact ⟨false, selfA_i (by kernel_rfl), (Option.some.inj hE56), hS42⟩
       | false =>
        try dsimp only at hE56
        refine gx_o (gx_o (gx_k (.bool false) w41 ?_))
        refine gx_nil ?_
        refine gx_thenN ?_
        exact ⟨false, selfA_i (by kernel_rfl), (Option.some.inj hE56), hS42⟩
      ·rintro _ w51 ⟨b54, hq58, rfl, hS52⟩
       obtain ⟨u53, rfl⟩ := selfA_u hq58
       try dsimp only at hO57
       obtain ⟨c64, hE65, hO66⟩ := bind_in hO57
       refine gx_part (l1 := [_, _, _, _]) (fun a w => ∃ (b63 : Bool), selfA (fun u62 => ⟨((.slice A0 p0.length c0) :: undef :: (.slice none 0 0) :: (.slice A20 l22.length c21) :: (.int .i64 x23) :: (.int .u8 x35) :: (.int .i64 x23) :: (u43 7) :: (.int .i64 ((p0.length : Nat) : Int)) :: (.bool true) :: dd u19 10 2 ((u43 12) :: (.int .i64 x23) :: (.pointer (Option.map (fun (p : Addr) => p.add (Int.toNat x23 * 1)) A0)) :: (.int .u8 x35) :: (.int .u8 x35) :: dd u43 17 4 ((.bool b44) :: dd u53 22 3 ((.bool b54) :: dd u62 26 3 ((.bool b63) :: dd u19 30 13 (undef :: [])))))).toArray, []⟩) a ∧ b63 = c64 ∧ St [] w0 w [rowE .u8 23 A20 c21 l22]) rfl ?_ ?_
       ·refine gx_k (.bool b54) w51 ?_
        cases b54 with
        | true =>
         try dsimp only at hE65
         refine gx_k (.int .u8 x35) w51 ?_
         rcases if_in hE65 with ⟨h68, hE65⟩ | ⟨h68, hE65⟩
         ·refine gx_v (.bool true) w51 (run_boolE (ne_yes h68) (by kernel_rfl)) ?_
          refine gx_k (.bool true) w51 ?_
          refine gx_nil ?_
          refine gx_thenN ?_
          exact ⟨true, selfA_i (by kernel_rfl), (Option.some.inj hE65), hS52⟩
         ·refine gx_v (.bool false) w51 (run_boolE (ne_no h68) (by kernel_rfl)) ?_
          refine gx_k (.bool false) w51 ?_
          refine gx_nil ?_
          refine gx_thenN ?_
          exact ⟨false, selfA_i (by kernel_rfl), (Option.some.inj hE65), hS52⟩
        | false =>
         try dsimp only at hE65
         refine gx_o (gx_o (gx_k (.bool false) w51 ?_))
         refine gx_nil ?_
         refine gx_thenN ?_
         exact ⟨false, selfA_i (by kernel_rfl), (Option.some.inj hE65), hS52⟩
       ·rintro _ w60 ⟨b63, hq67, rfl, hS61⟩
        obtain ⟨u62, rfl⟩ := selfA_u hq67
        try dsimp only at hO66
        refine gx_k (.bool b63) w60 ?_
        cases b63 with
        | true =>
         try dsimp only at hO66
         refine gx_k (.int .u8 x35) w60 ?_
         rcases if_in hO66 with ⟨h69, hO66⟩ | ⟨h69, hO66⟩
         ·refine gx_v (.bool true) w60 (run_boolE (ne_yes h69) (by kernel_rfl)) ?_
          refine gx_k (.bool true) w60 (gx_k (.bool true) w60 (gx_k (.int .u8 x35) w60 ?_))
          have hP70 : St _ _ w60 ([] ++ [rowE .u8 23 A20 c21 l22]) := hS61
          obtain ⟨b72, hc71, hO66⟩ := bind_in hO66
          try dsimp only at hO66
          refine gx_c (rNeu_R b72 w60) (rNeu_ok N x35 _ hc71 w60 ) ?_
          rintro _ w73 ⟨rfl, hT75⟩
          have hS74 : St _ _ w73 [rowE .u8 23 A20 c21 l22] := hS61.take _ hT75
          cases b72 with
          | true =>
           try dsimp only at hO66
           refine gx_k (.bool false) w73 (gx_k (.bool false) w73 ?_)
           refine gx_nil ?_
           refine gx_thenN ?_
           refine hK40 _ _ ?_
           refine gx_no (by kernel_rfl) ?_
           refine gx_pass ?_
           refine gx_thenN ?_
           refine hK38 _ _ ?_
           refine gx_region ?_
           refine gx_k (.slice A20 l22.length c21) w73 (gx_k (.int .u8 x35) w73 ?_)
           refine gx_r (st_made .u8 23 [x35] hS74 (by show 1 ≤ 1000000000; decide) (by kernel_rfl)) ?_
           rintro _ w76 ⟨rfl, hS77⟩
           have hS77 : St _ _ w76 [rowE .u8 23 A20 c21 l22, rowE .u8 23 (some ⟨w73.heap.size, 0, none⟩) 1 ([x35])] := hS77
           obtain ⟨l78, ha79, hO66⟩ := bind_in hO66
           obtain ⟨ha79, hq80⟩ := apx_in ha79
           refine gx_r (st_append rfl (by kernel_rfl) (by kernel_rfl) hS77 0 rfl (hS77.row 1 rfl).1 (hS77.row 1 rfl).2 ha79 (by kernel_rfl) (by kernel_rfl)) ?_
           rintro _ w83 ⟨A81, c82, rfl, hS84⟩
           rw [← hq80] at hS84 ⊢
           have hS84 : St _ _ w83 [rowE .u8 23 A81 c82 l78, rowE .u8 23 (some ⟨w73.heap.size, 0, none⟩) 1 ([x35])] := hS84
           refine gx_k (.slice A81 l78.length c82) w83 ?_
           refine gx_nil ?_
           refine gx_blkN ?_
           refine gx_thenN ?_
           refine hK32 _ _ ?_
           refine gx_region ?_
           refine gx_k (.int .i64 x23) w83 (gx_k (.int .i64 (IntKind.i64.wrap (x23 + 1))) w83 (gx_k (.int .i64 (IntKind.i64.wrap (x23 + 1))) w83 ?_))
           refine gx_nil ?_
           refine gx_thenN ?_
           exact ⟨k24, Nat.lt_succ_self k24, l78, (IntKind.i64.wrap (x23 + 1)), A81, c82, selfA_i (by kernel_rfl), hO66, (hS84.pick [0] rfl rfl)⟩
          | false =>
           try dsimp only at hO66
           refine gx_k (.bool true) w73 (gx_k (.bool true) w73 ?_)
           refine gx_nil ?_
           refine gx_thenN ?_
           refine hK40 _ _ ?_
           refine gx_yes (by kernel_rfl) ?_
           refine gx_region ?_
           refine gx_k (.int .u8 14) w73 ?_
           refine gx_nil ?_
           refine gx_thenN ?_
           refine hK38 _ _ ?_
           refine gx_region ?_
           refine gx_k (.slice A20 l22.length c21) w73 (gx_k (.int .u8 14) w73 ?_)
           refine gx_r (st_made .u8 23 [14] hS74 (by show 1 ≤ 1000000000; decide) (by kernel_rfl)) ?_
           rintro _ w85 ⟨rfl, hS86⟩
           have hS86 : St _ _ w85 [rowE .u8 23 A20 c21 l22, rowE .u8 23 (some ⟨w73.heap.size, 0, none⟩) 1 ([14])] := hS86
           obtain ⟨l87, ha88, hO66⟩ := bind_in hO66
           obtain ⟨ha88, hq89⟩ := apx_in ha88
           refine gx_r (st_append rfl (by kernel_rfl) (by kernel_rfl) hS86 0 rfl (hS86.row 1 rfl).1 (hS86.row 1 rfl).2 ha88 (by kernel_rfl) (by kernel_rfl)) ?_
           rintro _ w92 ⟨A90, c91, rfl, hS93⟩
           rw [← hq89] at hS93 ⊢
           have hS93 : St _ _ w92 [rowE .u8 23 A90 c91 l87, rowE .u8 23 (some ⟨w73.heap.size, 0, none⟩) 1 ([14])] := hS93
           refine gx_k (.slice A90 l87.length c91) w92 ?_
           refine gx_nil ?_
           refine gx_blkN ?_
           refine gx_thenN ?_
           refine hK32 _ _ ?_
           refine gx_region ?_
           refine gx_k (.int .i64 x23) w92 (gx_k (.int .i64 (IntKind.i64.wrap (x23 + 1))) w92 (gx_k (.int .i64 (IntKind.i64.wrap (x23 + 1))) w92 ?_))
           refine gx_nil ?_
           refine gx_thenN ?_
           exact ⟨k24, Nat.lt_succ_self k24, l87, (IntKind.i64.wrap (x23 + 1)), A90, c91, selfA_i (by kernel_rfl), hO66, (hS93.pick [0] rfl rfl)⟩
         ·refine gx_v (.bool false) w60 (run_boolE (ne_no h69) (by kernel_rfl)) ?_
          refine gx_k (.bool false) w60 (gx_k (.bool false) w60 (gx_o (gx_o (gx_o (gx_k (.bool false) w60 ?_)))))
          refine gx_nil ?_
          refine gx_thenN ?_
          refine hK40 _ _ ?_
          refine gx_no (by kernel_rfl) ?_
          refine gx_pass ?_
          refine gx_thenN ?_
          refine hK38 _ _ ?_
          refine gx_region ?_
          refine gx_k (.slice A20 l22.length c21) w60 (gx_k (.int .u8 x35) w60 ?_)
          refine gx_r (st_made .u8 23 [x35] hS61 (by show 1 ≤ 1000000000; decide) (by kernel_rfl)) ?_
          rintro _ w94 ⟨rfl, hS95⟩
          have hS95 : St _ _ w94 [rowE .u8 23 A20 c21 l22, rowE .u8 23 (some ⟨w60.heap.size, 0, none⟩) 1 ([x35])] := hS95
          obtain ⟨l96, ha97, hO66⟩ := bind_in hO66
          obtain ⟨ha97, hq98⟩ := apx_in ha97
          refine gx_r (st_append rfl (by kernel_rfl) (by kernel_rfl) hS95 0 rfl (hS95.row 1 rfl).1 (hS95.row 1 rfl).2 ha97 (by kernel_rfl) (by kernel_rfl)) ?_
          rintro _ w101 ⟨A99, c100, rfl, hS102⟩
          rw [← hq98] at hS102 ⊢
          have hS102 : St _ _ w101 [rowE .u8 23 A99 c100 l96, rowE .u8 23 (some ⟨w60.heap.size, 0, none⟩) 1 ([x35])] := hS102
          refine gx_k (.slice A99 l96.length c100) w101 ?_
          refine gx_nil ?_
          refine gx_blkN ?_
          refine gx_thenN ?_
          refine hK32 _ _ ?_
          refine gx_region ?_
          refine gx_k (.int .i64 x23) w101 (gx_k (.int .i64 (IntKind.i64.wrap (x23 + 1))) w101 (gx_k (.int .i64 (IntKind.i64.wrap (x23 + 1))) w101 ?_))
          refine gx_nil ?_
          refine gx_thenN ?_
          exact ⟨k24, Nat.lt_succ_self k24, l96, (IntKind.i64.wrap (x23 + 1)), A99, c100, selfA_i (by kernel_rfl), hO66, (hS102.pick [0] rfl rfl)⟩
        | false =>
         try dsimp only at hO66
         refine gx_o (gx_o (gx_k (.bool false) w60 (gx_k (.bool false) w60 (gx_o (gx_o (gx_o (gx_k (.bool false) w60 ?_)))))))
         refine gx_nil ?_
         refine gx_thenN ?_
         refine hK40 _ _ ?_
         refine gx_no (by kernel_rfl) ?_
         refine gx_pass ?_
         refine gx_thenN ?_
         refine hK38 _ _ ?_
         refine gx_region ?_
         refine gx_k (.slice A20 l22.length c21) w60 (gx_k (.int .u8 x35) w60 ?_)
         refine gx_r (st_made .u8 23 [x35] hS61 (by show 1 ≤ 1000000000; decide) (by kernel_rfl)) ?_
         rintro _ w103 ⟨rfl, hS104⟩
         have hS104 : St _ _ w103 [rowE .u8 23 A20 c21 l22, rowE .u8 23 (some ⟨w60.heap.size, 0, none⟩) 1 ([x35])] := hS104
         obtain ⟨l105, ha106, hO66⟩ := bind_in hO66
         obtain ⟨ha106, hq107⟩ := apx_in ha106
         refine gx_r (st_append rfl (by kernel_rfl) (by kernel_rfl) hS104 0 rfl (hS104.row 1 rfl).1 (hS104.row 1 rfl).2 ha106 (by kernel_rfl) (by kernel_rfl)) ?_
         rintro _ w110 ⟨A108, c109, rfl, hS111⟩
         rw [← hq107] at hS111 ⊢
         have hS111 : St _ _ w110 [rowE .u8 23 A108 c109 l105, rowE .u8 23 (some ⟨w60.heap.size, 0, none⟩) 1 ([x35])] := hS111
         refine gx_k (.slice A108 l105.length c109) w110 ?_
         refine gx_nil ?_
         refine gx_blkN ?_
         refine gx_thenN ?_
         refine hK32 _ _ ?_
         refine gx_region ?_
         refine gx_k (.int .i64 x23) w110 (gx_k (.int .i64 (IntKind.i64.wrap (x23 + 1))) w110 (gx_k (.int .i64 (IntKind.i64.wrap (x23 + 1))) w110 ?_))
         refine gx_nil ?_
         refine gx_thenN ?_
         exact ⟨k24, Nat.lt_succ_self k24, l105, (IntKind.i64.wrap (x23 + 1)), A108, c109, selfA_i (by kernel_rfl), hO66, (hS111.pick [0] rfl rfl)⟩
    ·refine gx_v (.bool false) w17 (run_boolE (decide_eq_false h30) (by kernel_rfl)) ?_
     refine gx_nil ?_
     refine gx_thenN ?_
     refine hK29 _ _ ?_
     refine gx_no (by kernel_rfl) ?_
     refine gx_exit ?_
     refine gx_thenE ?_
     refine gx_thenE ?_
     refine gx_blkE ?_
     refine gx_thenN ?_
     exact ⟨l22, A20, c21, selfA_i (by kernel_rfl), (Option.some.inj hL25), hS18⟩
 ·rintro _ w5 ⟨l10, A8, c9, hq115, rfl, hS6⟩
  obtain ⟨u7, rfl⟩ := selfA_u hq115
  try dsimp only at hO13
  refine gx_seq (fun K113 hK114 => ?_)
  refine gx_region ?_
  refine gx_k (.slice A8 l10.length c9) w5 (gx_k (.slice A8 l10.length c9) w5 ?_)
  refine gx_nil ?_
  refine gx_thenN ?_
  refine hK114 _ _ ?_
  refine gx_ret ?_
  obtain rfl := Option.some.inj hO13
  exact gx_fin (.slice A8 l10.length c9) (by kernel_rfl) (by kernel_rfl) ⟨_, rfl, A8, c9, rfl, hS6⟩

end Go.Proofs.Ytdpcaidhpccaiaa

/-
  The statements, walked.
-/
import Derived.Test.YtdfgecndbfmgnaaDoorPB4
namespace Go.Proofs.YtdfgecndbfmgnaaDoor
open Go Go.RowKit
set_option linter.unusedVariables false

def kIs_L1 (N : Nat) (p0 : List Int) (p1 : List Int) : Nat → Int → Option (Ctl (Unit) (Bool))
 | 0, _ => none
 | k22+1, x21 => (if x21 < ((p0.length : Nat) : Int) then ((ix p0 x21).bind fun x35 => ((ix p1 x21).bind fun x37 => (if x35 ≠ x37 then some (Ctl.ret false) else kIs_L1 N p0 p1 k22 (IntKind.i64.wrap (x21 + 1))))) else some (Ctl.go ()))
def kIs (N : Nat) (p0 : List Int) (p1 : List Int) : Option (Bool) :=
 (if ((p0.length : Nat) : Int) ≠ ((p1.length : Nat) : Int) then some false else ((kIs_L1 N p0 p1 N 0 : Option (Ctl (Unit) (Bool))).bind fun | Ctl.go () => some true | Ctl.ret r => some r))

set_option linter.unusedVariables false in
def kIs_R (r : Bool) (w0 : World) (v : Value) (w : World) : Prop := v = .bool r ∧ St [] w0 w []

set_option maxRecDepth 100000 in
set_option maxHeartbeats 4000000 in
theorem kIs_ok (N : Nat) (p0 : List Int) (p1 : List Int) (A0 : Option Addr) (c0 : Nat) (A1 : Option Addr) (c1 : Nat) (r : Bool) (hF : kIs N p0 p1 = some r) (w0 : World) (hv0 : Vw [] .u8 w0 A0 c0 p0) (hv1 : Vw [] .u8 w0 A1 c1 p1) :
  Calls Tryd.prog 17 #[.slice A0 p0.length c0, .slice A1 p1.length c1] w0 fun e w => ∃ v, e = .returned v ∧ kIs_R r w0 v w := by
 have hS0 := St.start w0
 unfold kIs at hF
 refine calls_of Tryd.func17 rfl ⟨((.slice A0 p0.length c0) :: (.slice A1 p1.length c1) :: un 24 ([])).toArray, []⟩ (by kernel_rfl) ?_
 refine gx_seq (fun K1 hK2 => ?_)
 refine gx_region ?_
 refine gx_k (.bool false) w0 ?_
 refine gx_nil ?_
 refine gx_thenN ?_
 refine hK2 _ _ ?_
 refine gx_seq (fun K3 hK4 => ?_)
 refine gx_seq (fun K5 hK6 => ?_)
 refine gx_region ?_
 refine gx_k (.slice A0 p0.length c0) w0 (gx_k (.int .i64 ((p0.length : Nat) : Int)) w0 (gx_k (.slice A1 p1.length c1) w0 (gx_k (.int .i64 ((p1.length : Nat) : Int)) w0 ?_)))
 rcases if_in hF with ⟨h7, hF⟩ | ⟨h7, hF⟩
 ·refine gx_v (.bool true) w0 (run_boolE (ne_yes h7) (by kernel_rfl)) ?_
  refine gx_nil ?_
  refine gx_thenN ?_
  refine hK6 _ _ ?_
  refine gx_yes (by kernel_rfl) ?_
  refine gx_seq (fun K8 hK9 => ?_)
  refine gx_region ?_
  refine gx_k (.bool false) w0 ?_
  refine gx_nil ?_
  refine gx_thenN ?_
  refine hK9 _ _ ?_
  refine gx_ret ?_
  refine gx_thenR ?_
  obtain rfl := Option.some.inj hF
  exact gx_fin (.bool false) (by kernel_rfl) (by kernel_rfl) ⟨_, rfl, rfl, hS0⟩
 ·refine gx_v (.bool false) w0 (run_boolE (ne_no h7) (by kernel_rfl)) ?_
  refine gx_nil ?_
  refine gx_thenN ?_
  refine hK6 _ _ ?_
  refine gx_no (by kernel_rfl) ?_
  refine gx_pass ?_
  refine gx_thenN ?_
  refine hK4 _ _ ?_
  obtain ⟨c13, hE14, hO15⟩ := bind_in hF
  refine gx_cut (fun a w => selfA (fun u12 => ⟨(dd u12 0 2 (undef :: undef :: dd u12 4 3 ((.int .i64 ((p0.length : Nat) : Int)) :: (u12 8) :: (.int .i64 ((p1.length : Nat) : Int)) :: (.bool false) :: dd u12 11 15 ([])))).toArray, []⟩) a ∧ Ctl.go () = c13 ∧ St [] w0 w []) ?_ ?_
  ·refine gx_seq (fun K16 hK17 => ?_)
   refine gx_region ?_
   refine gx_k (.int .i64 0) w0 ?_
   refine gx_nil ?_
   refine gx_thenN ?_
   refine hK17 _ _ ?_
   refine gx_block ?_
   refine gx_loop (fun k a w => ∃ (x21 : Int), selfA (fun u20 => ⟨((.slice A0 p0.length c0) :: (.slice A1 p1.length c1) :: undef :: undef :: (u20 4) :: (.int .i64 x21) :: (u20 6) :: (.int .i64 ((p0.length : Nat) : Int)) :: (u20 8) :: (.int .i64 ((p1.length : Nat) : Int)) :: (.bool false) :: dd u20 11 15 ([])).toArray, []⟩) a ∧ kIs_L1 N p0 p1 k x21 = some c13 ∧ St [] w0 w []) N ?_ ?_
   ·exact ⟨0, selfA_i (by kernel_rfl), hE14, hS0⟩
   ·rintro k22 _ w18 ⟨x21, hq42, hL23, hS19⟩
    obtain ⟨u20, rfl⟩ := selfA_u hq42
    cases k22 with
    | zero => cases hL23
    | succ k22 =>
     first | rw [kIs_L1] at hL23 | unfold kIs_L1 at hL23
     refine gx_seq (fun K24 hK25 => ?_)
     refine gx_seq (fun K26 hK27 => ?_)
     refine gx_region ?_
     refine gx_k (.int .i64 x21) w18 (gx_k (.slice A0 p0.length c0) w18 (gx_k (.int .i64 ((p0.length : Nat) : Int)) w18 ?_))
     rcases if_in hL23 with ⟨h28, hL23⟩ | ⟨h28, hL23⟩
     ·refine gx_v (.bool true) w18 (run_boolE (decide_eq_true h28) (by kernel_rfl)) ?_
      refine gx_nil ?_
      refine gx_thenN ?_
      refine hK27 _ _ ?_
      refine gx_yes (by kernel_rfl) ?_
      refine gx_pass ?_
      refine gx_thenN ?_
      refine hK25 _ _ ?_
      refine gx_seq (fun K29 hK30 => ?_)
      refine gx_block ?_
      refine gx_seq (fun K31 hK32 => ?_)
      refine gd_start (fun w => St [] w0 w []) 9 #[false, false, false, false, false, false, false, false, false] (by kernel_rfl) (by kernel_rfl) ?_
      have hS34 := hS19.drew
      generalize w18.drew = w33 at hS34 ⊢
      refine gv1 0 17 (.slice A0 p0.length c0) rfl hS34 ?_
      refine gv1 1 18 (.int .i64 x21) rfl hS34 ?_
      obtain ⟨x35, hx36, hL23⟩ := bind_in hL23
      refine gu1 2 19 (.pointer (Option.map (fun (p : Addr) => p.add (Int.toNat x21 * 1)) A0)) rfl hS34 (fun w hSw => run_ixaddr (E := 33) (s := 1) (k := .i64) (c := c0) rfl (by kernel_rfl) (by kernel_rfl) (by kernel_rfl) (fun _ => by kernel_rfl) (ix_in hx36).1 (ix_in hx36).2.1 (num_nil (hS34.view hv0))) ?_
      refine gu1 3 20 (.int .u8 x35) rfl hS34 (fun w hSw => run_loadix rfl (by kernel_rfl) (fun _ => by kernel_rfl) (hSw.view hv0) hx36) ?_
      refine gv1 4 21 (.slice A1 p1.length c1) rfl hS34 ?_
      refine gv1 5 22 (.int .i64 x21) rfl hS34 ?_
      obtain ⟨x37, hx38, hL23⟩ := bind_in hL23
      refine gu1 6 23 (.pointer (Option.map (fun (p : Addr) => p.add (Int.toNat x21 * 1)) A1)) rfl hS34 (fun w hSw => run_ixaddr (E := 33) (s := 1) (k := .i64) (c := c1) rfl (by kernel_rfl) (by kernel_rfl) (by kernel_rfl) (fun _ => by kernel_rfl) (ix_in hx38).1 (ix_in hx38).2.1 (num_nil (hS34.view hv1))) ?_
      refine gu1 7 24 (.int .u8 x37) rfl hS34 (fun w hSw => run_loadix rfl (by kernel_rfl) (fun _ => by kernel_rfl) (hSw.view hv1) hx38) ?_
      rcases if_in hL23 with ⟨h39, hL23⟩ | ⟨h39, hL23⟩
      ·refine gu1 8 25 (.bool true) rfl hS34 (fun w hSw => run_boolE (ne_yes h39) (by kernel_rfl)) ?_
       refine gd_done (by kernel_rfl) ?_
       refine gx_thenN ?_
       refine hK32 _ _ ?_
       refine gx_yes (by kernel_rfl) ?_
       refine gx_seq (fun K40 hK41 => ?_)
       refine gx_region ?_
       refine gx_k (.bool false) w33 ?_
       refine gx_nil ?_
       refine gx_thenN ?_
       refine hK41 _ _ ?_
       refine gx_ret ?_
       refine gx_blkR ?_
       refine gx_thenR ?_
       refine gx_thenR ?_
       refine gx_blkR ?_
       refine gx_thenR ?_
       obtain rfl := Option.some.inj hL23
       try dsimp only at hO15
       obtain rfl := Option.some.inj hO15
       exact gx_fin (.bool false) (by kernel_rfl) (by kernel_rfl) ⟨_, rfl, rfl, hS34⟩
      ·refine gu1 8 25 (.bool false) rfl hS34 (fun w hSw => run_boolE (ne_no h39) (by kernel_rfl)) ?_
       refine gd_done (by kernel_rfl) ?_
       refine gx_thenN ?_
       refine hK32 _ _ ?_
       refine gx_no (by kernel_rfl) ?_
       refine gx_pass ?_
       refine gx_blkN ?_
       refine gx_thenN ?_
       refine hK30 _ _ ?_
       refine gx_region ?_
       refine gx_k (.int .i64 x21) w33 (gx_k (.int .i64 (IntKind.i64.wrap (x21 + 1))) w33 (gx_k (.int .i64 (IntKind.i64.wrap (x21 + 1))) w33 ?_))
       refine gx_nil ?_
       refine gx_thenN ?_
       exact ⟨k22, Nat.lt_succ_self k22, (IntKind.i64.wrap (x21 + 1)), selfA_i (by kernel_rfl), hL23, hS34⟩
     ·refine gx_v (.bool false) w18 (run_boolE (decide_eq_false h28) (by kernel_rfl)) ?_
      refine gx_nil ?_
      refine gx_thenN ?_
      refine hK27 _ _ ?_
      refine gx_no (by kernel_rfl) ?_
      refine gx_exit ?_
      refine gx_thenE ?_
      refine gx_thenE ?_
      refine gx_blkE ?_
      refine gx_thenN ?_
      exact ⟨selfA_i (by kernel_rfl), (Option.some.inj hL23), hS19⟩
  ·rintro _ w10 ⟨hq45, rfl, hS11⟩
   obtain ⟨u12, rfl⟩ := selfA_u hq45
   try dsimp only at hO15
   refine gx_seq (fun K43 hK44 => ?_)
   refine gx_region ?_
   refine gx_k (.bool true) w10 ?_
   refine gx_nil ?_
   refine gx_thenN ?_
   refine hK44 _ _ ?_
   refine gx_ret ?_
   obtain rfl := Option.some.inj hO15
   exact gx_fin (.bool true) (by kernel_rfl) (by kernel_rfl) ⟨_, rfl, rfl, hS11⟩

def kClasses_L1 (N : Nat) (p0 : List Int) : Nat → (List Int) → Int → Option (List Int)
 | 0, _, _ => none
 | k24+1, l22, x23 => (if x23 < ((p0.length : Nat) : Int) then ((ix p0 x23).bind fun x33 => ((rClass N x33).bind fun x37 => ((apx l22 ([x37])).bind fun l43 => kClasses_L1 N p0 k24 l43 (IntKind.i64.wrap (x23 + 1))))) else some (l22))
def kClasses (N : Nat) (p0 : List Int) : Option (List Int) :=
 ((kClasses_L1 N p0 N ([]) 0 : Option (List Int)).bind fun l10 => some l10)

set_option linter.unusedVariables false in
def kClasses_R (r : List Int) (w0 : World) (v : Value) (w : World) : Prop := ∃ (A0' : Option Addr) (c0' : Nat), v = .slice A0' r.length c0' ∧ St [] w0 w [rowE .u8 33 A0' c0' r]

set_option maxRecDepth 100000 in
set_option maxHeartbeats 4000000 in
theorem kClasses_ok (N : Nat) (p0 : List Int) (A0 : Option Addr) (c0 : Nat) (r : List Int) (hF : kClasses N p0 = some r) (w0 : World) (hv0 : Vw [] .i32 w0 A0 c0 p0) :
  Calls Tryd.prog 9 #[.slice A0 p0.length c0] w0 fun e w => ∃ v, e = .returned v ∧ kClasses_R r w0 v w := by
 have hS0 := St.start w0
 unfold kClasses at hF
 refine calls_of Tryd.func9 rfl ⟨((.slice A0 p0.length c0) :: un 19 ([])).toArray, []⟩ (by kernel_rfl) ?_
 refine gx_seq (fun K1 hK2 => ?_)
 refine gx_region ?_
 refine gx_k (.slice none 0 0) w0 ?_
 refine gx_nil ?_
 refine gx_thenN ?_
 refine hK2 _ _ ?_
 refine gx_seq (fun K3 hK4 => ?_)
 refine gx_region ?_
 refine gx_k (.slice none 0 0) w0 ?_
 refine gx_nil ?_
 refine gx_thenN ?_
 refine hK4 _ _ ?_
 obtain ⟨c11, hE12, hO13⟩ := bind_in hF
 refine gx_cut (fun a w => ∃ (l10 : List Int) (A8 : Option Addr) (c9 : Nat), selfA (fun u7 => ⟨((u7 0) :: undef :: (.slice none 0 0) :: (.slice A8 l10.length c9) :: dd u7 4 15 (undef :: [])).toArray, []⟩) a ∧ l10 = c11 ∧ St [] w0 w [rowE .u8 33 A8 c9 l10]) ?_ ?_
 ·refine gx_seq (fun K14 hK15 => ?_)
  refine gx_region ?_
  refine gx_k (.int .i64 0) w0 ?_
  refine gx_nil ?_
  refine gx_thenN ?_
  refine hK15 _ _ ?_
  refine gx_block ?_
  have hS16 : St _ _ w0 [rowE .u8 33 none 0 ([])] := hS0.nilrow .u8 33
  refine gx_loop (fun k a w => ∃ (l22 : List Int) (x23 : Int) (A20 : Option Addr) (c21 : Nat), selfA (fun u19 => ⟨((.slice A0 p0.length c0) :: undef :: (.slice none 0 0) :: (.slice A20 l22.length c21) :: (.int .i64 x23) :: dd u19 5 14 (undef :: [])).toArray, []⟩) a ∧ kClasses_L1 N p0 k l22 x23 = some c11 ∧ St [] w0 w [rowE .u8 33 A20 c21 l22]) N ?_ ?_
  ·exact ⟨([]), 0, none, 0, selfA_i (by kernel_rfl), hE12, hS16⟩
  ·rintro k24 _ w17 ⟨l22, x23, A20, c21, hq50, hL25, hS18⟩
   obtain ⟨u19, rfl⟩ := selfA_u hq50
   cases k24 with
   | zero => cases hL25
   | succ k24 =>
    first | rw [kClasses_L1] at hL25 | unfold kClasses_L1 at hL25
    refine gx_seq (fun K26 hK27 => ?_)
    refine gx_seq (fun K28 hK29 => ?_)
    refine gx_region ?_
    refine gx_k (.int .i64 x23) w17 (gx_k (.slice A0 p0.length c0) w17 (gx_k (.int .i64 ((p0.length : Nat) : Int)) w17 ?_))
    rcases if_in hL25 with ⟨h30, hL25⟩ | ⟨h30, hL25⟩
    ·refine gx_v (.bool true) w17 (run_boolE (decide_eq_true h30) (by kernel_rfl)) ?_
     refine gx_nil ?_
     refine gx_thenN ?_
     refine hK29 _ _ ?_
     refine gx_yes (by kernel_rfl) ?_
     refine gx_pass ?_
     refine gx_thenN ?_
     refine hK27 _ _ ?_
     refine gx_seq (fun K31 hK32 => ?_)
     refine gx_block ?_
     refine gx_region ?_
     refine gx_k (.slice A20 l22.length c21) w17 (gx_k (.slice A0 p0.length c0) w17 (gx_k (.int .i64 x23) w17 ?_))
     obtain ⟨x33, hx34, hL25⟩ := bind_in hL25
     refine gx_v (.pointer (Option.map (fun (p : Addr) => p.add (Int.toNat x23 * 1)) A0)) w17 (run_ixaddr (E := 21) (s := 1) (k := .i64) (c := c0) rfl (by kernel_rfl) (by kernel_rfl) (by kernel_rfl) (fun _ => by kernel_rfl) (ix_in hx34).1 (ix_in hx34).2.1 (num_nil (hS18.view hv0))) ?_
     refine gx_v (.int .i32 x33) w17 (run_loadix rfl (by kernel_rfl) (fun _ => by kernel_rfl) (hS18.view hv0) hx34) ?_
     have hP35 : St _ _ w17 ([] ++ [rowE .u8 33 A20 c21 l22]) := hS18
     obtain ⟨x37, hc36, hL25⟩ := bind_in hL25
     try dsimp only at hL25
     refine gx_c (rClass_R x37 w17) (rClass_ok N x33 _ hc36 w17 ) ?_
     rintro _ w38 ⟨rfl, hT40⟩
     have hS39 : St _ _ w38 [rowE .u8 33 A20 c21 l22] := hS18.take _ hT40
     refine gx_r (st_made .u8 33 [x37] hS39 (by show 1 ≤ 1000000000; decide) (by kernel_rfl)) ?_
     rintro _ w41 ⟨rfl, hS42⟩
     have hS42 : St _ _ w41 [rowE .u8 33 A20 c21 l22, rowE .u8 33 (some ⟨w38.heap.size, 0, none⟩) 1 ([x37])] := hS42
     obtain ⟨l43, ha44, hL25⟩ := bind_in hL25
     obtain ⟨ha44, hq45⟩ := apx_in ha44
     refine gx_r (st_append rfl (by kernel_rfl) (by kernel_rfl) hS42 0 rfl (hS42.row 1 rfl).1 (hS42.row 1 rfl).2 ha44 (by kernel_rfl) (by kernel_rfl)) ?_
     rintro _ w48 ⟨A46, c47, rfl, hS49⟩
     rw [← hq45] at hS49 ⊢
     have hS49 : St _ _ w48 [rowE .u8 33 A46 c47 l43, rowE .u8 33 (some ⟨w38.heap.size, 0, none⟩) 1 ([x37])] := hS49
     refine gx_k (.slice A46 l43.length c47) w48 ?_
     refine gx_nil ?_
     refine gx_blkN ?_
     refine gx_thenN ?_
     refine hK32 _ _ ?_
     refine gx_region ?_
     refine gx_k (.int .i64 x23) w48 (gx_k (.int .i64 (IntKind.i64.wrap (x23 + 1))) w48 (gx_k (.int .i64 (IntKind.i64.wrap (x23 + 1))) w48 ?_))
     refine gx_nil ?_
     refine gx_thenN ?_
     exact ⟨k24, Nat.lt_succ_self k24, l43, (IntKind.i64.wrap (x23 + 1)), A46, c47, selfA_i (by kernel_rfl), hL25, (hS49.pick [0] rfl rfl)⟩
    ·refine gx_v (.bool false) w17 (run_boolE (decide_eq_false h30) (by kernel_rfl)) ?_
     refine gx_nil ?_
     refine gx_thenN ?_
     refine hK29 _ _ ?_
     refine gx_no (by kernel_rfl) ?_
     refine gx_exit ?_
     refine gx_thenE ?_
     refine gx_thenE ?_
     refine gx_blkE ?_
     refine gx_thenN ?_
     exact ⟨l22, A20, c21, selfA_i (by kernel_rfl), (Option.some.inj hL25), hS18⟩
 ·rintro _ w5 ⟨l10, A8, c9, hq53, rfl, hS6⟩
  obtain ⟨u7, rfl⟩ := selfA_u hq53
  try dsimp only at hO13
  refine gx_seq (fun K51 hK52 => ?_)
  refine gx_region ?_
  refine gx_k (.slice A8 l10.length c9) w5 (gx_k (.slice A8 l10.length c9) w5 ?_)
  refine gx_nil ?_
  refine gx_thenN ?_
  refine hK52 _ _ ?_
  refine gx_ret ?_
  obtain rfl := Option.some.inj hO13
  exact gx_fin (.slice A8 l10.length c9) (by kernel_rfl) (by kernel_rfl) ⟨_, rfl, A8, c9, rfl, hS6⟩

def kBecome (N : Nat) (p0 : ByteArray) (p1 : Int) (p2 : Int) (p3 : List Int) : Option (Bool) :=
 ((runesX p0).bind fun l5 => ((kClasses N l5).bind fun l15 => ((pPairs N l5 l15 l15 p1 p2).bind fun (l25, x28) => (if x28 = 0 then ((kIs N l25 p3).bind fun b37 => some b37) else some false))))

set_option linter.unusedVariables false in
def kBecome_R (r : Bool) (w0 : World) (v : Value) (w : World) : Prop := v = .bool r ∧ St [] w0 w []

set_option maxRecDepth 100000 in
set_option maxHeartbeats 4000000 in
theorem kBecome_ok (N : Nat) (p0 : ByteArray) (p1 : Int) (p2 : Int) (p3 : List Int) (A3 : Option Addr) (c3 : Nat) (r : Bool) (hF : kBecome N p0 p1 p2 p3 = some r) (w0 : World) (hv3 : Vw [] .u8 w0 A3 c3 p3) (hcd : MirW w0) :
  Calls Tryd.prog 8 #[.string p0, .int .u8 p1, .int .u8 p2, .slice A3 p3.length c3] w0 fun e w => ∃ v, e = .returned v ∧ kBecome_R r w0 v w := by
 have hS0 := St.start w0
 unfold kBecome at hF
 refine calls_of Tryd.func8 rfl ⟨((.string p0) :: (.int .u8 p1) :: (.int .u8 p2) :: (.slice A3 p3.length c3) :: un 29 ([])).toArray, []⟩ (by kernel_rfl) ?_
 refine gx_seq (fun K1 hK2 => ?_)
 refine gx_region ?_
 refine gx_k (.bool false) w0 ?_
 refine gx_nil ?_
 refine gx_thenN ?_
 refine hK2 _ _ ?_
 refine gx_seq (fun K3 hK4 => ?_)
 refine gx_region ?_
 refine gx_k (.string p0) w0 ?_
 obtain ⟨l5, hm6, hF⟩ := bind_in hF
 refine gx_r (st_runes (T := 21) (s := p0) rfl (by kernel_rfl) (by kernel_rfl) (by kernel_rfl) (by kernel_rfl) hS0 hm6) ?_
 rintro _ w7 ⟨A9, c10, rfl, hS8⟩
 have hS8 : St _ _ w7 [rowE .i32 21 A9 c10 l5] := hS8
 refine gx_k (.slice A9 l5.length c10) w7 ?_
 refine gx_nil ?_
 refine gx_thenN ?_
 refine hK4 _ _ ?_
 refine gx_seq (fun K11 hK12 => ?_)
 refine gx_region ?_
 refine gx_k (.slice A9 l5.length c10) w7 ?_
 have hP13 : St _ _ w7 ([] ++ [rowE .i32 21 A9 c10 l5]) := hS8
 obtain ⟨l15, hc14, hF⟩ := bind_in hF
 try dsimp only at hF
 refine gx_c (kClasses_R l15 w7) (kClasses_ok N l5 A9 c10 _ hc14 w7 (hP13.vwB 0 rfl)) ?_
 rintro _ w18 ⟨A16, c17, rfl, hT20⟩
 have hS19 : St _ _ w18 [rowE .i32 21 A9 c10 l5, rowE .u8 33 A16 c17 l15] := hS8.take _ hT20
 refine gx_k (.slice A16 l15.length c17) w18 ?_
 refine gx_nil ?_
 refine gx_thenN ?_
 refine hK12 _ _ ?_
 refine gx_seq (fun K21 hK22 => ?_)
 refine gx_region ?_
 refine gx_k (.slice A9 l5.length c10) w18 (gx_k (.slice A16 l15.length c17) w18 (gx_k (.slice A16 l15.length c17) w18 (gx_k (.int .u8 p1) w18 (gx_k (.int .u8 p2) w18 ?_))))
 have hP23 : St _ _ w18 ([] ++ [rowE .i32 21 A9 c10 l5, rowE .u8 33 A16 c17 l15]) := hS19
 obtain ⟨⟨l25, x28⟩, hc24, hF⟩ := bind_in hF
 try dsimp only at hF
 refine gx_c (pPairs_R (l25, x28) w18) (pPairs_ok N l5 l15 l15 p1 p2 A9 c10 A16 c17 A16 c17 _ hc24 w18 (hP23.vwB 0 rfl) (hP23.vwB 1 rfl) (hP23.vwB 1 rfl) (MirW.at hcd hS19.below)) ?_
 rintro _ w29 ⟨A26, c27, rfl, hT31⟩
 have hS30 : St _ _ w29 [rowE .i32 21 A9 c10 l5, rowE .u8 33 A16 c17 l15, rowE .u8 33 A26 c27 l25] := hS19.take _ hT31
 refine gx_k (.tuple #[.slice A26 l25.length c27, .int .i64 x28]) w29 (gx_k (.slice A26 l25.length c27) w29 (gx_k (.int .i64 x28) w29 (gx_k (.slice A26 l25.length c27) w29 (gx_k (.int .i64 x28) w29 ?_))))
 refine gx_nil ?_
 refine gx_thenN ?_
 refine hK22 _ _ ?_
 refine gx_seq (fun K32 hK33 => ?_)
 refine gx_region ?_
 refine gx_k (.int .i64 x28) w29 ?_
 rcases if_in hF with ⟨h34, hF⟩ | ⟨h34, hF⟩
 ·refine gx_v (.bool true) w29 (run_boolE (decide_eq_true h34) (by kernel_rfl)) ?_
  refine gx_k (.bool true) w29 (gx_k (.slice A26 l25.length c27) w29 (gx_k (.slice A3 p3.length c3) w29 ?_))
  have hP35 : St _ _ w29 ([] ++ [rowE .i32 21 A9 c10 l5, rowE .u8 33 A16 c17 l15, rowE .u8 33 A26 c27 l25]) := hS30
  obtain ⟨b37, hc36, hF⟩ := bind_in hF
  try dsimp only at hF
  refine gx_c (kIs_R b37 w29) (kIs_ok N l25 p3 A26 c27 A3 c3 _ hc36 w29 (hP35.vwB 2 rfl) (hP35.vwA hv3)) ?_
  rintro _ w38 ⟨rfl, hT40⟩
  have hS39 : St _ _ w38 [rowE .i32 21 A9 c10 l5, rowE .u8 33 A16 c17 l15, rowE .u8 33 A26 c27 l25] := hS30.take _ hT40
  refine gx_k (.bool b37) w38 (gx_k (.bool b37) w38 ?_)
  refine gx_nil ?_
  refine gx_thenN ?_
  refine hK33 _ _ ?_
  refine gx_ret ?_
  obtain rfl := Option.some.inj hF
  exact gx_fin (.bool b37) (by kernel_rfl) (by kernel_rfl) ⟨_, rfl, rfl, (hS39.pick [] rfl rfl)⟩
 ·refine gx_v (.bool false) w29 (run_boolE (decide_eq_false h34) (by kernel_rfl)) ?_
  refine gx_k (.bool false) w29 (gx_o (gx_o (gx_o (gx_k (.bool false) w29 (gx_k (.bool false) w29 ?_)))))
  refine gx_nil ?_
  refine gx_thenN ?_
  refine hK33 _ _ ?_
  refine gx_ret ?_
  obtain rfl := Option.some.inj hF
  exact gx_fin (.bool false) (by kernel_rfl) (by kernel_rfl) ⟨_, rfl, rfl, (hS30.pick [] rfl rfl)⟩

def kAround (N : Nat) : Option (Bool) :=
 ((kBecome N (⟨#[97, 40, 98, 41]⟩ : ByteArray) (0 : Int) (1 : Int) ([1, 1, 1, 1])).bind fun b9 => (match b9 with | true => ((kBecome N (⟨#[215, 144, 40, 215, 144, 41]⟩ : ByteArray) (0 : Int) (1 : Int) ([2, 2, 2, 2])).bind fun b17 => some b17) | false => some false))

set_option linter.unusedVariables false in
def kAround_R (r : Bool) (w0 : World) (v : Value) (w : World) : Prop := v = .bool r ∧ St [] w0 w []

set_option maxRecDepth 100000 in
set_option maxHeartbeats 4000000 in
theorem kAround_ok (N : Nat)  (r : Bool) (hF : kAround N = some r) (w0 : World) (hcd : MirW w0) :
  Calls Tryd.prog 5 #[] w0 fun e w => ∃ v, e = .returned v ∧ kAround_R r w0 v w := by
 have hS0 := St.start w0
 unfold kAround at hF
 refine calls_of Tryd.func5 rfl ⟨(un 7 ([])).toArray, []⟩ (by kernel_rfl) ?_
 refine gx_seq (fun K1 hK2 => ?_)
 refine gx_region ?_
 refine gx_k (.bool false) w0 ?_
 refine gx_nil ?_
 refine gx_thenN ?_
 refine hK2 _ _ ?_
 refine gx_seq (fun K3 hK4 => ?_)
 refine gx_region ?_
 refine gx_r (st_made .u8 33 [1, 1, 1, 1] hS0 (by show 4 ≤ 1000000000; decide) (by kernel_rfl)) ?_
 rintro _ w5 ⟨rfl, hS6⟩
 have hS6 : St _ _ w5 [rowE .u8 33 (some ⟨w0.heap.size, 0, none⟩) 4 ([1, 1, 1, 1])] := hS6
 have hP7 : St _ _ w5 ([] ++ [rowE .u8 33 (some ⟨w0.heap.size, 0, none⟩) 4 ([1, 1, 1, 1])]) := hS6
 obtain ⟨b9, hc8, hF⟩ := bind_in hF
 try dsimp only at hF
 refine gx_c (kBecome_R b9 w5) (kBecome_ok N (⟨#[97, 40, 98, 41]⟩ : ByteArray) (0 : Int) (1 : Int) ([1, 1, 1, 1]) (some ⟨w0.heap.size, 0, none⟩) 4 _ hc8 w5 (hP7.vwB 0 rfl) (MirW.at hcd hS6.below)) ?_
 rintro _ w10 ⟨rfl, hT12⟩
 have hS11 : St _ _ w10 [rowE .u8 33 (some ⟨w0.heap.size, 0, none⟩) 4 ([1, 1, 1, 1])] := hS6.take _ hT12
 refine gx_k (.bool b9) w10 ?_
 cases b9 with
 | true =>
  try dsimp only at hF
  refine gx_r (st_made .u8 33 [2, 2, 2, 2] hS11 (by show 4 ≤ 1000000000; decide) (by kernel_rfl)) ?_
  rintro _ w13 ⟨rfl, hS14⟩
  have hS14 : St _ _ w13 [rowE .u8 33 (some ⟨w0.heap.size, 0, none⟩) 4 ([1, 1, 1, 1]), rowE .u8 33 (some ⟨w10.heap.size, 0, none⟩) 4 ([2, 2, 2, 2])] := hS14
  have hP15 : St _ _ w13 ([] ++ [rowE .u8 33 (some ⟨w0.heap.size, 0, none⟩) 4 ([1, 1, 1, 1]), rowE .u8 33 (some ⟨w10.heap.size, 0, none⟩) 4 ([2, 2, 2, 2])]) := hS14
  obtain ⟨b17, hc16, hF⟩ := bind_in hF
  try dsimp only at hF
  refine gx_c (kBecome_R b17 w13) (kBecome_ok N (⟨#[215, 144, 40, 215, 144, 41]⟩ : ByteArray) (0 : Int) (1 : Int) ([2, 2, 2, 2]) (some ⟨w10.heap.size, 0, none⟩) 4 _ hc16 w13 (hP15.vwB 1 rfl) (MirW.at hcd hS14.below)) ?_
  rintro _ w18 ⟨rfl, hT20⟩
  have hS19 : St _ _ w18 [rowE .u8 33 (some ⟨w0.heap.size, 0, none⟩) 4 ([1, 1, 1, 1]), rowE .u8 33 (some ⟨w10.heap.size, 0, none⟩) 4 ([2, 2, 2, 2])] := hS14.take _ hT20
  refine gx_k (.bool b17) w18 (gx_k (.bool b17) w18 ?_)
  refine gx_nil ?_
  refine gx_thenN ?_
  refine hK4 _ _ ?_
  refine gx_ret ?_
  obtain rfl := Option.some.inj hF
  exact gx_fin (.bool b17) (by kernel_rfl) (by kernel_rfl) ⟨_, rfl, rfl, (hS19.pick [] rfl rfl)⟩
 | false =>
  try dsimp only at hF
  refine gx_o (gx_o (gx_k (.bool false) w10 (gx_k (.bool false) w10 ?_)))
  refine gx_nil ?_
  refine gx_thenN ?_
  refine hK4 _ _ ?_
  refine gx_ret ?_
  obtain rfl := Option.some.inj hF
  exact gx_fin (.bool false) (by kernel_rfl) (by kernel_rfl) ⟨_, rfl, rfl, (hS11.pick [] rfl rfl)⟩

end Go.Proofs.YtdfgecndbfmgnaaDoor

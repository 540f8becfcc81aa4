/-
  ItemiseScripts, walked.
-/
import Derived.Test.YtkcmemldhbifdaaDoorF0
import Derived.Test.YtkcmemldhbifdaaDoorR0
namespace Go.Proofs.YtkcmemldhbifdaaDoor
open Go Go.RowKit
set_option linter.unusedVariables false
def fScripts_L2 (N : Nat) (l67 : List Int) : Nat → (List Int) → Int → Option (Ctl (Unit) (Bool))
 | 0, _, _ => none
 | k89+1, l87, x88 => (if x88 < ((l67.length : Nat) : Int) then ((ix l87 x88).bind fun _x98 => ((setx l87 x88 9).bind fun l102 => fScripts_L2 N l67 k89 l102 (IntKind.i64.wrap (x88 + 1)))) else some (Ctl.go ()))
def fScripts_L1 (N : Nat) (l21 : List Int) (l32 : List Int) : Nat → Int → Option (Ctl (Unit) (Bool))
 | 0, _ => none
 | k50+1, x49 => (if x49 < 2 then ((((pScripts N l21).bind fun l67 => ((some (!((strOfNums l67).toList == (strOfNums l32).toList))).bind fun b77 => (match b77 with | true => some (Ctl.ret false) | false => fScripts_L2 N l67 N l67 0))) : Option (Ctl (Unit) (Bool))).bind fun | Ctl.go () => fScripts_L1 N l21 l32 k50 (IntKind.i64.wrap (x49 + 1)) | Ctl.ret r => some (Ctl.ret r)) else some (Ctl.go ()))
def fScripts (N : Nat) (p0 : List Int) : Option (Bool) :=
 (if ((p0.length : Nat) : Int) > 300 then ((kWorks N ).bind fun b12 => some b12) else ((apx ([]) p0).bind fun l21 => ((rScripts N p0).bind fun l32 => ((fScripts_L1 N l21 l32 N 0 : Option (Ctl (Unit) (Bool))).bind fun | Ctl.go () => ((some (((runesBytes l21).toList == (runesBytes p0).toList))).bind fun b109 => (match b109 with | true => ((kWorks N ).bind fun b113 => some b113) | false => some false)) | Ctl.ret r => some r))))
set_option linter.unusedVariables false in
def fScripts_R (r : Bool) (w0 : World) (v : Value) (w : World) : Prop := v = .bool r ∧ St [] w0 w []
set_option maxRecDepth 100000 in
set_option maxHeartbeats 4000000 in
theorem fScripts_ok (N : Nat) (p0 : List Int) (A0 : Option Addr) (c0 : Nat) (r : Bool) (hF : fScripts N p0 = some r) (w0 : World) (hv0 : Vw [] .i32 w0 A0 c0 p0) (hcd : MirB [] w0) :
  Calls Tryd.prog 3 #[.slice A0 p0.length c0] w0 fun e w => ∃ v, e = .returned v ∧ fScripts_R r w0 v w := by
 have hS0 := St.start w0
 unfold fScripts at hF
 refine calls_of Tryd.func3 rfl ⟨((.slice A0 p0.length c0) :: un 44 ([])).toArray, []⟩ (by kernel_rfl) ?_
 refine gx_seq (fun K1 hK2 => ?_)
 refine gx_region ?_
 refine gx_k (.bool false) w0 ?_
 refine gx_nil ?_
 refine gx_thenN ?_
 refine hK2 _ _ ?_
 refine gx_seq (fun K3 hK4 => ?_)
 refine gx_seq (fun K5 hK6 => ?_)
 refine gx_region ?_
 refine gx_k (.slice A0 p0.length c0) w0 (gx_k (.int .i64 ((p0.length : Nat) : Int)) w0 ?_)
 rcases if_in hF with ⟨h7, hF⟩ | ⟨h7, hF⟩
 ·refine gx_v (.bool true) w0 (run_boolE (decide_eq_true h7) (by kernel_rfl)) ?_
  refine gx_nil ?_
  refine gx_thenN ?_
  refine hK6 _ _ ?_
  refine gx_yes (by kernel_rfl) ?_
  refine gx_seq (fun K8 hK9 => ?_)
  refine gx_region ?_
  have hP10 : St _ _ w0 ([] ++ []) := hS0
  obtain ⟨b12, hc11, hF⟩ := bind_in hF
  try dsimp only at hF
  refine gx_c (kWorks_R b12 w0) (kWorks_ok N  _ hc11 w0 (MirB.atL hcd hP10)) ?_
  rintro _ w13 ⟨rfl, hT15⟩
  have hS14 : St _ _ w13 [] := hS0.take _ hT15
  refine gx_k (.bool b12) w13 ?_
  refine gx_nil ?_
  refine gx_thenN ?_
  refine hK9 _ _ ?_
  refine gx_ret ?_
  refine gx_thenR ?_
  obtain rfl := Option.some.inj hF
  exact gx_fin (.bool b12) (by kernel_rfl) (by kernel_rfl) ⟨_, rfl, rfl, hS14⟩
 ·refine gx_v (.bool false) w0 (run_boolE (decide_eq_false h7) (by kernel_rfl)) ?_
  refine gx_nil ?_
  refine gx_thenN ?_
  refine hK6 _ _ ?_
  refine gx_no (by kernel_rfl) ?_
  refine gx_pass ?_
  refine gx_thenN ?_
  refine hK4 _ _ ?_
  refine gx_seq (fun K16 hK17 => ?_)
  refine gx_region ?_
  refine gx_k (.slice none 0 0) w0 ?_
  refine gx_nil ?_
  refine gx_thenN ?_
  refine hK17 _ _ ?_
  refine gx_seq (fun K18 hK19 => ?_)
  refine gx_region ?_
  refine gx_k (.slice none 0 0) w0 (gx_k (.slice A0 p0.length c0) w0 ?_)
  have hS20 : St _ _ w0 [rowE .i32 21 none 0 ([])] := hS0.nilrow .i32 21
  obtain ⟨l21, ha22, hF⟩ := bind_in hF
  obtain ⟨ha22, hq23⟩ := apx_in ha22
  refine gx_r (st_append rfl (by kernel_rfl) (by kernel_rfl) hS20 0 rfl (hS20.view hv0) hv0.nn ha22 (by kernel_rfl) (by kernel_rfl)) ?_
  rintro _ w26 ⟨A24, c25, rfl, hS27⟩
  rw [← hq23] at hS27 ⊢
  have hS27 : St _ _ w26 [rowE .i32 21 A24 c25 l21] := hS27
  refine gx_k (.slice A24 l21.length c25) w26 ?_
  refine gx_nil ?_
  refine gx_thenN ?_
  refine hK19 _ _ ?_
  refine gx_seq (fun K28 hK29 => ?_)
  refine gx_region ?_
  refine gx_k (.slice A0 p0.length c0) w26 ?_
  have hP30 : St _ _ w26 ([] ++ [rowE .i32 21 A24 c25 l21]) := hS27
  obtain ⟨l32, hc31, hF⟩ := bind_in hF
  try dsimp only at hF
  refine gx_c (rScripts_R l32 w26) (rScripts_ok N p0 A0 c0 _ hc31 w26 (hP30.vwA hv0)) ?_
  rintro _ w35 ⟨A33, c34, rfl, hT37⟩
  have hS36 : St _ _ w35 [rowE .i32 21 A24 c25 l21, rowE .u8 5 A33 c34 l32] := hS27.take _ hT37
  refine gx_k (.slice A33 l32.length c34) w35 ?_
  refine gx_nil ?_
  refine gx_thenN ?_
  refine hK29 _ _ ?_
  obtain ⟨c41, hE42, hO43⟩ := bind_in hF
  refine gx_cut (fun a w => selfA (fun u40 => ⟨((.slice A0 p0.length c0) :: undef :: (u40 2) :: (.slice A24 l21.length c25) :: dd u40 4 5 ((.int .i64 ((p0.length : Nat) : Int)) :: (.bool false) :: undef :: (.slice none 0 0) :: dd u40 13 24 (un 8 ([])))).toArray, []⟩) a ∧ Ctl.go () = c41 ∧ St [] w0 w [rowE .i32 21 A24 c25 l21]) ?_ ?_
  ·refine gx_seq (fun K44 hK45 => ?_)
   refine gx_region ?_
   refine gx_k (.int .i64 0) w35 ?_
   refine gx_nil ?_
   refine gx_thenN ?_
   refine hK45 _ _ ?_
   refine gx_block ?_
   refine gx_loop (fun k a w => ∃ (x49 : Int), selfA (fun u48 => ⟨((.slice A0 p0.length c0) :: undef :: (u48 2) :: (.slice A24 l21.length c25) :: (.slice A33 l32.length c34) :: (.int .i64 x49) :: dd u48 6 3 ((.int .i64 ((p0.length : Nat) : Int)) :: (.bool false) :: undef :: (.slice none 0 0) :: dd u48 13 24 (un 8 ([])))).toArray, []⟩) a ∧ fScripts_L1 N l21 l32 k x49 = some c41 ∧ St [] w0 w [rowE .i32 21 A24 c25 l21, rowE .u8 5 A33 c34 l32]) N ?_ ?_
   ·exact ⟨0, selfA_i (by kernel_rfl), hE42, hS36⟩
   ·rintro k50 _ w46 ⟨x49, hq106, hL51, hS47⟩
    obtain ⟨u48, rfl⟩ := selfA_u hq106
    cases k50 with
    | zero => cases hL51
    | succ k50 =>
     first | rw [fScripts_L1] at hL51 | unfold fScripts_L1 at hL51
     refine gx_seq (fun K52 hK53 => ?_)
     refine gx_seq (fun K54 hK55 => ?_)
     refine gx_region ?_
     refine gx_k (.int .i64 x49) w46 ?_
     rcases if_in hL51 with ⟨h56, hL51⟩ | ⟨h56, hL51⟩
     ·refine gx_v (.bool true) w46 (run_boolE (decide_eq_true h56) (by kernel_rfl)) ?_
      refine gx_nil ?_
      refine gx_thenN ?_
      refine hK55 _ _ ?_
      refine gx_yes (by kernel_rfl) ?_
      refine gx_pass ?_
      refine gx_thenN ?_
      refine hK53 _ _ ?_
      obtain ⟨c60, hE61, hO62⟩ := bind_in hL51
      refine gx_cut (fun a w => selfA (fun u59 => ⟨((.slice A0 p0.length c0) :: undef :: (u59 2) :: (.slice A24 l21.length c25) :: (.slice A33 l32.length c34) :: (.int .i64 x49) :: dd u59 6 2 ((u48 8) :: (.int .i64 ((p0.length : Nat) : Int)) :: (.bool false) :: undef :: (.slice none 0 0) :: dd u48 13 4 ((.int .i64 x49) :: (.bool true) :: dd u48 19 2 (dd u59 21 16 (un 8 ([])))))).toArray, []⟩) a ∧ Ctl.go () = c60 ∧ St [] w0 w [rowE .i32 21 A24 c25 l21, rowE .u8 5 A33 c34 l32]) ?_ ?_
      ·refine gx_block ?_
       refine gx_seq (fun K63 hK64 => ?_)
       refine gx_region ?_
       refine gx_k (.slice A24 l21.length c25) w46 ?_
       have hP65 : St _ _ w46 ([] ++ [rowE .i32 21 A24 c25 l21, rowE .u8 5 A33 c34 l32]) := hS47
       obtain ⟨l67, hc66, hE61⟩ := bind_in hE61
       try dsimp only at hE61
       refine gx_c (pScripts_R l67 w46) (pScripts_ok N l21 A24 c25 _ hc66 w46 (hP65.vwB 0 rfl) (MirB.atL hcd hP65)) ?_
       rintro _ w70 ⟨A68, c69, rfl, hT72⟩
       have hS71 : St _ _ w70 [rowE .i32 21 A24 c25 l21, rowE .u8 5 A33 c34 l32, rowE .u8 5 A68 c69 l67] := hS47.take _ hT72
       refine gx_k (.slice A68 l67.length c69) w70 ?_
       refine gx_nil ?_
       refine gx_thenN ?_
       refine hK64 _ _ ?_
       refine gx_seq (fun K73 hK74 => ?_)
       refine gx_seq (fun K75 hK76 => ?_)
       refine gx_region ?_
       refine gx_k (.slice A68 l67.length c69) w70 ?_
       refine gx_v (.string (strOfNums l67)) w70 (run_conv rfl (by kernel_rfl) (conv_b _ _ _ (hS71.row 2 rfl).1)) ?_
       refine gx_k (.slice A33 l32.length c34) w70 ?_
       refine gx_v (.string (strOfNums l32)) w70 (run_conv rfl (by kernel_rfl) (conv_b _ _ _ (hS71.row 1 rfl).1)) ?_
       obtain ⟨b77, h78, hE61⟩ := bind_in hE61
       refine gx_v (.bool b77) w70 (run_boolE (Option.some.inj h78) (by kernel_rfl)) ?_
       refine gx_nil ?_
       refine gx_thenN ?_
       refine hK76 _ _ ?_
       cases b77 with
       | true =>
        try dsimp only at hE61
        refine gx_yes (by kernel_rfl) ?_
        refine gx_seq (fun K79 hK80 => ?_)
        refine gx_region ?_
        refine gx_k (.bool false) w70 ?_
        refine gx_nil ?_
        refine gx_thenN ?_
        refine hK80 _ _ ?_
        refine gx_ret ?_
        refine gx_thenR ?_
        refine gx_blkR ?_
        refine gx_thenR ?_
        obtain rfl := Option.some.inj hE61
        try dsimp only at hO62
        refine gx_thenR ?_
        refine gx_blkR ?_
        refine gx_thenR ?_
        obtain rfl := Option.some.inj hO62
        try dsimp only at hO43
        obtain rfl := Option.some.inj hO43
        exact gx_fin (.bool false) (by kernel_rfl) (by kernel_rfl) ⟨_, rfl, rfl, (hS71.pick [] rfl rfl)⟩
       | false =>
        try dsimp only at hE61
        refine gx_no (by kernel_rfl) ?_
        refine gx_pass ?_
        refine gx_thenN ?_
        refine hK74 _ _ ?_
        refine gx_seq (fun K81 hK82 => ?_)
        refine gx_region ?_
        refine gx_k (.int .i64 0) w70 ?_
        refine gx_nil ?_
        refine gx_thenN ?_
        refine hK82 _ _ ?_
        refine gx_block ?_
        refine gx_loop (fun k a w => ∃ (l87 : List Int) (x88 : Int), selfA (fun u85 => ⟨((.slice A0 p0.length c0) :: undef :: (u48 2) :: (.slice A24 l21.length c25) :: (.slice A33 l32.length c34) :: (.int .i64 x49) :: (.slice A68 l67.length c69) :: (.int .i64 x88) :: (u48 8) :: (.int .i64 ((p0.length : Nat) : Int)) :: (.bool false) :: undef :: (.slice none 0 0) :: dd u48 13 4 ((.int .i64 x49) :: (.bool true) :: dd u48 19 2 (dd u85 21 3 ((.string (strOfNums l67)) :: (u85 25) :: (.string (strOfNums l32)) :: (.bool false) :: dd u85 28 9 (un 8 ([])))))).toArray, []⟩) a ∧ fScripts_L2 N l67 k l87 x88 = some c60 ∧ St [] w0 w [rowE .i32 21 A24 c25 l21, rowE .u8 5 A33 c34 l32, rowE .u8 5 A68 c69 l87] ∧ l67.length = l87.length) N ?_ ?_
        ·exact ⟨l67, 0, selfA_i (by kernel_rfl), hE61, hS71, rfl⟩
        ·rintro k89 _ w83 ⟨l87, x88, hq104, hL90, hS84, hn86⟩
         obtain ⟨u85, rfl⟩ := selfA_u hq104
         cases k89 with
         | zero => cases hL90
         | succ k89 =>
          first | rw [fScripts_L2] at hL90 | unfold fScripts_L2 at hL90
          refine gx_seq (fun K91 hK92 => ?_)
          refine gx_seq (fun K93 hK94 => ?_)
          refine gx_region ?_
          refine gx_k (.int .i64 x88) w83 (gx_k (.slice A68 l67.length c69) w83 (gx_k (.int .i64 ((l67.length : Nat) : Int)) w83 ?_))
          rcases if_in hL90 with ⟨h95, hL90⟩ | ⟨h95, hL90⟩
          ·refine gx_v (.bool true) w83 (run_boolE (decide_eq_true h95) (by kernel_rfl)) ?_
           refine gx_nil ?_
           refine gx_thenN ?_
           refine hK94 _ _ ?_
           refine gx_yes (by kernel_rfl) ?_
           refine gx_pass ?_
           refine gx_thenN ?_
           refine hK92 _ _ ?_
           refine gx_seq (fun K96 hK97 => ?_)
           refine gx_block ?_
           refine gx_region ?_
           refine gx_k (.slice A68 l67.length c69) w83 (gx_k (.int .i64 x88) w83 ?_)
           obtain ⟨x98, hx99, hL90⟩ := bind_in hL90
           refine gx_v (.pointer (Option.map (fun (p : Addr) => p.add (Int.toNat x88 * 1)) A68)) w83 (run_ixaddr (E := 5) (s := 1) (k := .i64) (c := c69) rfl (by kernel_rfl) (by kernel_rfl) (by kernel_rfl) (fun _ => by kernel_rfl) (ix_in hx99).1 (lt_len hn86 (ix_in hx99).2.1) (nil_len hn86 (num_nil (hS84.row 2 rfl).1))) ?_
           obtain ⟨l102, hx103, hL90⟩ := bind_in hL90
           refine gx_s (st_storeix rfl (by kernel_rfl) (by kernel_rfl) (fun _ => by kernel_rfl) hS84 2 rfl hx103) ?_
           rintro w100 hS101
           have hS101 : St _ _ w100 [rowE .i32 21 A24 c25 l21, rowE .u8 5 A33 c34 l32, rowE .u8 5 A68 c69 l102] := hS101
           refine gx_nil ?_
           refine gx_blkN ?_
           refine gx_thenN ?_
           refine hK97 _ _ ?_
           refine gx_region ?_
           refine gx_k (.int .i64 x88) w100 (gx_k (.int .i64 (IntKind.i64.wrap (x88 + 1))) w100 (gx_k (.int .i64 (IntKind.i64.wrap (x88 + 1))) w100 ?_))
           refine gx_nil ?_
           refine gx_thenN ?_
           exact ⟨k89, Nat.lt_succ_self k89, l102, (IntKind.i64.wrap (x88 + 1)), selfA_i (by kernel_rfl), hL90, hS101, (hn86.trans (setx_len hx103).symm)⟩
          ·refine gx_v (.bool false) w83 (run_boolE (decide_eq_false h95) (by kernel_rfl)) ?_
           refine gx_nil ?_
           refine gx_thenN ?_
           refine hK94 _ _ ?_
           refine gx_no (by kernel_rfl) ?_
           refine gx_exit ?_
           refine gx_thenE ?_
           refine gx_thenE ?_
           refine gx_blkE ?_
           refine gx_blkN ?_
           refine gx_thenN ?_
           exact ⟨selfA_i (by kernel_rfl), (Option.some.inj hL90), (hS84.pick [0, 1] rfl rfl)⟩
      ·rintro _ w57 ⟨hq105, rfl, hS58⟩
       obtain ⟨u59, rfl⟩ := selfA_u hq105
       try dsimp only at hO62
       refine gx_region ?_
       refine gx_k (.int .i64 x49) w57 (gx_k (.int .i64 (IntKind.i64.wrap (x49 + 1))) w57 (gx_k (.int .i64 (IntKind.i64.wrap (x49 + 1))) w57 ?_))
       refine gx_nil ?_
       refine gx_thenN ?_
       exact ⟨k50, Nat.lt_succ_self k50, (IntKind.i64.wrap (x49 + 1)), selfA_i (by kernel_rfl), hO62, hS58⟩
     ·refine gx_v (.bool false) w46 (run_boolE (decide_eq_false h56) (by kernel_rfl)) ?_
      refine gx_nil ?_
      refine gx_thenN ?_
      refine hK55 _ _ ?_
      refine gx_no (by kernel_rfl) ?_
      refine gx_exit ?_
      refine gx_thenE ?_
      refine gx_thenE ?_
      refine gx_blkE ?_
      refine gx_thenN ?_
      exact ⟨selfA_i (by kernel_rfl), (Option.some.inj hL51), (hS47.pick [0] rfl rfl)⟩
  ·rintro _ w38 ⟨hq117, rfl, hS39⟩
   obtain ⟨u40, rfl⟩ := selfA_u hq117
   try dsimp only at hO43
   refine gx_seq (fun K107 hK108 => ?_)
   refine gx_region ?_
   refine gx_k (.slice A24 l21.length c25) w38 ?_
   refine gx_v (.string (runesBytes l21)) w38 (run_conv rfl (by kernel_rfl) (conv_r _ _ _ (hS39.row 0 rfl).1)) ?_
   refine gx_k (.slice A0 p0.length c0) w38 ?_
   refine gx_v (.string (runesBytes p0)) w38 (run_conv rfl (by kernel_rfl) (conv_r _ _ _ (hS39.view hv0))) ?_
   obtain ⟨b109, h110, hO43⟩ := bind_in hO43
   refine gx_v (.bool b109) w38 (run_boolE (Option.some.inj h110) (by kernel_rfl)) ?_
   refine gx_k (.bool b109) w38 ?_
   cases b109 with
   | true =>
    try dsimp only at hO43
    have hP111 : St _ _ w38 ([] ++ [rowE .i32 21 A24 c25 l21]) := hS39
    obtain ⟨b113, hc112, hO43⟩ := bind_in hO43
    try dsimp only at hO43
    refine gx_c (kWorks_R b113 w38) (kWorks_ok N  _ hc112 w38 (MirB.atL hcd hP111)) ?_
    rintro _ w114 ⟨rfl, hT116⟩
    have hS115 : St _ _ w114 [rowE .i32 21 A24 c25 l21] := hS39.take _ hT116
    refine gx_k (.bool b113) w114 (gx_k (.bool b113) w114 ?_)
    refine gx_nil ?_
    refine gx_thenN ?_
    refine hK108 _ _ ?_
    refine gx_ret ?_
    obtain rfl := Option.some.inj hO43
    exact gx_fin (.bool b113) (by kernel_rfl) (by kernel_rfl) ⟨_, rfl, rfl, (hS115.pick [] rfl rfl)⟩
   | false =>
    try dsimp only at hO43
    refine gx_o (gx_k (.bool false) w38 (gx_k (.bool false) w38 ?_))
    refine gx_nil ?_
    refine gx_thenN ?_
    refine hK108 _ _ ?_
    refine gx_ret ?_
    obtain rfl := Option.some.inj hO43
    exact gx_fin (.bool false) (by kernel_rfl) (by kernel_rfl) ⟨_, rfl, rfl, (hS39.pick [] rfl rfl)⟩
end Go.Proofs.YtkcmemldhbifdaaDoor

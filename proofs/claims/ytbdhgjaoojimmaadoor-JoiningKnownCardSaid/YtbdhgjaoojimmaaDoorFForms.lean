/-
  JoiningForms, walked.
-/
import Derived.Test.YtbdhgjaoojimmaaDoorF0
import Derived.Test.YtbdhgjaoojimmaaDoorR0
namespace Go.Proofs.YtbdhgjaoojimmaaDoor
open Go Go.RowKit
set_option linter.unusedVariables false

def fForms_L1 (N : Nat) (l32 : List Int) : Nat → (List Int) → Int → Option (Unit)
 | 0, _, _ => none
 | k80+1, l78, x79 => (if x79 < ((l32.length : Nat) : Int) then ((ix l78 x79).bind fun _x89 => ((setx l78 x79 9).bind fun l93 => fForms_L1 N l32 k80 l93 (IntKind.i64.wrap (x79 + 1)))) else some (()))
def fForms (N : Nat) (p0 : List Int) : Option (Bool) :=
 (if ((p0.length : Nat) : Int) > 2000 then ((kWorks N ).bind fun b12 => some b12) else ((apx ([]) p0).bind fun l21 => ((pForms N l21).bind fun l32 => ((rForms N p0).bind fun l40 => ((((kSame N l32 l40).bind fun b56 => (match b56 with | true => ((some (!((runesBytes l21).toList == (runesBytes p0).toList))).bind fun b60 => (match b60 with | true => some (Ctl.ret false) | false => some (Ctl.go ()))) | false => some (Ctl.ret false))) : Option (Ctl (Unit) (Bool))).bind fun | Ctl.go () => ((fForms_L1 N l32 N l32 0 : Option (Unit)).bind fun () => ((pForms N l21).bind fun l100 => ((kSame N l100 l40).bind fun b108 => (match b108 with | true => ((kWorks N ).bind fun b114 => some b114) | false => some false)))) | Ctl.ret r => some r)))))

set_option linter.unusedVariables false in
def fForms_R (r : Bool) (w0 : World) (v : Value) (w : World) : Prop := v = .bool r ∧ St [] w0 w []

set_option maxRecDepth 100000 in
set_option maxHeartbeats 4000000 in
theorem fForms_ok (N : Nat) (p0 : List Int) (A0 : Option Addr) (c0 : Nat) (r : Bool) (hF : fForms N p0 = some r) (w0 : World) (hv0 : Vw [] .i32 w0 A0 c0 p0) (hcd : MirB [] w0) :
  Calls Tryd.prog 3 #[.slice A0 p0.length c0] w0 fun e w => ∃ v, e = .returned v ∧ fForms_R r w0 v w := by
 have hS0 := St.start w0
 unfold fForms at hF
 refine calls_of Tryd.func3 rfl ⟨((.slice A0 p0.length c0) :: un 44 ([])).toArray, []⟩ (by kernel_rfl) ?_
 refine gx_seq (fun K1 hK2 => ?_)
 refine gx_region ?_
 refine gx_k (.bool false) w0 ?_
 refine gx_nil ?_
 refine gx_thenN ?_
 refine hK2 _ _ ?_
 refine gx_seq (fun K3 hK4 => ?_)
 refine gx_seq (fun K5 hK6 => ?_)
 refine gx_region ?_
 refine gx_k (.slice A0 p0.length c0) w0 (gx_k (.int .i64 ((p0.length : Nat) : Int)) w0 ?_)
 rcases if_in hF with ⟨h7, hF⟩ | ⟨h7, hF⟩
 ·refine gx_v (.bool true) w0 (run_boolE (decide_eq_true h7) (by kernel_rfl)) ?_
  refine gx_nil ?_
  refine gx_thenN ?_
  refine hK6 _ _ ?_
  refine gx_yes (by kernel_rfl) ?_
  refine gx_seq (fun K8 hK9 => ?_)
  refine gx_region ?_
  have hP10 : St _ _ w0 ([] ++ []) := hS0
  obtain ⟨b12, hc11, hF⟩ := bind_in hF
  try dsimp only at hF
  refine gx_c (kWorks_R b12 w0) (kWorks_ok N  _ hc11 w0 (MirB.atL hcd hP10)) ?_
  rintro _ w13 ⟨rfl, hT15⟩
  have hS14 : St _ _ w13 [] := hS0.take _ hT15
  refine gx_k (.bool b12) w13 ?_
  refine gx_nil ?_
  refine gx_thenN ?_
  refine hK9 _ _ ?_
  refine gx_ret ?_
  refine gx_thenR ?_
  obtain rfl := Option.some.inj hF
  exact gx_fin (.bool b12) (by kernel_rfl) (by kernel_rfl) ⟨_, rfl, rfl, hS14⟩
 ·refine gx_v (.bool false) w0 (run_boolE (decide_eq_false h7) (by kernel_rfl)) ?_
  refine gx_nil ?_
  refine gx_thenN ?_
  refine hK6 _ _ ?_
  refine gx_no (by kernel_rfl) ?_
  refine gx_pass ?_
  refine gx_thenN ?_
  refine hK4 _ _ ?_
  refine gx_seq (fun K16 hK17 => ?_)
  refine gx_region ?_
  refine gx_k (.slice none 0 0) w0 ?_
  refine gx_nil ?_
  refine gx_thenN ?_
  refine hK17 _ _ ?_
  refine gx_seq (fun K18 hK19 => ?_)
  refine gx_region ?_
  refine gx_k (.slice none 0 0) w0 (gx_k (.slice A0 p0.length c0) w0 ?_)
  have hS20 : St _ _ w0 [rowE .i32 21 none 0 ([])] := hS0.nilrow .i32 21
  obtain ⟨l21, ha22, hF⟩ := bind_in hF
  obtain ⟨ha22, hq23⟩ := apx_in ha22
  refine gx_r (st_append rfl (by kernel_rfl) (by kernel_rfl) hS20 0 rfl (hS20.view hv0) hv0.nn ha22 (by kernel_rfl) (by kernel_rfl)) ?_
  rintro _ w26 ⟨A24, c25, rfl, hS27⟩
  rw [← hq23] at hS27 ⊢
  have hS27 : St _ _ w26 [rowE .i32 21 A24 c25 l21] := hS27
  refine gx_k (.slice A24 l21.length c25) w26 ?_
  refine gx_nil ?_
  refine gx_thenN ?_
  refine hK19 _ _ ?_
  refine gx_seq (fun K28 hK29 => ?_)
  refine gx_region ?_
  refine gx_k (.slice A24 l21.length c25) w26 ?_
  have hP30 : St _ _ w26 ([] ++ [rowE .i32 21 A24 c25 l21]) := hS27
  obtain ⟨l32, hc31, hF⟩ := bind_in hF
  try dsimp only at hF
  refine gx_c (pForms_R l32 w26) (pForms_ok N l21 A24 c25 _ hc31 w26 (hP30.vwB 0 rfl) (MirB.atL hcd hP30)) ?_
  rintro _ w35 ⟨A33, c34, rfl, hT37⟩
  have hS36 : St _ _ w35 [rowE .i32 21 A24 c25 l21, rowE .u8 5 A33 c34 l32] := hS27.take _ hT37
  refine gx_k (.slice A0 p0.length c0) w35 ?_
  have hP38 : St _ _ w35 ([] ++ [rowE .i32 21 A24 c25 l21, rowE .u8 5 A33 c34 l32]) := hS36
  obtain ⟨l40, hc39, hF⟩ := bind_in hF
  try dsimp only at hF
  refine gx_c (rForms_R l40 w35) (rForms_ok N p0 A0 c0 _ hc39 w35 (hP38.vwA hv0)) ?_
  rintro _ w43 ⟨A41, c42, rfl, hT45⟩
  have hS44 : St _ _ w43 [rowE .i32 21 A24 c25 l21, rowE .u8 5 A33 c34 l32, rowE .u8 5 A41 c42 l40] := hS36.take _ hT45
  refine gx_k (.slice A33 l32.length c34) w43 (gx_k (.slice A41 l40.length c42) w43 ?_)
  refine gx_nil ?_
  refine gx_thenN ?_
  refine hK29 _ _ ?_
  obtain ⟨c49, hE50, hO51⟩ := bind_in hF
  refine gx_cut (fun a w => selfA (fun u48 => ⟨((u48 0) :: undef :: (u48 2) :: (.slice A24 l21.length c25) :: (.slice A33 l32.length c34) :: (.slice A41 l40.length c42) :: undef :: (u48 7) :: (.int .i64 ((p0.length : Nat) : Int)) :: (.bool false) :: undef :: (.slice none 0 0) :: dd u48 12 17 (un 16 ([]))).toArray, []⟩) a ∧ Ctl.go () = c49 ∧ St [] w0 w [rowE .i32 21 A24 c25 l21, rowE .u8 5 A33 c34 l32, rowE .u8 5 A41 c42 l40]) ?_ ?_
  ·refine gx_seq (fun K52 hK53 => ?_)
   refine gx_region ?_
   refine gx_k (.slice A33 l32.length c34) w43 (gx_k (.slice A41 l40.length c42) w43 ?_)
   have hP54 : St _ _ w43 ([] ++ [rowE .i32 21 A24 c25 l21, rowE .u8 5 A33 c34 l32, rowE .u8 5 A41 c42 l40]) := hS44
   obtain ⟨b56, hc55, hE50⟩ := bind_in hE50
   try dsimp only at hE50
   refine gx_c (kSame_R b56 w43) (kSame_ok N l32 l40 A33 c34 A41 c42 _ hc55 w43 (hP54.vwB 1 rfl) (hP54.vwB 2 rfl)) ?_
   rintro _ w57 ⟨rfl, hT59⟩
   have hS58 : St _ _ w57 [rowE .i32 21 A24 c25 l21, rowE .u8 5 A33 c34 l32, rowE .u8 5 A41 c42 l40] := hS44.take _ hT59
   cases b56 with
   | true =>
    try dsimp only at hE50
    refine gx_k (.bool false) w57 (gx_k (.bool false) w57 (gx_k (.slice A24 l21.length c25) w57 ?_))
    refine gx_v (.string (runesBytes l21)) w57 (run_conv rfl (by kernel_rfl) (conv_r _ _ _ (hS58.row 0 rfl).1)) ?_
    refine gx_k (.slice A0 p0.length c0) w57 ?_
    refine gx_v (.string (runesBytes p0)) w57 (run_conv rfl (by kernel_rfl) (conv_r _ _ _ (hS58.view hv0))) ?_
    obtain ⟨b60, h61, hE50⟩ := bind_in hE50
    refine gx_v (.bool b60) w57 (run_boolE (Option.some.inj h61) (by kernel_rfl)) ?_
    refine gx_k (.bool b60) w57 ?_
    refine gx_nil ?_
    refine gx_thenN ?_
    refine hK53 _ _ ?_
    cases b60 with
    | true =>
     try dsimp only at hE50
     refine gx_yes (by kernel_rfl) ?_
     refine gx_seq (fun K62 hK63 => ?_)
     refine gx_region ?_
     refine gx_k (.bool false) w57 ?_
     refine gx_nil ?_
     refine gx_thenN ?_
     refine hK63 _ _ ?_
     refine gx_ret ?_
     refine gx_thenR ?_
     obtain rfl := Option.some.inj hE50
     try dsimp only at hO51
     obtain rfl := Option.some.inj hO51
     exact gx_fin (.bool false) (by kernel_rfl) (by kernel_rfl) ⟨_, rfl, rfl, (hS58.pick [] rfl rfl)⟩
    | false =>
     try dsimp only at hE50
     refine gx_no (by kernel_rfl) ?_
     refine gx_pass ?_
     refine gx_thenN ?_
     exact ⟨selfA_i (by kernel_rfl), (Option.some.inj hE50), hS58⟩
   | false =>
    try dsimp only at hE50
    refine gx_k (.bool true) w57 (gx_k (.bool true) w57 (gx_o (gx_o (gx_o (gx_o (gx_o (gx_k (.bool true) w57 ?_)))))))
    refine gx_nil ?_
    refine gx_thenN ?_
    refine hK53 _ _ ?_
    refine gx_yes (by kernel_rfl) ?_
    refine gx_seq (fun K64 hK65 => ?_)
    refine gx_region ?_
    refine gx_k (.bool false) w57 ?_
    refine gx_nil ?_
    refine gx_thenN ?_
    refine hK65 _ _ ?_
    refine gx_ret ?_
    refine gx_thenR ?_
    obtain rfl := Option.some.inj hE50
    try dsimp only at hO51
    obtain rfl := Option.some.inj hO51
    exact gx_fin (.bool false) (by kernel_rfl) (by kernel_rfl) ⟨_, rfl, rfl, (hS58.pick [] rfl rfl)⟩
  ·rintro _ w46 ⟨hq119, rfl, hS47⟩
   obtain ⟨u48, rfl⟩ := selfA_u hq119
   try dsimp only at hO51
   obtain ⟨c69, hE70, hO71⟩ := bind_in hO51
   refine gx_cut (fun a w => selfA (fun u68 => ⟨((u48 0) :: undef :: (u48 2) :: (.slice A24 l21.length c25) :: (u68 4) :: (.slice A41 l40.length c42) :: (u68 6) :: (u48 7) :: (.int .i64 ((p0.length : Nat) : Int)) :: (.bool false) :: undef :: (.slice none 0 0) :: dd u48 12 17 (dd u68 29 9 (un 7 ([])))).toArray, []⟩) a ∧ () = c69 ∧ St [] w0 w [rowE .i32 21 A24 c25 l21, rowE .u8 5 A41 c42 l40]) ?_ ?_
   ·refine gx_seq (fun K72 hK73 => ?_)
    refine gx_region ?_
    refine gx_k (.int .i64 0) w46 ?_
    refine gx_nil ?_
    refine gx_thenN ?_
    refine hK73 _ _ ?_
    refine gx_block ?_
    refine gx_loop (fun k a w => ∃ (l78 : List Int) (x79 : Int), selfA (fun u76 => ⟨((u48 0) :: undef :: (u48 2) :: (.slice A24 l21.length c25) :: (.slice A33 l32.length c34) :: (.slice A41 l40.length c42) :: (.int .i64 x79) :: (u48 7) :: (.int .i64 ((p0.length : Nat) : Int)) :: (.bool false) :: undef :: (.slice none 0 0) :: dd u48 12 17 (dd u76 29 9 (un 7 ([])))).toArray, []⟩) a ∧ fForms_L1 N l32 k l78 x79 = some c69 ∧ St [] w0 w [rowE .i32 21 A24 c25 l21, rowE .u8 5 A33 c34 l78, rowE .u8 5 A41 c42 l40] ∧ l32.length = l78.length) N ?_ ?_
    ·exact ⟨l32, 0, selfA_i (by kernel_rfl), hE70, hS47, rfl⟩
    ·rintro k80 _ w74 ⟨l78, x79, hq95, hL81, hS75, hn77⟩
     obtain ⟨u76, rfl⟩ := selfA_u hq95
     cases k80 with
     | zero => cases hL81
     | succ k80 =>
      first | rw [fForms_L1] at hL81 | unfold fForms_L1 at hL81
      refine gx_seq (fun K82 hK83 => ?_)
      refine gx_seq (fun K84 hK85 => ?_)
      refine gx_region ?_
      refine gx_k (.int .i64 x79) w74 (gx_k (.slice A33 l32.length c34) w74 (gx_k (.int .i64 ((l32.length : Nat) : Int)) w74 ?_))
      rcases if_in hL81 with ⟨h86, hL81⟩ | ⟨h86, hL81⟩
      ·refine gx_v (.bool true) w74 (run_boolE (decide_eq_true h86) (by kernel_rfl)) ?_
       refine gx_nil ?_
       refine gx_thenN ?_
       refine hK85 _ _ ?_
       refine gx_yes (by kernel_rfl) ?_
       refine gx_pass ?_
       refine gx_thenN ?_
       refine hK83 _ _ ?_
       refine gx_seq (fun K87 hK88 => ?_)
       refine gx_block ?_
       refine gx_region ?_
       refine gx_k (.slice A33 l32.length c34) w74 (gx_k (.int .i64 x79) w74 ?_)
       obtain ⟨x89, hx90, hL81⟩ := bind_in hL81
       refine gx_v (.pointer (Option.map (fun (p : Addr) => p.add (Int.toNat x79 * 1)) A33)) w74 (run_ixaddr (E := 5) (s := 1) (k := .i64) (c := c34) rfl (by kernel_rfl) (by kernel_rfl) (by kernel_rfl) (fun _ => by kernel_rfl) (ix_in hx90).1 (lt_len hn77 (ix_in hx90).2.1) (nil_len hn77 (num_nil (hS75.row 1 rfl).1))) ?_
       obtain ⟨l93, hx94, hL81⟩ := bind_in hL81
       refine gx_s (st_storeix rfl (by kernel_rfl) (by kernel_rfl) (fun _ => by kernel_rfl) hS75 1 rfl hx94) ?_
       rintro w91 hS92
       have hS92 : St _ _ w91 [rowE .i32 21 A24 c25 l21, rowE .u8 5 A33 c34 l93, rowE .u8 5 A41 c42 l40] := hS92
       refine gx_nil ?_
       refine gx_blkN ?_
       refine gx_thenN ?_
       refine hK88 _ _ ?_
       refine gx_region ?_
       refine gx_k (.int .i64 x79) w91 (gx_k (.int .i64 (IntKind.i64.wrap (x79 + 1))) w91 (gx_k (.int .i64 (IntKind.i64.wrap (x79 + 1))) w91 ?_))
       refine gx_nil ?_
       refine gx_thenN ?_
       exact ⟨k80, Nat.lt_succ_self k80, l93, (IntKind.i64.wrap (x79 + 1)), selfA_i (by kernel_rfl), hL81, hS92, (hn77.trans (setx_len hx94).symm)⟩
      ·refine gx_v (.bool false) w74 (run_boolE (decide_eq_false h86) (by kernel_rfl)) ?_
       refine gx_nil ?_
       refine gx_thenN ?_
       refine hK85 _ _ ?_
       refine gx_no (by kernel_rfl) ?_
       refine gx_exit ?_
       refine gx_thenE ?_
       refine gx_thenE ?_
       refine gx_blkE ?_
       refine gx_thenN ?_
       exact ⟨selfA_i (by kernel_rfl), (Option.some.inj hL81), (hS75.pick [0, 2] rfl rfl)⟩
   ·rintro _ w66 ⟨hq118, rfl, hS67⟩
    obtain ⟨u68, rfl⟩ := selfA_u hq118
    try dsimp only at hO71
    refine gx_seq (fun K96 hK97 => ?_)
    refine gx_region ?_
    refine gx_k (.slice A24 l21.length c25) w66 ?_
    have hP98 : St _ _ w66 ([] ++ [rowE .i32 21 A24 c25 l21, rowE .u8 5 A41 c42 l40]) := hS67
    obtain ⟨l100, hc99, hO71⟩ := bind_in hO71
    try dsimp only at hO71
    refine gx_c (pForms_R l100 w66) (pForms_ok N l21 A24 c25 _ hc99 w66 (hP98.vwB 0 rfl) (MirB.atL hcd hP98)) ?_
    rintro _ w103 ⟨A101, c102, rfl, hT105⟩
    have hS104 : St _ _ w103 [rowE .i32 21 A24 c25 l21, rowE .u8 5 A41 c42 l40, rowE .u8 5 A101 c102 l100] := hS67.take _ hT105
    refine gx_k (.slice A41 l40.length c42) w103 ?_
    have hP106 : St _ _ w103 ([] ++ [rowE .i32 21 A24 c25 l21, rowE .u8 5 A41 c42 l40, rowE .u8 5 A101 c102 l100]) := hS104
    obtain ⟨b108, hc107, hO71⟩ := bind_in hO71
    try dsimp only at hO71
    refine gx_c (kSame_R b108 w103) (kSame_ok N l100 l40 A101 c102 A41 c42 _ hc107 w103 (hP106.vwB 2 rfl) (hP106.vwB 1 rfl)) ?_
    rintro _ w109 ⟨rfl, hT111⟩
    have hS110 : St _ _ w109 [rowE .i32 21 A24 c25 l21, rowE .u8 5 A41 c42 l40, rowE .u8 5 A101 c102 l100] := hS104.take _ hT111
    refine gx_k (.bool b108) w109 ?_
    cases b108 with
    | true =>
     try dsimp only at hO71
     have hP112 : St _ _ w109 ([] ++ [rowE .i32 21 A24 c25 l21, rowE .u8 5 A41 c42 l40, rowE .u8 5 A101 c102 l100]) := hS110
     obtain ⟨b114, hc113, hO71⟩ := bind_in hO71
     try dsimp only at hO71
     refine gx_c (kWorks_R b114 w109) (kWorks_ok N  _ hc113 w109 (MirB.atL hcd hP112)) ?_
     rintro _ w115 ⟨rfl, hT117⟩
     have hS116 : St _ _ w115 [rowE .i32 21 A24 c25 l21, rowE .u8 5 A41 c42 l40, rowE .u8 5 A101 c102 l100] := hS110.take _ hT117
     refine gx_k (.bool b114) w115 (gx_k (.bool b114) w115 ?_)
     refine gx_nil ?_
     refine gx_thenN ?_
     refine hK97 _ _ ?_
     refine gx_ret ?_
     obtain rfl := Option.some.inj hO71
     exact gx_fin (.bool b114) (by kernel_rfl) (by kernel_rfl) ⟨_, rfl, rfl, (hS116.pick [] rfl rfl)⟩
    | false =>
     try dsimp only at hO71
     refine gx_o (gx_k (.bool false) w109 (gx_k (.bool false) w109 ?_))
     refine gx_nil ?_
     refine gx_thenN ?_
     refine hK97 _ _ ?_
     refine gx_ret ?_
     obtain rfl := Option.some.inj hO71
     exact gx_fin (.bool false) (by kernel_rfl) (by kernel_rfl) ⟨_, rfl, rfl, (hS110.pick [] rfl rfl)⟩

end Go.Proofs.YtbdhgjaoojimmaaDoor

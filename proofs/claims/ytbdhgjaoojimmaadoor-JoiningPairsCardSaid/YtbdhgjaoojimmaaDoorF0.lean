/-
  The statements, walked.
-/
import Derived.Test.YtbdhgjaoojimmaaDoorP1
import Derived.Test.YtbdhgjaoojimmaaDoorGy
namespace Go.Proofs.YtbdhgjaoojimmaaDoor
open Go Go.RowKit
set_option linter.unusedVariables false

def kSame (_N : Nat) (p0 : List Int) (p1 : List Int) : Option (Bool) :=
 some (((strOfNums p0).toList == (strOfNums p1).toList))

set_option linter.unusedVariables false in
def kSame_R (r : Bool) (w0 : World) (v : Value) (w : World) : Prop := v = .bool r ∧ St [] w0 w []

set_option maxRecDepth 100000 in
set_option maxHeartbeats 4000000 in
theorem kSame_ok (N : Nat) (p0 : List Int) (p1 : List Int) (A0 : Option Addr) (c0 : Nat) (A1 : Option Addr) (c1 : Nat) (r : Bool) (hF : kSame N p0 p1 = some r) (w0 : World) (hv0 : Vw [] .u8 w0 A0 c0 p0) (hv1 : Vw [] .u8 w0 A1 c1 p1) :
  Calls Tryd.prog 11 #[.slice A0 p0.length c0, .slice A1 p1.length c1] w0 fun e w => ∃ v, e = .returned v ∧ kSame_R r w0 v w := by
 have hS0 := St.start w0
 unfold kSame at hF
 refine calls_of Tryd.func11 rfl ⟨((.slice A0 p0.length c0) :: (.slice A1 p1.length c1) :: un 8 ([])).toArray, []⟩ (by kernel_rfl) ?_
 refine gx_seq (fun K1 hK2 => ?_)
 refine gx_region ?_
 refine gx_k (.bool false) w0 ?_
 refine gx_nil ?_
 refine gx_thenN ?_
 refine hK2 _ _ ?_
 refine gx_seq (fun K3 hK4 => ?_)
 refine gx_region ?_
 refine gx_k (.slice A0 p0.length c0) w0 ?_
 refine gx_v (.string (strOfNums p0)) w0 (run_conv rfl (by kernel_rfl) (conv_b _ _ _ (hS0.view hv0))) ?_
 refine gx_k (.slice A1 p1.length c1) w0 ?_
 refine gx_v (.string (strOfNums p1)) w0 (run_conv rfl (by kernel_rfl) (conv_b _ _ _ (hS0.view hv1))) ?_
 refine gx_k (.bool (((strOfNums p0).toList == (strOfNums p1).toList))) w0 (gx_k (.bool (((strOfNums p0).toList == (strOfNums p1).toList))) w0 ?_)
 refine gx_nil ?_
 refine gx_thenN ?_
 refine hK4 _ _ ?_
 refine gx_ret ?_
 obtain rfl := Option.some.inj hF
 exact gx_fin (.bool (((strOfNums p0).toList == (strOfNums p1).toList))) (by kernel_rfl) (by kernel_rfl) ⟨_, rfl, rfl, hS0⟩

def kPick (_N : Nat) (p0 : Int) (p1 : Int) : Option (Int) :=
 (if p1 ≤ 0 then some 0 else (if p1 = 0 then none else (if p1 = 0 then none else some (Int.tmod (IntKind.i64.wrap ((Int.tmod p0 p1) + p1)) p1))))

set_option linter.unusedVariables false in
def kPick_R (r : Int) (w0 : World) (v : Value) (w : World) : Prop := v = .int .i64 r ∧ St [] w0 w []

set_option maxRecDepth 100000 in
set_option maxHeartbeats 4000000 in
theorem kPick_ok (N : Nat) (p0 : Int) (p1 : Int)  (r : Int) (hF : kPick N p0 p1 = some r) (w0 : World)  :
  Calls Tryd.prog 15 #[.int .i64 p0, .int .i64 p1] w0 fun e w => ∃ v, e = .returned v ∧ kPick_R r w0 v w := by
 have hS0 := St.start w0
 unfold kPick at hF
 refine calls_of Tryd.func15 rfl ⟨((.int .i64 p0) :: (.int .i64 p1) :: un 12 ([])).toArray, []⟩ (by kernel_rfl) ?_
 refine gx_seq (fun K1 hK2 => ?_)
 refine gx_region ?_
 refine gx_k (.int .i64 0) w0 ?_
 refine gx_nil ?_
 refine gx_thenN ?_
 refine hK2 _ _ ?_
 refine gx_seq (fun K3 hK4 => ?_)
 refine gx_seq (fun K5 hK6 => ?_)
 refine gx_region ?_
 refine gx_k (.int .i64 p1) w0 ?_
 rcases if_in hF with ⟨h7, hF⟩ | ⟨h7, hF⟩
 ·refine gx_v (.bool true) w0 (run_boolE (decide_eq_true h7) (by kernel_rfl)) ?_
  refine gx_nil ?_
  refine gx_thenN ?_
  refine hK6 _ _ ?_
  refine gx_yes (by kernel_rfl) ?_
  refine gx_seq (fun K8 hK9 => ?_)
  refine gx_region ?_
  refine gx_k (.int .i64 0) w0 ?_
  refine gx_nil ?_
  refine gx_thenN ?_
  refine hK9 _ _ ?_
  refine gx_ret ?_
  refine gx_thenR ?_
  obtain rfl := Option.some.inj hF
  exact gx_fin (.int .i64 0) (by kernel_rfl) (by kernel_rfl) ⟨_, rfl, rfl, hS0⟩
 ·refine gx_v (.bool false) w0 (run_boolE (decide_eq_false h7) (by kernel_rfl)) ?_
  refine gx_nil ?_
  refine gx_thenN ?_
  refine hK6 _ _ ?_
  refine gx_no (by kernel_rfl) ?_
  refine gx_pass ?_
  refine gx_thenN ?_
  refine hK4 _ _ ?_
  refine gx_seq (fun K10 hK11 => ?_)
  refine gx_region ?_
  refine gx_k (.int .i64 p0) w0 (gx_k (.int .i64 p1) w0 ?_)
  rcases if_in hF with ⟨h12, hF⟩ | ⟨h12, hF⟩
  ·cases hF
  ·refine gx_v (.int .i64 (Int.tmod p0 p1)) w0 (run_rem (T := 3) rfl (by kernel_rfl) (by kernel_rfl) rfl h12) ?_
   refine gx_k (.int .i64 p1) w0 (gx_k (.int .i64 (IntKind.i64.wrap ((Int.tmod p0 p1) + p1))) w0 (gx_k (.int .i64 p1) w0 ?_))
   rcases if_in hF with ⟨h13, hF⟩ | ⟨h13, hF⟩
   ·cases hF
   ·refine gx_v (.int .i64 (Int.tmod (IntKind.i64.wrap ((Int.tmod p0 p1) + p1)) p1)) w0 (run_rem (T := 3) rfl (by kernel_rfl) (by kernel_rfl) rfl h13) ?_
    refine gx_k (.int .i64 (Int.tmod (IntKind.i64.wrap ((Int.tmod p0 p1) + p1)) p1)) w0 ?_
    refine gx_nil ?_
    refine gx_thenN ?_
    refine hK11 _ _ ?_
    refine gx_ret ?_
    obtain rfl := Option.some.inj hF
    exact gx_fin (.int .i64 (Int.tmod (IntKind.i64.wrap ((Int.tmod p0 p1) + p1)) p1)) (by kernel_rfl) (by kernel_rfl) ⟨_, rfl, rfl, hS0⟩

def kWorks (N : Nat) : Option (Bool) :=
 ((pForms N ([1576, 1576, 1576])).bind fun l9 => ((((kSame N l9 ([2, 3, 4])).bind fun b27 => (match b27 with | true => ((pForms N ([1576, 1614, 1575, 1576])).bind fun l35 => ((kSame N l35 ([2, 0, 4, 1])).bind fun b45 => some (b45))) | false => some (false))) : Option (Bool)).bind fun b20 => (match b20 with | true => ((pJoins N (1576 : Int) (1575 : Int)).bind fun b51 => (match b51 with | true => ((pJoins N (1575 : Int) (1576 : Int)).bind fun b57 => some (!b57)) | false => some false)) | false => some false)))

set_option linter.unusedVariables false in
def kWorks_R (r : Bool) (w0 : World) (v : Value) (w : World) : Prop := v = .bool r ∧ St [] w0 w []

set_option maxRecDepth 100000 in
set_option maxHeartbeats 4000000 in
theorem kWorks_ok (N : Nat)  (r : Bool) (hF : kWorks N = some r) (w0 : World) (hcd : MirB [] w0) :
  Calls Tryd.prog 8 #[] w0 fun e w => ∃ v, e = .returned v ∧ kWorks_R r w0 v w := by
 have hS0 := St.start w0
 unfold kWorks at hF
 refine calls_of Tryd.func8 rfl ⟨(un 18 ([])).toArray, []⟩ (by kernel_rfl) ?_
 refine gx_seq (fun K1 hK2 => ?_)
 refine gx_region ?_
 refine gx_k (.bool false) w0 ?_
 refine gx_nil ?_
 refine gx_thenN ?_
 refine hK2 _ _ ?_
 refine gx_seq (fun K3 hK4 => ?_)
 refine gx_region ?_
 refine gx_r (st_made .i32 21 [1576, 1576, 1576] hS0 (by show 3 ≤ 1000000000; decide) (by kernel_rfl)) ?_
 rintro _ w5 ⟨rfl, hS6⟩
 have hS6 : St _ _ w5 [rowE .i32 21 (some ⟨w0.heap.size, 0, none⟩) 3 ([1576, 1576, 1576])] := hS6
 have hP7 : St _ _ w5 ([] ++ [rowE .i32 21 (some ⟨w0.heap.size, 0, none⟩) 3 ([1576, 1576, 1576])]) := hS6
 obtain ⟨l9, hc8, hF⟩ := bind_in hF
 try dsimp only at hF
 refine gx_c (pForms_R l9 w5) (pForms_ok N ([1576, 1576, 1576]) (some ⟨w0.heap.size, 0, none⟩) 3 _ hc8 w5 (hP7.vwB 0 rfl) (MirB.atL hcd hP7)) ?_
 rintro _ w12 ⟨A10, c11, rfl, hT14⟩
 have hS13 : St _ _ w12 [rowE .i32 21 (some ⟨w0.heap.size, 0, none⟩) 3 ([1576, 1576, 1576]), rowE .u8 5 A10 c11 l9] := hS6.take _ hT14
 refine gx_r (st_made .u8 5 [2, 3, 4] hS13 (by show 3 ≤ 1000000000; decide) (by kernel_rfl)) ?_
 rintro _ w15 ⟨rfl, hS16⟩
 have hS16 : St _ _ w15 [rowE .i32 21 (some ⟨w0.heap.size, 0, none⟩) 3 ([1576, 1576, 1576]), rowE .u8 5 A10 c11 l9, rowE .u8 5 (some ⟨w12.heap.size, 0, none⟩) 3 ([2, 3, 4])] := hS16
 obtain ⟨c21, hE22, hO23⟩ := bind_in hF
 refine gx_part (l1 := [_, _, _, _, _, _, _]) (fun a w => ∃ (b20 : Bool), selfA (fun u19 => ⟨((.bool false) :: dd u19 1 9 ((.bool b20) :: un 7 ([]))).toArray, []⟩) a ∧ b20 = c21 ∧ St [] w0 w []) rfl ?_ ?_
 ·have hP25 : St _ _ w15 ([] ++ [rowE .i32 21 (some ⟨w0.heap.size, 0, none⟩) 3 ([1576, 1576, 1576]), rowE .u8 5 A10 c11 l9, rowE .u8 5 (some ⟨w12.heap.size, 0, none⟩) 3 ([2, 3, 4])]) := hS16
  obtain ⟨b27, hc26, hE22⟩ := bind_in hE22
  try dsimp only at hE22
  refine gx_c (kSame_R b27 w15) (kSame_ok N l9 ([2, 3, 4]) A10 c11 (some ⟨w12.heap.size, 0, none⟩) 3 _ hc26 w15 (hP25.vwB 1 rfl) (hP25.vwB 2 rfl)) ?_
  rintro _ w28 ⟨rfl, hT30⟩
  have hS29 : St _ _ w28 [rowE .i32 21 (some ⟨w0.heap.size, 0, none⟩) 3 ([1576, 1576, 1576]), rowE .u8 5 A10 c11 l9, rowE .u8 5 (some ⟨w12.heap.size, 0, none⟩) 3 ([2, 3, 4])] := hS16.take _ hT30
  refine gx_k (.bool b27) w28 ?_
  cases b27 with
  | true =>
   try dsimp only at hE22
   refine gx_r (st_made .i32 21 [1576, 1614, 1575, 1576] hS29 (by show 4 ≤ 1000000000; decide) (by kernel_rfl)) ?_
   rintro _ w31 ⟨rfl, hS32⟩
   have hS32 : St _ _ w31 [rowE .i32 21 (some ⟨w0.heap.size, 0, none⟩) 3 ([1576, 1576, 1576]), rowE .u8 5 A10 c11 l9, rowE .u8 5 (some ⟨w12.heap.size, 0, none⟩) 3 ([2, 3, 4]), rowE .i32 21 (some ⟨w28.heap.size, 0, none⟩) 4 ([1576, 1614, 1575, 1576])] := hS32
   have hP33 : St _ _ w31 ([] ++ [rowE .i32 21 (some ⟨w0.heap.size, 0, none⟩) 3 ([1576, 1576, 1576]), rowE .u8 5 A10 c11 l9, rowE .u8 5 (some ⟨w12.heap.size, 0, none⟩) 3 ([2, 3, 4]), rowE .i32 21 (some ⟨w28.heap.size, 0, none⟩) 4 ([1576, 1614, 1575, 1576])]) := hS32
   obtain ⟨l35, hc34, hE22⟩ := bind_in hE22
   try dsimp only at hE22
   refine gx_c (pForms_R l35 w31) (pForms_ok N ([1576, 1614, 1575, 1576]) (some ⟨w28.heap.size, 0, none⟩) 4 _ hc34 w31 (hP33.vwB 3 rfl) (MirB.atL hcd hP33)) ?_
   rintro _ w38 ⟨A36, c37, rfl, hT40⟩
   have hS39 : St _ _ w38 [rowE .i32 21 (some ⟨w0.heap.size, 0, none⟩) 3 ([1576, 1576, 1576]), rowE .u8 5 A10 c11 l9, rowE .u8 5 (some ⟨w12.heap.size, 0, none⟩) 3 ([2, 3, 4]), rowE .i32 21 (some ⟨w28.heap.size, 0, none⟩) 4 ([1576, 1614, 1575, 1576]), rowE .u8 5 A36 c37 l35] := hS32.take _ hT40
   refine gx_r (st_made .u8 5 [2, 0, 4, 1] hS39 (by show 4 ≤ 1000000000; decide) (by kernel_rfl)) ?_
   rintro _ w41 ⟨rfl, hS42⟩
   have hS42 : St _ _ w41 [rowE .i32 21 (some ⟨w0.heap.size, 0, none⟩) 3 ([1576, 1576, 1576]), rowE .u8 5 A10 c11 l9, rowE .u8 5 (some ⟨w12.heap.size, 0, none⟩) 3 ([2, 3, 4]), rowE .i32 21 (some ⟨w28.heap.size, 0, none⟩) 4 ([1576, 1614, 1575, 1576]), rowE .u8 5 A36 c37 l35, rowE .u8 5 (some ⟨w38.heap.size, 0, none⟩) 4 ([2, 0, 4, 1])] := hS42
   have hP43 : St _ _ w41 ([] ++ [rowE .i32 21 (some ⟨w0.heap.size, 0, none⟩) 3 ([1576, 1576, 1576]), rowE .u8 5 A10 c11 l9, rowE .u8 5 (some ⟨w12.heap.size, 0, none⟩) 3 ([2, 3, 4]), rowE .i32 21 (some ⟨w28.heap.size, 0, none⟩) 4 ([1576, 1614, 1575, 1576]), rowE .u8 5 A36 c37 l35, rowE .u8 5 (some ⟨w38.heap.size, 0, none⟩) 4 ([2, 0, 4, 1])]) := hS42
   obtain ⟨b45, hc44, hE22⟩ := bind_in hE22
   try dsimp only at hE22
   refine gx_c (kSame_R b45 w41) (kSame_ok N l35 ([2, 0, 4, 1]) A36 c37 (some ⟨w38.heap.size, 0, none⟩) 4 _ hc44 w41 (hP43.vwB 4 rfl) (hP43.vwB 5 rfl)) ?_
   rintro _ w46 ⟨rfl, hT48⟩
   have hS47 : St _ _ w46 [rowE .i32 21 (some ⟨w0.heap.size, 0, none⟩) 3 ([1576, 1576, 1576]), rowE .u8 5 A10 c11 l9, rowE .u8 5 (some ⟨w12.heap.size, 0, none⟩) 3 ([2, 3, 4]), rowE .i32 21 (some ⟨w28.heap.size, 0, none⟩) 4 ([1576, 1614, 1575, 1576]), rowE .u8 5 A36 c37 l35, rowE .u8 5 (some ⟨w38.heap.size, 0, none⟩) 4 ([2, 0, 4, 1])] := hS42.take _ hT48
   refine gx_k (.bool b45) w46 ?_
   refine gx_nil ?_
   refine gx_thenN ?_
   exact ⟨b45, selfA_i (by kernel_rfl), (Option.some.inj hE22), (hS47.pick [] rfl rfl)⟩
  | false =>
   try dsimp only at hE22
   refine gx_o (gx_o (gx_o (gx_o (gx_k (.bool false) w28 ?_))))
   refine gx_nil ?_
   refine gx_thenN ?_
   exact ⟨false, selfA_i (by kernel_rfl), (Option.some.inj hE22), (hS29.pick [] rfl rfl)⟩
 ·rintro _ w17 ⟨b20, hq24, rfl, hS18⟩
  obtain ⟨u19, rfl⟩ := selfA_u hq24
  try dsimp only at hO23
  refine gx_k (.bool b20) w17 ?_
  cases b20 with
  | true =>
   try dsimp only at hO23
   have hP49 : St _ _ w17 ([] ++ []) := hS18
   obtain ⟨b51, hc50, hO23⟩ := bind_in hO23
   try dsimp only at hO23
   refine gx_c (pJoins_R b51 w17) (pJoins_ok N (1576 : Int) (1575 : Int) _ hc50 w17 ) ?_
   rintro _ w52 ⟨rfl, hT54⟩
   have hS53 : St _ _ w52 [] := hS18.take _ hT54
   refine gx_k (.bool b51) w52 (gx_k (.bool b51) w52 ?_)
   cases b51 with
   | true =>
    try dsimp only at hO23
    have hP55 : St _ _ w52 ([] ++ []) := hS53
    obtain ⟨b57, hc56, hO23⟩ := bind_in hO23
    try dsimp only at hO23
    refine gx_c (pJoins_R b57 w52) (pJoins_ok N (1575 : Int) (1576 : Int) _ hc56 w52 ) ?_
    rintro _ w58 ⟨rfl, hT60⟩
    have hS59 : St _ _ w58 [] := hS53.take _ hT60
    refine gx_k (.bool (!b57)) w58 (gx_k (.bool (!b57)) w58 (gx_k (.bool (!b57)) w58 ?_))
    refine gx_nil ?_
    refine gx_thenN ?_
    refine hK4 _ _ ?_
    refine gx_ret ?_
    obtain rfl := Option.some.inj hO23
    exact gx_fin (.bool (!b57)) (by kernel_rfl) (by kernel_rfl) ⟨_, rfl, rfl, hS59⟩
   | false =>
    try dsimp only at hO23
    refine gx_o (gx_o (gx_k (.bool false) w52 (gx_k (.bool false) w52 ?_)))
    refine gx_nil ?_
    refine gx_thenN ?_
    refine hK4 _ _ ?_
    refine gx_ret ?_
    obtain rfl := Option.some.inj hO23
    exact gx_fin (.bool false) (by kernel_rfl) (by kernel_rfl) ⟨_, rfl, rfl, hS53⟩
  | false =>
   try dsimp only at hO23
   refine gx_o (gx_k (.bool false) w17 (gx_k (.bool false) w17 (gx_o (gx_o (gx_k (.bool false) w17 (gx_k (.bool false) w17 ?_))))))
   refine gx_nil ?_
   refine gx_thenN ?_
   refine hK4 _ _ ?_
   refine gx_ret ?_
   obtain rfl := Option.some.inj hO23
   exact gx_fin (.bool false) (by kernel_rfl) (by kernel_rfl) ⟨_, rfl, rfl, hS18⟩

end Go.Proofs.YtbdhgjaoojimmaaDoor

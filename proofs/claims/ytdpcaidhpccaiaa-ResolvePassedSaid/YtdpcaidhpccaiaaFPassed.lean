/-
  ResolvePassed, walked.
-/
import Derived.Test.YtdpcaidhpccaiaaF0
namespace Go.Proofs.Ytdpcaidhpccaiaa
open Go Go.RowKit
set_option linter.unusedVariables false

def fPassed_L2 (N : Nat) (p0 : List Int) (p4 : List Int) (x73 : Int) : Nat → (List Int) → (List Int) → Int → Option (List Int × List Int)
 | 0, _, _, _ => none
 | k117+1, l112, l115, x116 => (if x116 < ((p4.length : Nat) : Int) then ((ix p4 x116).bind fun x128 => (if (IntKind.i64.wrap (((p0.length : Nat) : Int) + 1)) = 0 then none else (if (Int.tmod (IntKind.i64.wrap x128) (IntKind.i64.wrap (((p0.length : Nat) : Int) + 1))) = x73 then ((apx l112 ([10])).bind fun l136 => ((apx l115 ([10])).bind fun l145 => fPassed_L2 N p0 p4 x73 k117 l136 l145 (IntKind.i64.wrap (x116 + 1)))) else fPassed_L2 N p0 p4 x73 k117 l112 l115 (IntKind.i64.wrap (x116 + 1))))) else some ((l112, l115)))
def fPassed_L1 (N : Nat) (p0 : List Int) (p4 : List Int) (l35 : List Int) : Nat → (List Int) → (List Int) → Int → Option (List Int × List Int)
 | 0, _, _, _ => none
 | k74+1, l69, l72, x73 => (if x73 ≤ ((p0.length : Nat) : Int) then ((((fPassed_L2 N p0 p4 x73 N l69 l72 0 : Option (List Int × List Int)).bind fun (l98, l101) => (if x73 < ((p0.length : Nat) : Int) then ((ix p0 x73).bind fun x158 => ((apx l98 ([x158])).bind fun l162 => ((ix l35 x73).bind fun x169 => ((apx l101 ([x169])).bind fun l173 => some ((l162, l173)))))) else some ((l98, l101)))) : Option (List Int × List Int)).bind fun (l86, l89) => fPassed_L1 N p0 p4 l35 k74 l86 l89 (IntKind.i64.wrap (x73 + 1))) else some ((l69, l72)))
def fPassed (N : Nat) (p0 : List Int) (p1 : Int) (p2 : Int) (p3 : Int) (p4 : List Int) : Option (Bool) :=
 (((if ((p0.length : Nat) : Int) > 1500 then ((kWorks N ).bind fun b16 => some (Ctl.ret b16)) else (if ((p4.length : Nat) : Int) > 100 then ((kWorks N ).bind fun b25 => some (Ctl.ret b25)) else some (Ctl.go ()))) : Option (Ctl (Unit) (Bool))).bind fun | Ctl.go () => ((pNeutral N p0 p1 p2 p3).bind fun l35 => (if ((l35.length : Nat) : Int) ≠ ((p0.length : Nat) : Int) then some false else ((fPassed_L1 N p0 p4 l35 N ([]) ([]) 0 : Option (List Int × List Int)).bind fun (l53, l56) => ((pNeutral N l53 p1 p2 p3).bind fun l187 => ((kIs N l187 l56).bind fun b195 => (match b195 with | true => ((kWorks N ).bind fun b201 => some b201) | false => some false)))))) | Ctl.ret r => some r)

set_option linter.unusedVariables false in
def fPassed_R (r : Bool) (w0 : World) (v : Value) (w : World) : Prop := v = .bool r ∧ St [] w0 w []

set_option maxRecDepth 100000 in
set_option maxHeartbeats 4000000 in
theorem fPassed_ok (N : Nat) (p0 : List Int) (p1 : Int) (p2 : Int) (p3 : Int) (p4 : List Int) (A0 : Option Addr) (c0 : Nat) (A4 : Option Addr) (c4 : Nat) (r : Bool) (hF : fPassed N p0 p1 p2 p3 p4 = some r) (w0 : World) (hv0 : Vw [] .u8 w0 A0 c0 p0) (hv4 : Vw [] .u16 w0 A4 c4 p4) :
  Calls Try.prog 12 #[.slice A0 p0.length c0, .int .u8 p1, .int .u8 p2, .int .u8 p3, .slice A4 p4.length c4] w0 fun e w => ∃ v, e = .returned v ∧ fPassed_R r w0 v w := by
 have hS0 := St.start w0
 unfold fPassed at hF
 refine calls_of Try.func12 rfl ⟨((.slice A0 p0.length c0) :: (.int .u8 p1) :: (.int .u8 p2) :: (.int .u8 p3) :: (.slice A4 p4.length c4) :: un 87 ([])).toArray, []⟩ (by kernel_rfl) ?_
 refine gx_seq (fun K1 hK2 => ?_)
 refine gx_region ?_
 refine gx_k (.bool false) w0 ?_
 refine gx_nil ?_
 refine gx_thenN ?_
 refine hK2 _ _ ?_
 obtain ⟨c6, hE7, hO8⟩ := bind_in hF
 refine gx_cut (fun a w => selfA (fun u5 => ⟨((.slice A0 p0.length c0) :: (.int .u8 p1) :: (.int .u8 p2) :: (.int .u8 p3) :: (.slice A4 p4.length c4) :: un 5 ((u5 10) :: un 5 (dd u5 16 9 (un 67 ([]))))).toArray, []⟩) a ∧ Ctl.go () = c6 ∧ St [] w0 w []) ?_ ?_
 ·refine gx_seq (fun K9 hK10 => ?_)
  refine gx_region ?_
  refine gx_k (.slice A0 p0.length c0) w0 (gx_k (.int .i64 ((p0.length : Nat) : Int)) w0 ?_)
  rcases if_in hE7 with ⟨h11, hE7⟩ | ⟨h11, hE7⟩
  ·refine gx_v (.bool true) w0 (run_boolE (decide_eq_true h11) (by kernel_rfl)) ?_
   refine gx_k (.bool true) w0 (gx_o (gx_o (gx_o (gx_k (.bool true) w0 ?_))))
   refine gx_nil ?_
   refine gx_thenN ?_
   refine hK10 _ _ ?_
   refine gx_yes (by kernel_rfl) ?_
   refine gx_seq (fun K12 hK13 => ?_)
   refine gx_region ?_
   have hP14 : St _ _ w0 ([] ++ []) := hS0
   obtain ⟨b16, hc15, hE7⟩ := bind_in hE7
   try dsimp only at hE7
   refine gx_c (kWorks_R b16 w0) (kWorks_ok N  _ hc15 w0 ) ?_
   rintro _ w17 ⟨rfl, hT19⟩
   have hS18 : St _ _ w17 [] := hS0.take _ hT19
   refine gx_k (.bool b16) w17 ?_
   refine gx_nil ?_
   refine gx_thenN ?_
   refine hK13 _ _ ?_
   refine gx_ret ?_
   refine gx_thenR ?_
   obtain rfl := Option.some.inj hE7
   try dsimp only at hO8
   obtain rfl := Option.some.inj hO8
   exact gx_fin (.bool b16) (by kernel_rfl) (by kernel_rfl) ⟨_, rfl, rfl, hS18⟩
  ·refine gx_v (.bool false) w0 (run_boolE (decide_eq_false h11) (by kernel_rfl)) ?_
   refine gx_k (.bool false) w0 (gx_k (.slice A4 p4.length c4) w0 (gx_k (.int .i64 ((p4.length : Nat) : Int)) w0 ?_))
   rcases if_in hE7 with ⟨h20, hE7⟩ | ⟨h20, hE7⟩
   ·refine gx_v (.bool true) w0 (run_boolE (decide_eq_true h20) (by kernel_rfl)) ?_
    refine gx_k (.bool true) w0 ?_
    refine gx_nil ?_
    refine gx_thenN ?_
    refine hK10 _ _ ?_
    refine gx_yes (by kernel_rfl) ?_
    refine gx_seq (fun K21 hK22 => ?_)
    refine gx_region ?_
    have hP23 : St _ _ w0 ([] ++ []) := hS0
    obtain ⟨b25, hc24, hE7⟩ := bind_in hE7
    try dsimp only at hE7
    refine gx_c (kWorks_R b25 w0) (kWorks_ok N  _ hc24 w0 ) ?_
    rintro _ w26 ⟨rfl, hT28⟩
    have hS27 : St _ _ w26 [] := hS0.take _ hT28
    refine gx_k (.bool b25) w26 ?_
    refine gx_nil ?_
    refine gx_thenN ?_
    refine hK22 _ _ ?_
    refine gx_ret ?_
    refine gx_thenR ?_
    obtain rfl := Option.some.inj hE7
    try dsimp only at hO8
    obtain rfl := Option.some.inj hO8
    exact gx_fin (.bool b25) (by kernel_rfl) (by kernel_rfl) ⟨_, rfl, rfl, hS27⟩
   ·refine gx_v (.bool false) w0 (run_boolE (decide_eq_false h20) (by kernel_rfl)) ?_
    refine gx_k (.bool false) w0 ?_
    refine gx_nil ?_
    refine gx_thenN ?_
    refine hK10 _ _ ?_
    refine gx_no (by kernel_rfl) ?_
    refine gx_pass ?_
    refine gx_thenN ?_
    exact ⟨selfA_i (by kernel_rfl), (Option.some.inj hE7), hS0⟩
 ·rintro _ w3 ⟨hq206, rfl, hS4⟩
  obtain ⟨u5, rfl⟩ := selfA_u hq206
  try dsimp only at hO8
  refine gx_seq (fun K29 hK30 => ?_)
  refine gx_region ?_
  refine gx_k (.slice none 0 0) w3 (gx_k (.slice none 0 0) w3 ?_)
  refine gx_nil ?_
  refine gx_thenN ?_
  refine hK30 _ _ ?_
  refine gx_seq (fun K31 hK32 => ?_)
  refine gx_region ?_
  refine gx_k (.slice A0 p0.length c0) w3 (gx_k (.int .u8 p1) w3 (gx_k (.int .u8 p2) w3 (gx_k (.int .u8 p3) w3 ?_)))
  have hP33 : St _ _ w3 ([] ++ []) := hS4
  obtain ⟨l35, hc34, hO8⟩ := bind_in hO8
  try dsimp only at hO8
  refine gx_c (pNeutral_R l35 w3) (pNeutral_ok N p0 p1 p2 p3 A0 c0 _ hc34 w3 (hP33.vwA hv0)) ?_
  rintro _ w38 ⟨A36, c37, rfl, hT40⟩
  have hS39 : St _ _ w38 [rowE .u8 23 A36 c37 l35] := hS4.take _ hT40
  refine gx_k (.slice A36 l35.length c37) w38 ?_
  refine gx_nil ?_
  refine gx_thenN ?_
  refine hK32 _ _ ?_
  refine gx_seq (fun K41 hK42 => ?_)
  refine gx_seq (fun K43 hK44 => ?_)
  refine gx_region ?_
  refine gx_k (.slice A36 l35.length c37) w38 (gx_k (.int .i64 ((l35.length : Nat) : Int)) w38 (gx_k (.slice A0 p0.length c0) w38 (gx_k (.int .i64 ((p0.length : Nat) : Int)) w38 ?_)))
  rcases if_in hO8 with ⟨h45, hO8⟩ | ⟨h45, hO8⟩
  ·refine gx_v (.bool true) w38 (run_boolE (ne_yes h45) (by kernel_rfl)) ?_
   refine gx_nil ?_
   refine gx_thenN ?_
   refine hK44 _ _ ?_
   refine gx_yes (by kernel_rfl) ?_
   refine gx_seq (fun K46 hK47 => ?_)
   refine gx_region ?_
   refine gx_k (.bool false) w38 ?_
   refine gx_nil ?_
   refine gx_thenN ?_
   refine hK47 _ _ ?_
   refine gx_ret ?_
   refine gx_thenR ?_
   obtain rfl := Option.some.inj hO8
   exact gx_fin (.bool false) (by kernel_rfl) (by kernel_rfl) ⟨_, rfl, rfl, (hS39.pick [] rfl rfl)⟩
  ·refine gx_v (.bool false) w38 (run_boolE (ne_no h45) (by kernel_rfl)) ?_
   refine gx_nil ?_
   refine gx_thenN ?_
   refine hK44 _ _ ?_
   refine gx_no (by kernel_rfl) ?_
   refine gx_pass ?_
   refine gx_thenN ?_
   refine hK42 _ _ ?_
   obtain ⟨c57, hE58, hO59⟩ := bind_in hO8
   refine gx_cut (fun a w => ∃ (l53 : List Int) (l56 : List Int) (A51 : Option Addr) (c52 : Nat) (A54 : Option Addr) (c55 : Nat), selfA (fun u50 => ⟨((u50 0) :: (.int .u8 p1) :: (.int .u8 p2) :: (.int .u8 p3) :: (u50 4) :: un 5 ((u5 10) :: (.slice A51 l53.length c52) :: (.slice A54 l56.length c55) :: dd u50 13 3 (dd u5 16 9 ((u50 25) :: (.int .u8 p1) :: (.int .u8 p2) :: (.int .u8 p3) :: dd u50 29 2 ((.int .i64 ((l35.length : Nat) : Int)) :: (u50 32) :: (.int .i64 ((p0.length : Nat) : Int)) :: (.bool false) :: dd u50 35 47 (un 10 ([]))))))).toArray, []⟩) a ∧ (l53, l56) = c57 ∧ St [] w0 w [rowE .u8 23 A51 c52 l53, rowE .u8 23 A54 c55 l56]) ?_ ?_
   ·refine gx_seq (fun K60 hK61 => ?_)
    refine gx_region ?_
    refine gx_k (.int .i64 0) w38 ?_
    refine gx_nil ?_
    refine gx_thenN ?_
    refine hK61 _ _ ?_
    refine gx_block ?_
    have hS62 : St _ _ w38 [rowE .u8 23 A36 c37 l35, rowE .u8 23 none 0 ([])] := hS39.nilrow .u8 23
    have hS63 : St _ _ w38 [rowE .u8 23 A36 c37 l35, rowE .u8 23 none 0 ([]), rowE .u8 23 none 0 ([])] := hS62.nilrow .u8 23
    refine gx_loop (fun k a w => ∃ (l69 : List Int) (l72 : List Int) (x73 : Int) (A67 : Option Addr) (c68 : Nat) (A70 : Option Addr) (c71 : Nat), selfA (fun u66 => ⟨((.slice A0 p0.length c0) :: (.int .u8 p1) :: (.int .u8 p2) :: (.int .u8 p3) :: (.slice A4 p4.length c4) :: un 5 ((u5 10) :: (.slice A67 l69.length c68) :: (.slice A70 l72.length c71) :: (.slice A36 l35.length c37) :: (.int .i64 x73) :: (u66 15) :: dd u5 16 9 ((u66 25) :: (.int .u8 p1) :: (.int .u8 p2) :: (.int .u8 p3) :: dd u66 29 2 ((.int .i64 ((l35.length : Nat) : Int)) :: (u66 32) :: (.int .i64 ((p0.length : Nat) : Int)) :: (.bool false) :: dd u66 35 47 (un 10 ([])))))).toArray, []⟩) a ∧ fPassed_L1 N p0 p4 l35 k l69 l72 x73 = some c57 ∧ St [] w0 w [rowE .u8 23 A67 c68 l69, rowE .u8 23 A70 c71 l72, rowE .u8 23 A36 c37 l35]) N ?_ ?_
    ·exact ⟨([]), ([]), 0, none, 0, none, 0, selfA_i (by kernel_rfl), hE58, (hS63.pick [1, 2, 0] rfl rfl)⟩
    ·rintro k74 _ w64 ⟨l69, l72, x73, A67, c68, A70, c71, hq182, hL75, hS65⟩
     obtain ⟨u66, rfl⟩ := selfA_u hq182
     cases k74 with
     | zero => cases hL75
     | succ k74 =>
      first | rw [fPassed_L1] at hL75 | unfold fPassed_L1 at hL75
      refine gx_seq (fun K76 hK77 => ?_)
      refine gx_seq (fun K78 hK79 => ?_)
      refine gx_region ?_
      refine gx_k (.int .i64 x73) w64 (gx_k (.slice A0 p0.length c0) w64 (gx_k (.int .i64 ((p0.length : Nat) : Int)) w64 ?_))
      rcases if_in hL75 with ⟨h80, hL75⟩ | ⟨h80, hL75⟩
      ·refine gx_v (.bool true) w64 (run_boolE (decide_eq_true h80) (by kernel_rfl)) ?_
       refine gx_nil ?_
       refine gx_thenN ?_
       refine hK79 _ _ ?_
       refine gx_yes (by kernel_rfl) ?_
       refine gx_pass ?_
       refine gx_thenN ?_
       refine hK77 _ _ ?_
       obtain ⟨c90, hE91, hO92⟩ := bind_in hL75
       refine gx_cut (fun a w => ∃ (l86 : List Int) (l89 : List Int) (A84 : Option Addr) (c85 : Nat) (A87 : Option Addr) (c88 : Nat), selfA (fun u83 => ⟨((.slice A0 p0.length c0) :: (.int .u8 p1) :: (.int .u8 p2) :: (.int .u8 p3) :: (.slice A4 p4.length c4) :: un 5 ((u5 10) :: (.slice A84 l86.length c85) :: (.slice A87 l89.length c88) :: (.slice A36 l35.length c37) :: (.int .i64 x73) :: (u83 15) :: dd u5 16 9 ((u66 25) :: (.int .u8 p1) :: (.int .u8 p2) :: (.int .u8 p3) :: dd u66 29 2 ((.int .i64 ((l35.length : Nat) : Int)) :: (u66 32) :: (.int .i64 ((p0.length : Nat) : Int)) :: (.bool false) :: (.int .i64 x73) :: (u83 36) :: (.int .i64 ((p0.length : Nat) : Int)) :: (.bool true) :: dd u66 39 2 (dd u83 41 41 (un 10 ([]))))))).toArray, []⟩) a ∧ (l86, l89) = c90 ∧ St [] w0 w [rowE .u8 23 A84 c85 l86, rowE .u8 23 A87 c88 l89, rowE .u8 23 A36 c37 l35]) ?_ ?_
       ·refine gx_block ?_
        obtain ⟨c102, hE103, hO104⟩ := bind_in hE91
        refine gx_cut (fun a w => ∃ (l98 : List Int) (l101 : List Int) (A96 : Option Addr) (c97 : Nat) (A99 : Option Addr) (c100 : Nat), selfA (fun u95 => ⟨((.slice A0 p0.length c0) :: (.int .u8 p1) :: (.int .u8 p2) :: (.int .u8 p3) :: (.slice A4 p4.length c4) :: un 5 ((u5 10) :: (.slice A96 l98.length c97) :: (.slice A99 l101.length c100) :: (.slice A36 l35.length c37) :: (.int .i64 x73) :: (u95 15) :: dd u5 16 9 ((u66 25) :: (.int .u8 p1) :: (.int .u8 p2) :: (.int .u8 p3) :: dd u66 29 2 ((.int .i64 ((l35.length : Nat) : Int)) :: (u66 32) :: (.int .i64 ((p0.length : Nat) : Int)) :: (.bool false) :: (.int .i64 x73) :: (u95 36) :: (.int .i64 ((p0.length : Nat) : Int)) :: (.bool true) :: dd u66 39 2 (dd u95 41 23 (dd u66 64 18 (un 10 ([])))))))).toArray, []⟩) a ∧ (l98, l101) = c102 ∧ St [] w0 w [rowE .u8 23 A96 c97 l98, rowE .u8 23 A99 c100 l101, rowE .u8 23 A36 c37 l35]) ?_ ?_
        ·refine gx_seq (fun K105 hK106 => ?_)
         refine gx_region ?_
         refine gx_k (.int .i64 0) w64 ?_
         refine gx_nil ?_
         refine gx_thenN ?_
         refine hK106 _ _ ?_
         refine gx_block ?_
         refine gx_loop (fun k a w => ∃ (l112 : List Int) (l115 : List Int) (x116 : Int) (A110 : Option Addr) (c111 : Nat) (A113 : Option Addr) (c114 : Nat), selfA (fun u109 => ⟨((.slice A0 p0.length c0) :: (.int .u8 p1) :: (.int .u8 p2) :: (.int .u8 p3) :: (.slice A4 p4.length c4) :: un 5 ((u5 10) :: (.slice A110 l112.length c111) :: (.slice A113 l115.length c114) :: (.slice A36 l35.length c37) :: (.int .i64 x73) :: (.int .i64 x116) :: dd u5 16 9 ((u66 25) :: (.int .u8 p1) :: (.int .u8 p2) :: (.int .u8 p3) :: dd u66 29 2 ((.int .i64 ((l35.length : Nat) : Int)) :: (u66 32) :: (.int .i64 ((p0.length : Nat) : Int)) :: (.bool false) :: (.int .i64 x73) :: (u109 36) :: (.int .i64 ((p0.length : Nat) : Int)) :: (.bool true) :: dd u66 39 2 (dd u109 41 23 (dd u66 64 18 (un 10 ([])))))))).toArray, []⟩) a ∧ fPassed_L2 N p0 p4 x73 k l112 l115 x116 = some c102 ∧ St [] w0 w [rowE .u8 23 A110 c111 l112, rowE .u8 23 A113 c114 l115, rowE .u8 23 A36 c37 l35]) N ?_ ?_
         ·exact ⟨l69, l72, 0, A67, c68, A70, c71, selfA_i (by kernel_rfl), hE103, hS65⟩
         ·rintro k117 _ w107 ⟨l112, l115, x116, A110, c111, A113, c114, hq152, hL118, hS108⟩
          obtain ⟨u109, rfl⟩ := selfA_u hq152
          cases k117 with
          | zero => cases hL118
          | succ k117 =>
           first | rw [fPassed_L2] at hL118 | unfold fPassed_L2 at hL118
           refine gx_seq (fun K119 hK120 => ?_)
           refine gx_seq (fun K121 hK122 => ?_)
           refine gx_region ?_
           refine gx_k (.int .i64 x116) w107 (gx_k (.slice A4 p4.length c4) w107 (gx_k (.int .i64 ((p4.length : Nat) : Int)) w107 ?_))
           rcases if_in hL118 with ⟨h123, hL118⟩ | ⟨h123, hL118⟩
           ·refine gx_v (.bool true) w107 (run_boolE (decide_eq_true h123) (by kernel_rfl)) ?_
            refine gx_nil ?_
            refine gx_thenN ?_
            refine hK122 _ _ ?_
            refine gx_yes (by kernel_rfl) ?_
            refine gx_pass ?_
            refine gx_thenN ?_
            refine hK120 _ _ ?_
            refine gx_seq (fun K124 hK125 => ?_)
            refine gx_block ?_
            refine gx_seq (fun K126 hK127 => ?_)
            refine gx_region ?_
            refine gx_k (.slice A4 p4.length c4) w107 (gx_k (.int .i64 x116) w107 ?_)
            obtain ⟨x128, hx129, hL118⟩ := bind_in hL118
            refine gx_v (.pointer (Option.map (fun (p : Addr) => p.add (Int.toNat x116 * 1)) A4)) w107 (run_ixaddr (E := 30) (s := 1) (k := .i64) (c := c4) rfl (by kernel_rfl) (by kernel_rfl) (by kernel_rfl) (fun _ => by kernel_rfl) (ix_in hx129).1 (ix_in hx129).2.1 (num_nil (hS108.view hv4))) ?_
            refine gx_v (.int .u16 x128) w107 (run_loadix rfl (by kernel_rfl) (fun _ => by kernel_rfl) (hS108.view hv4) hx129) ?_
            refine gx_k (.int .i64 (IntKind.i64.wrap x128)) w107 (gx_k (.slice A0 p0.length c0) w107 (gx_k (.int .i64 ((p0.length : Nat) : Int)) w107 (gx_k (.int .i64 (IntKind.i64.wrap (((p0.length : Nat) : Int) + 1))) w107 ?_)))
            rcases if_in hL118 with ⟨h130, hL118⟩ | ⟨h130, hL118⟩
            ·cases hL118
            ·refine gx_v (.int .i64 (Int.tmod (IntKind.i64.wrap x128) (IntKind.i64.wrap (((p0.length : Nat) : Int) + 1)))) w107 (run_rem (T := 3) rfl (by kernel_rfl) (by kernel_rfl) rfl h130) ?_
             refine gx_k (.int .i64 x73) w107 ?_
             rcases if_in hL118 with ⟨h131, hL118⟩ | ⟨h131, hL118⟩
             ·refine gx_v (.bool true) w107 (run_boolE (decide_eq_true h131) (by kernel_rfl)) ?_
              refine gx_nil ?_
              refine gx_thenN ?_
              refine hK127 _ _ ?_
              refine gx_yes (by kernel_rfl) ?_
              refine gx_seq (fun K132 hK133 => ?_)
              refine gx_region ?_
              refine gx_k (.slice A110 l112.length c111) w107 ?_
              refine gx_r (st_made .u8 23 [10] hS108 (by show 1 ≤ 1000000000; decide) (by kernel_rfl)) ?_
              rintro _ w134 ⟨rfl, hS135⟩
              have hS135 : St _ _ w134 [rowE .u8 23 A110 c111 l112, rowE .u8 23 A113 c114 l115, rowE .u8 23 A36 c37 l35, rowE .u8 23 (some ⟨w107.heap.size, 0, none⟩) 1 ([10])] := hS135
              obtain ⟨l136, ha137, hL118⟩ := bind_in hL118
              obtain ⟨ha137, hq138⟩ := apx_in ha137
              refine gx_r (st_append rfl (by kernel_rfl) (by kernel_rfl) hS135 0 rfl (hS135.row 3 rfl).1 (hS135.row 3 rfl).2 ha137 (by kernel_rfl) (by kernel_rfl)) ?_
              rintro _ w141 ⟨A139, c140, rfl, hS142⟩
              rw [← hq138] at hS142 ⊢
              have hS142 : St _ _ w141 [rowE .u8 23 A139 c140 l136, rowE .u8 23 A113 c114 l115, rowE .u8 23 A36 c37 l35, rowE .u8 23 (some ⟨w107.heap.size, 0, none⟩) 1 ([10])] := hS142
              refine gx_k (.slice A139 l136.length c140) w141 ?_
              refine gx_nil ?_
              refine gx_thenN ?_
              refine hK133 _ _ ?_
              refine gx_region ?_
              refine gx_k (.slice A113 l115.length c114) w141 ?_
              refine gx_r (st_made .u8 23 [10] hS142 (by show 1 ≤ 1000000000; decide) (by kernel_rfl)) ?_
              rintro _ w143 ⟨rfl, hS144⟩
              have hS144 : St _ _ w143 [rowE .u8 23 A139 c140 l136, rowE .u8 23 A113 c114 l115, rowE .u8 23 A36 c37 l35, rowE .u8 23 (some ⟨w107.heap.size, 0, none⟩) 1 ([10]), rowE .u8 23 (some ⟨w141.heap.size, 0, none⟩) 1 ([10])] := hS144
              obtain ⟨l145, ha146, hL118⟩ := bind_in hL118
              obtain ⟨ha146, hq147⟩ := apx_in ha146
              refine gx_r (st_append rfl (by kernel_rfl) (by kernel_rfl) hS144 1 rfl (hS144.row 4 rfl).1 (hS144.row 4 rfl).2 ha146 (by kernel_rfl) (by kernel_rfl)) ?_
              rintro _ w150 ⟨A148, c149, rfl, hS151⟩
              rw [← hq147] at hS151 ⊢
              have hS151 : St _ _ w150 [rowE .u8 23 A139 c140 l136, rowE .u8 23 A148 c149 l145, rowE .u8 23 A36 c37 l35, rowE .u8 23 (some ⟨w107.heap.size, 0, none⟩) 1 ([10]), rowE .u8 23 (some ⟨w141.heap.size, 0, none⟩) 1 ([10])] := hS151
              refine gx_k (.slice A148 l145.length c149) w150 ?_
              refine gx_nil ?_
              refine gx_blkN ?_
              refine gx_thenN ?_
              refine hK125 _ _ ?_
              refine gx_region ?_
              refine gx_k (.int .i64 x116) w150 (gx_k (.int .i64 (IntKind.i64.wrap (x116 + 1))) w150 (gx_k (.int .i64 (IntKind.i64.wrap (x116 + 1))) w150 ?_))
              refine gx_nil ?_
              refine gx_thenN ?_
              exact ⟨k117, Nat.lt_succ_self k117, l136, l145, (IntKind.i64.wrap (x116 + 1)), A139, c140, A148, c149, selfA_i (by kernel_rfl), hL118, (hS151.pick [0, 1, 2] rfl rfl)⟩
             ·refine gx_v (.bool false) w107 (run_boolE (decide_eq_false h131) (by kernel_rfl)) ?_
              refine gx_nil ?_
              refine gx_thenN ?_
              refine hK127 _ _ ?_
              refine gx_no (by kernel_rfl) ?_
              refine gx_pass ?_
              refine gx_blkN ?_
              refine gx_thenN ?_
              refine hK125 _ _ ?_
              refine gx_region ?_
              refine gx_k (.int .i64 x116) w107 (gx_k (.int .i64 (IntKind.i64.wrap (x116 + 1))) w107 (gx_k (.int .i64 (IntKind.i64.wrap (x116 + 1))) w107 ?_))
              refine gx_nil ?_
              refine gx_thenN ?_
              exact ⟨k117, Nat.lt_succ_self k117, l112, l115, (IntKind.i64.wrap (x116 + 1)), A110, c111, A113, c114, selfA_i (by kernel_rfl), hL118, hS108⟩
           ·refine gx_v (.bool false) w107 (run_boolE (decide_eq_false h123) (by kernel_rfl)) ?_
            refine gx_nil ?_
            refine gx_thenN ?_
            refine hK122 _ _ ?_
            refine gx_no (by kernel_rfl) ?_
            refine gx_exit ?_
            refine gx_thenE ?_
            refine gx_thenE ?_
            refine gx_blkE ?_
            refine gx_thenN ?_
            exact ⟨l112, l115, A110, c111, A113, c114, selfA_i (by kernel_rfl), (Option.some.inj hL118), hS108⟩
        ·rintro _ w93 ⟨l98, l101, A96, c97, A99, c100, hq180, rfl, hS94⟩
         obtain ⟨u95, rfl⟩ := selfA_u hq180
         try dsimp only at hO104
         refine gx_seq (fun K153 hK154 => ?_)
         refine gx_region ?_
         refine gx_k (.int .i64 x73) w93 (gx_k (.slice A0 p0.length c0) w93 (gx_k (.int .i64 ((p0.length : Nat) : Int)) w93 ?_))
         rcases if_in hO104 with ⟨h155, hO104⟩ | ⟨h155, hO104⟩
         ·refine gx_v (.bool true) w93 (run_boolE (decide_eq_true h155) (by kernel_rfl)) ?_
          refine gx_nil ?_
          refine gx_thenN ?_
          refine hK154 _ _ ?_
          refine gx_yes (by kernel_rfl) ?_
          refine gx_seq (fun K156 hK157 => ?_)
          refine gx_region ?_
          refine gx_k (.slice A96 l98.length c97) w93 (gx_k (.slice A0 p0.length c0) w93 (gx_k (.int .i64 x73) w93 ?_))
          obtain ⟨x158, hx159, hO104⟩ := bind_in hO104
          refine gx_v (.pointer (Option.map (fun (p : Addr) => p.add (Int.toNat x73 * 1)) A0)) w93 (run_ixaddr (E := 23) (s := 1) (k := .i64) (c := c0) rfl (by kernel_rfl) (by kernel_rfl) (by kernel_rfl) (fun _ => by kernel_rfl) (ix_in hx159).1 (ix_in hx159).2.1 (num_nil (hS94.view hv0))) ?_
          refine gx_v (.int .u8 x158) w93 (run_loadix rfl (by kernel_rfl) (fun _ => by kernel_rfl) (hS94.view hv0) hx159) ?_
          refine gx_r (st_made .u8 23 [x158] hS94 (by show 1 ≤ 1000000000; decide) (by kernel_rfl)) ?_
          rintro _ w160 ⟨rfl, hS161⟩
          have hS161 : St _ _ w160 [rowE .u8 23 A96 c97 l98, rowE .u8 23 A99 c100 l101, rowE .u8 23 A36 c37 l35, rowE .u8 23 (some ⟨w93.heap.size, 0, none⟩) 1 ([x158])] := hS161
          obtain ⟨l162, ha163, hO104⟩ := bind_in hO104
          obtain ⟨ha163, hq164⟩ := apx_in ha163
          refine gx_r (st_append rfl (by kernel_rfl) (by kernel_rfl) hS161 0 rfl (hS161.row 3 rfl).1 (hS161.row 3 rfl).2 ha163 (by kernel_rfl) (by kernel_rfl)) ?_
          rintro _ w167 ⟨A165, c166, rfl, hS168⟩
          rw [← hq164] at hS168 ⊢
          have hS168 : St _ _ w167 [rowE .u8 23 A165 c166 l162, rowE .u8 23 A99 c100 l101, rowE .u8 23 A36 c37 l35, rowE .u8 23 (some ⟨w93.heap.size, 0, none⟩) 1 ([x158])] := hS168
          refine gx_k (.slice A165 l162.length c166) w167 ?_
          refine gx_nil ?_
          refine gx_thenN ?_
          refine hK157 _ _ ?_
          refine gx_region ?_
          refine gx_k (.slice A99 l101.length c100) w167 (gx_k (.slice A36 l35.length c37) w167 (gx_k (.int .i64 x73) w167 ?_))
          obtain ⟨x169, hx170, hO104⟩ := bind_in hO104
          refine gx_v (.pointer (Option.map (fun (p : Addr) => p.add (Int.toNat x73 * 1)) A36)) w167 (run_ixaddr (E := 23) (s := 1) (k := .i64) (c := c37) rfl (by kernel_rfl) (by kernel_rfl) (by kernel_rfl) (fun _ => by kernel_rfl) (ix_in hx170).1 (ix_in hx170).2.1 (num_nil (hS168.row 2 rfl).1)) ?_
          refine gx_v (.int .u8 x169) w167 (run_loadix rfl (by kernel_rfl) (fun _ => by kernel_rfl) (hS168.row 2 rfl).1 hx170) ?_
          refine gx_r (st_made .u8 23 [x169] hS168 (by show 1 ≤ 1000000000; decide) (by kernel_rfl)) ?_
          rintro _ w171 ⟨rfl, hS172⟩
          have hS172 : St _ _ w171 [rowE .u8 23 A165 c166 l162, rowE .u8 23 A99 c100 l101, rowE .u8 23 A36 c37 l35, rowE .u8 23 (some ⟨w93.heap.size, 0, none⟩) 1 ([x158]), rowE .u8 23 (some ⟨w167.heap.size, 0, none⟩) 1 ([x169])] := hS172
          obtain ⟨l173, ha174, hO104⟩ := bind_in hO104
          obtain ⟨ha174, hq175⟩ := apx_in ha174
          refine gx_r (st_append rfl (by kernel_rfl) (by kernel_rfl) hS172 1 rfl (hS172.row 4 rfl).1 (hS172.row 4 rfl).2 ha174 (by kernel_rfl) (by kernel_rfl)) ?_
          rintro _ w178 ⟨A176, c177, rfl, hS179⟩
          rw [← hq175] at hS179 ⊢
          have hS179 : St _ _ w178 [rowE .u8 23 A165 c166 l162, rowE .u8 23 A176 c177 l173, rowE .u8 23 A36 c37 l35, rowE .u8 23 (some ⟨w93.heap.size, 0, none⟩) 1 ([x158]), rowE .u8 23 (some ⟨w167.heap.size, 0, none⟩) 1 ([x169])] := hS179
          refine gx_k (.slice A176 l173.length c177) w178 ?_
          refine gx_nil ?_
          refine gx_blkN ?_
          refine gx_thenN ?_
          exact ⟨l162, l173, A165, c166, A176, c177, selfA_i (by kernel_rfl), (Option.some.inj hO104), (hS179.pick [0, 1, 2] rfl rfl)⟩
         ·refine gx_v (.bool false) w93 (run_boolE (decide_eq_false h155) (by kernel_rfl)) ?_
          refine gx_nil ?_
          refine gx_thenN ?_
          refine hK154 _ _ ?_
          refine gx_no (by kernel_rfl) ?_
          refine gx_pass ?_
          refine gx_blkN ?_
          refine gx_thenN ?_
          exact ⟨l98, l101, A96, c97, A99, c100, selfA_i (by kernel_rfl), (Option.some.inj hO104), hS94⟩
       ·rintro _ w81 ⟨l86, l89, A84, c85, A87, c88, hq181, rfl, hS82⟩
        obtain ⟨u83, rfl⟩ := selfA_u hq181
        try dsimp only at hO92
        refine gx_region ?_
        refine gx_k (.int .i64 x73) w81 (gx_k (.int .i64 (IntKind.i64.wrap (x73 + 1))) w81 (gx_k (.int .i64 (IntKind.i64.wrap (x73 + 1))) w81 ?_))
        refine gx_nil ?_
        refine gx_thenN ?_
        exact ⟨k74, Nat.lt_succ_self k74, l86, l89, (IntKind.i64.wrap (x73 + 1)), A84, c85, A87, c88, selfA_i (by kernel_rfl), hO92, hS82⟩
      ·refine gx_v (.bool false) w64 (run_boolE (decide_eq_false h80) (by kernel_rfl)) ?_
       refine gx_nil ?_
       refine gx_thenN ?_
       refine hK79 _ _ ?_
       refine gx_no (by kernel_rfl) ?_
       refine gx_exit ?_
       refine gx_thenE ?_
       refine gx_thenE ?_
       refine gx_blkE ?_
       refine gx_thenN ?_
       exact ⟨l69, l72, A67, c68, A70, c71, selfA_i (by kernel_rfl), (Option.some.inj hL75), (hS65.pick [0, 1] rfl rfl)⟩
   ·rintro _ w48 ⟨l53, l56, A51, c52, A54, c55, hq205, rfl, hS49⟩
    obtain ⟨u50, rfl⟩ := selfA_u hq205
    try dsimp only at hO59
    refine gx_seq (fun K183 hK184 => ?_)
    refine gx_region ?_
    refine gx_k (.slice A51 l53.length c52) w48 (gx_k (.int .u8 p1) w48 (gx_k (.int .u8 p2) w48 (gx_k (.int .u8 p3) w48 ?_)))
    have hP185 : St _ _ w48 ([] ++ [rowE .u8 23 A51 c52 l53, rowE .u8 23 A54 c55 l56]) := hS49
    obtain ⟨l187, hc186, hO59⟩ := bind_in hO59
    try dsimp only at hO59
    refine gx_c (pNeutral_R l187 w48) (pNeutral_ok N l53 p1 p2 p3 A51 c52 _ hc186 w48 (hP185.vwB 0 rfl)) ?_
    rintro _ w190 ⟨A188, c189, rfl, hT192⟩
    have hS191 : St _ _ w190 [rowE .u8 23 A51 c52 l53, rowE .u8 23 A54 c55 l56, rowE .u8 23 A188 c189 l187] := hS49.take _ hT192
    refine gx_k (.slice A54 l56.length c55) w190 ?_
    have hP193 : St _ _ w190 ([] ++ [rowE .u8 23 A51 c52 l53, rowE .u8 23 A54 c55 l56, rowE .u8 23 A188 c189 l187]) := hS191
    obtain ⟨b195, hc194, hO59⟩ := bind_in hO59
    try dsimp only at hO59
    refine gx_c (kIs_R b195 w190) (kIs_ok N l187 l56 A188 c189 A54 c55 _ hc194 w190 (hP193.vwB 2 rfl) (hP193.vwB 1 rfl)) ?_
    rintro _ w196 ⟨rfl, hT198⟩
    have hS197 : St _ _ w196 [rowE .u8 23 A51 c52 l53, rowE .u8 23 A54 c55 l56, rowE .u8 23 A188 c189 l187] := hS191.take _ hT198
    refine gx_k (.bool b195) w196 ?_
    cases b195 with
    | true =>
     try dsimp only at hO59
     have hP199 : St _ _ w196 ([] ++ [rowE .u8 23 A51 c52 l53, rowE .u8 23 A54 c55 l56, rowE .u8 23 A188 c189 l187]) := hS197
     obtain ⟨b201, hc200, hO59⟩ := bind_in hO59
     try dsimp only at hO59
     refine gx_c (kWorks_R b201 w196) (kWorks_ok N  _ hc200 w196 ) ?_
     rintro _ w202 ⟨rfl, hT204⟩
     have hS203 : St _ _ w202 [rowE .u8 23 A51 c52 l53, rowE .u8 23 A54 c55 l56, rowE .u8 23 A188 c189 l187] := hS197.take _ hT204
     refine gx_k (.bool b201) w202 (gx_k (.bool b201) w202 ?_)
     refine gx_nil ?_
     refine gx_thenN ?_
     refine hK184 _ _ ?_
     refine gx_ret ?_
     obtain rfl := Option.some.inj hO59
     exact gx_fin (.bool b201) (by kernel_rfl) (by kernel_rfl) ⟨_, rfl, rfl, (hS203.pick [] rfl rfl)⟩
    | false =>
     try dsimp only at hO59
     refine gx_o (gx_k (.bool false) w196 (gx_k (.bool false) w196 ?_))
     refine gx_nil ?_
     refine gx_thenN ?_
     refine hK184 _ _ ?_
     refine gx_ret ?_
     obtain rfl := Option.some.inj hO59
     exact gx_fin (.bool false) (by kernel_rfl) (by kernel_rfl) ⟨_, rfl, rfl, (hS197.pick [] rfl rfl)⟩

end Go.Proofs.Ytdpcaidhpccaiaa

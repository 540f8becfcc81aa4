/-
  EmbedBounds, walked.
-/
import Derived.Test.YtapfdafmhiilkaaF0
namespace Go.Proofs.Ytapfdafmhiilkaa
open Go Go.RowKit
set_option linter.unusedVariables false

def fBounds_L1 (N : Nat) (p0 : List Int) (l20 : List Int) (l23 : List Int) (x26 : Int) : Nat → Int → Int → Option (Ctl (Unit) (Bool))
 | 0, _, _ => none
 | k87+1, x85, x86 => (if x86 < ((p0.length : Nat) : Int) then ((ix l20 x86).bind fun x102 => (((if x102 > 125 then some (true) else ((ix l20 x86).bind fun x114 => (if x114 < x26 then some (true) else some (false)))) : Option (Bool)).bind fun b107 => (((match b107 with | true => some (true) | false => ((ix p0 x86).bind fun x126 => (((if x126 = 11 then ((ix l20 x86).bind fun x138 => (if x138 ≠ x26 then some (true) else some (false))) else some (false)) : Option (Bool)).bind fun b131 => some (b131)))) : Option (Bool)).bind fun b120 => (((match b120 with | true => some (true) | false => ((ix p0 x86).bind fun x150 => ((((rRem N x150).bind fun b163 => (match b163 with | true => ((ix l20 x86).bind fun x167 => (((if x167 ≠ x85 then some (true) else ((ix l23 x86).bind fun x179 => (if x179 ≠ 10 then some (true) else some (false)))) : Option (Bool)).bind fun b172 => some (b172))) | false => some (false))) : Option (Bool)).bind fun b155 => some (b155)))) : Option (Bool)).bind fun b144 => (match b144 with | true => some (Ctl.ret false) | false => ((ix p0 x86).bind fun x184 => ((rRem N x184).bind fun b188 => (((match b188 with | true => some (false) | false => ((ix l23 x86).bind fun x201 => ((ix p0 x86).bind fun x203 => (if x201 ≠ x203 then some (true) else some (false))))) : Option (Bool)).bind fun b195 => (((match b195 with | true => ((ix l23 x86).bind fun x215 => (if x215 ≠ 1 then some (true) else some (false))) | false => some (false)) : Option (Bool)).bind fun b209 => (match b209 with | true => ((ix l23 x86).bind fun x218 => (if x218 ≠ 2 then some (Ctl.ret false) else ((ix l20 x86).bind fun x223 => fBounds_L1 N p0 l20 l23 x26 k87 x223 (IntKind.i64.wrap (x86 + 1))))) | false => ((ix l20 x86).bind fun x225 => fBounds_L1 N p0 l20 l23 x26 k87 x225 (IntKind.i64.wrap (x86 + 1))))))))))))) else some (Ctl.go ()))
def fBounds (N : Nat) (p0 : List Int) (p1 : Int) : Option (Bool) :=
 (if ((p0.length : Nat) : Int) > 2000 then ((kWorks N ).bind fun b12 => some b12) else ((pLevels N p0 p1).bind fun (l20, l23, x26, x27) => (if x27 ≠ 0 then (((if ((l20.length : Nat) : Int) = 0 then (if ((l23.length : Nat) : Int) = 0 then some (true) else some (false)) else some (false)) : Option (Bool)).bind fun b41 => (match b41 with | true => (if x26 = 0 then ((kWorks N ).bind fun b51 => some b51) else some false) | false => some false)) else (((if ((l20.length : Nat) : Int) ≠ ((p0.length : Nat) : Int) then some (Ctl.ret false) else (if ((l23.length : Nat) : Int) ≠ ((p0.length : Nat) : Int) then some (Ctl.ret false) else (if x26 > 1 then some (Ctl.ret false) else some (Ctl.go ())))) : Option (Ctl (Unit) (Bool))).bind fun | Ctl.go () => ((fBounds_L1 N p0 l20 l23 x26 N x26 0 : Option (Ctl (Unit) (Bool))).bind fun | Ctl.go () => ((kWorks N ).bind fun b232 => some b232) | Ctl.ret r => some r) | Ctl.ret r => some r))))

set_option linter.unusedVariables false in
def fBounds_R (r : Bool) (w0 : World) (v : Value) (w : World) : Prop := v = .bool r ∧ St [] w0 w []

set_option maxRecDepth 100000 in
set_option maxHeartbeats 4000000 in
theorem fBounds_ok (N : Nat) (p0 : List Int) (p1 : Int) (A0 : Option Addr) (c0 : Nat) (r : Bool) (hF : fBounds N p0 p1 = some r) (w0 : World) (hv0 : Vw [] .u8 w0 A0 c0 p0) :
  Calls Try.prog 6 #[.slice A0 p0.length c0, .int .u8 p1] w0 fun e w => ∃ v, e = .returned v ∧ fBounds_R r w0 v w := by
 have hS0 := St.start w0
 unfold fBounds at hF
 refine calls_of Try.func6 rfl ⟨((.slice A0 p0.length c0) :: (.int .u8 p1) :: un 149 ([])).toArray, []⟩ (by kernel_rfl) ?_
 refine gx_seq (fun K1 hK2 => ?_)
 refine gx_region ?_
 refine gx_k (.bool false) w0 ?_
 refine gx_nil ?_
 refine gx_thenN ?_
 refine hK2 _ _ ?_
 refine gx_seq (fun K3 hK4 => ?_)
 refine gx_seq (fun K5 hK6 => ?_)
 refine gx_region ?_
 refine gx_k (.slice A0 p0.length c0) w0 (gx_k (.int .i64 ((p0.length : Nat) : Int)) w0 ?_)
 rcases if_in hF with ⟨h7, hF⟩ | ⟨h7, hF⟩
 ·refine gx_v (.bool true) w0 (run_boolE (decide_eq_true h7) (by kernel_rfl)) ?_
  refine gx_nil ?_
  refine gx_thenN ?_
  refine hK6 _ _ ?_
  refine gx_yes (by kernel_rfl) ?_
  refine gx_seq (fun K8 hK9 => ?_)
  refine gx_region ?_
  have hP10 : St _ _ w0 ([] ++ []) := hS0
  obtain ⟨b12, hc11, hF⟩ := bind_in hF
  try dsimp only at hF
  refine gx_c (kWorks_R b12 w0) (kWorks_ok N  _ hc11 w0 ) ?_
  rintro _ w13 ⟨rfl, hT15⟩
  have hS14 : St _ _ w13 [] := hS0.take _ hT15
  refine gx_k (.bool b12) w13 ?_
  refine gx_nil ?_
  refine gx_thenN ?_
  refine hK9 _ _ ?_
  refine gx_ret ?_
  refine gx_thenR ?_
  obtain rfl := Option.some.inj hF
  exact gx_fin (.bool b12) (by kernel_rfl) (by kernel_rfl) ⟨_, rfl, rfl, hS14⟩
 ·refine gx_v (.bool false) w0 (run_boolE (decide_eq_false h7) (by kernel_rfl)) ?_
  refine gx_nil ?_
  refine gx_thenN ?_
  refine hK6 _ _ ?_
  refine gx_no (by kernel_rfl) ?_
  refine gx_pass ?_
  refine gx_thenN ?_
  refine hK4 _ _ ?_
  refine gx_seq (fun K16 hK17 => ?_)
  refine gx_region ?_
  refine gx_k (.slice A0 p0.length c0) w0 (gx_k (.int .u8 p1) w0 ?_)
  have hP18 : St _ _ w0 ([] ++ []) := hS0
  obtain ⟨⟨l20, l23, x26, x27⟩, hc19, hF⟩ := bind_in hF
  try dsimp only at hF
  refine gx_c (pLevels_R (l20, l23, x26, x27) w0) (pLevels_ok N p0 p1 A0 c0 _ hc19 w0 (hP18.vwA hv0)) ?_
  rintro _ w28 ⟨A21, c22, A24, c25, rfl, hT30⟩
  have hS29 : St _ _ w28 [rowE .u8 5 A21 c22 l20, rowE .u8 26 A24 c25 l23] := hS0.take _ hT30
  refine gx_k (.tuple #[.slice A21 l20.length c22, .slice A24 l23.length c25, .int .u8 x26, .int .i64 x27]) w28 (gx_k (.slice A21 l20.length c22) w28 (gx_k (.slice A24 l23.length c25) w28 (gx_k (.int .u8 x26) w28 (gx_k (.int .i64 x27) w28 (gx_k (.slice A21 l20.length c22) w28 (gx_k (.slice A24 l23.length c25) w28 (gx_k (.int .u8 x26) w28 ?_)))))))
  refine gx_k (.int .i64 x27) w28 ?_
  refine gx_nil ?_
  refine gx_thenN ?_
  refine hK17 _ _ ?_
  refine gx_seq (fun K31 hK32 => ?_)
  refine gx_seq (fun K33 hK34 => ?_)
  refine gx_region ?_
  refine gx_k (.int .i64 x27) w28 ?_
  rcases if_in hF with ⟨h35, hF⟩ | ⟨h35, hF⟩
  ·refine gx_v (.bool true) w28 (run_boolE (ne_yes h35) (by kernel_rfl)) ?_
   refine gx_nil ?_
   refine gx_thenN ?_
   refine hK34 _ _ ?_
   refine gx_yes (by kernel_rfl) ?_
   refine gx_seq (fun K36 hK37 => ?_)
   refine gx_region ?_
   refine gx_k (.slice A21 l20.length c22) w28 (gx_k (.int .i64 ((l20.length : Nat) : Int)) w28 ?_)
   obtain ⟨c42, hE43, hO44⟩ := bind_in hF
   refine gx_part (l1 := [_, _, _, _, _, _]) (fun a w => ∃ (b41 : Bool), selfA (fun u40 => ⟨((u40 0) :: (.int .u8 p1) :: undef :: undef :: (.bool false) :: dd u40 5 2 ((.int .u8 x26) :: (.int .i64 x27) :: undef :: undef :: (u40 11) :: (.int .i64 ((p0.length : Nat) : Int)) :: (.bool false) :: undef :: dd u40 15 2 ((.int .u8 p1) :: dd u40 18 3 ((.int .u8 x26) :: (.int .i64 x27) :: (.int .i64 x27) :: (.bool true) :: (u40 25) :: (.int .i64 ((l20.length : Nat) : Int)) :: dd u40 27 5 ((.bool b41) :: un 118 ([])))))).toArray, []⟩) a ∧ b41 = c42 ∧ St [] w0 w []) rfl ?_ ?_
   ·rcases if_in hE43 with ⟨h46, hE43⟩ | ⟨h46, hE43⟩
    ·refine gx_v (.bool true) w28 (run_boolE (decide_eq_true h46) (by kernel_rfl)) ?_
     refine gx_k (.bool true) w28 (gx_k (.slice A24 l23.length c25) w28 (gx_k (.int .i64 ((l23.length : Nat) : Int)) w28 ?_))
     rcases if_in hE43 with ⟨h47, hE43⟩ | ⟨h47, hE43⟩
     ·refine gx_v (.bool true) w28 (run_boolE (decide_eq_true h47) (by kernel_rfl)) ?_
      refine gx_k (.bool true) w28 ?_
      refine gx_nil ?_
      refine gx_thenN ?_
      exact ⟨true, selfA_i (by kernel_rfl), (Option.some.inj hE43), (hS29.pick [] rfl rfl)⟩
     ·refine gx_v (.bool false) w28 (run_boolE (decide_eq_false h47) (by kernel_rfl)) ?_
      refine gx_k (.bool false) w28 ?_
      refine gx_nil ?_
      refine gx_thenN ?_
      exact ⟨false, selfA_i (by kernel_rfl), (Option.some.inj hE43), (hS29.pick [] rfl rfl)⟩
    ·refine gx_v (.bool false) w28 (run_boolE (decide_eq_false h46) (by kernel_rfl)) ?_
     refine gx_k (.bool false) w28 (gx_o (gx_o (gx_o (gx_k (.bool false) w28 ?_))))
     refine gx_nil ?_
     refine gx_thenN ?_
     exact ⟨false, selfA_i (by kernel_rfl), (Option.some.inj hE43), (hS29.pick [] rfl rfl)⟩
   ·rintro _ w38 ⟨b41, hq45, rfl, hS39⟩
    obtain ⟨u40, rfl⟩ := selfA_u hq45
    try dsimp only at hO44
    refine gx_k (.bool b41) w38 ?_
    cases b41 with
    | true =>
     try dsimp only at hO44
     refine gx_k (.int .u8 x26) w38 ?_
     rcases if_in hO44 with ⟨h48, hO44⟩ | ⟨h48, hO44⟩
     ·refine gx_v (.bool true) w38 (run_boolE (decide_eq_true h48) (by kernel_rfl)) ?_
      refine gx_k (.bool true) w38 (gx_k (.bool true) w38 ?_)
      have hP49 : St _ _ w38 ([] ++ []) := hS39
      obtain ⟨b51, hc50, hO44⟩ := bind_in hO44
      try dsimp only at hO44
      refine gx_c (kWorks_R b51 w38) (kWorks_ok N  _ hc50 w38 ) ?_
      rintro _ w52 ⟨rfl, hT54⟩
      have hS53 : St _ _ w52 [] := hS39.take _ hT54
      refine gx_k (.bool b51) w52 (gx_k (.bool b51) w52 ?_)
      refine gx_nil ?_
      refine gx_thenN ?_
      refine hK37 _ _ ?_
      refine gx_ret ?_
      refine gx_thenR ?_
      obtain rfl := Option.some.inj hO44
      exact gx_fin (.bool b51) (by kernel_rfl) (by kernel_rfl) ⟨_, rfl, rfl, hS53⟩
     ·refine gx_v (.bool false) w38 (run_boolE (decide_eq_false h48) (by kernel_rfl)) ?_
      refine gx_k (.bool false) w38 (gx_k (.bool false) w38 (gx_o (gx_k (.bool false) w38 (gx_k (.bool false) w38 ?_))))
      refine gx_nil ?_
      refine gx_thenN ?_
      refine hK37 _ _ ?_
      refine gx_ret ?_
      refine gx_thenR ?_
      obtain rfl := Option.some.inj hO44
      exact gx_fin (.bool false) (by kernel_rfl) (by kernel_rfl) ⟨_, rfl, rfl, hS39⟩
    | false =>
     try dsimp only at hO44
     refine gx_o (gx_o (gx_k (.bool false) w38 (gx_k (.bool false) w38 (gx_o (gx_k (.bool false) w38 (gx_k (.bool false) w38 ?_))))))
     refine gx_nil ?_
     refine gx_thenN ?_
     refine hK37 _ _ ?_
     refine gx_ret ?_
     refine gx_thenR ?_
     obtain rfl := Option.some.inj hO44
     exact gx_fin (.bool false) (by kernel_rfl) (by kernel_rfl) ⟨_, rfl, rfl, hS39⟩
  ·refine gx_v (.bool false) w28 (run_boolE (ne_no h35) (by kernel_rfl)) ?_
   refine gx_nil ?_
   refine gx_thenN ?_
   refine hK34 _ _ ?_
   refine gx_no (by kernel_rfl) ?_
   refine gx_pass ?_
   refine gx_thenN ?_
   refine hK32 _ _ ?_
   obtain ⟨c58, hE59, hO60⟩ := bind_in hF
   refine gx_cut (fun a w => selfA (fun u57 => ⟨((.slice A0 p0.length c0) :: (.int .u8 p1) :: undef :: undef :: (u57 4) :: (.slice A21 l20.length c22) :: (.slice A24 l23.length c25) :: (.int .u8 x26) :: (.int .i64 x27) :: undef :: undef :: (u57 11) :: (.int .i64 ((p0.length : Nat) : Int)) :: (.bool false) :: undef :: dd u57 15 2 ((.int .u8 p1) :: dd u57 18 3 ((.int .u8 x26) :: (.int .i64 x27) :: (.int .i64 x27) :: (.bool false) :: un 15 (dd u57 40 16 (un 95 ([])))))).toArray, []⟩) a ∧ Ctl.go () = c58 ∧ St [] w0 w [rowE .u8 5 A21 c22 l20, rowE .u8 26 A24 c25 l23]) ?_ ?_
   ·refine gx_seq (fun K61 hK62 => ?_)
    refine gx_region ?_
    refine gx_k (.slice A21 l20.length c22) w28 (gx_k (.int .i64 ((l20.length : Nat) : Int)) w28 (gx_k (.slice A0 p0.length c0) w28 (gx_k (.int .i64 ((p0.length : Nat) : Int)) w28 ?_)))
    rcases if_in hE59 with ⟨h63, hE59⟩ | ⟨h63, hE59⟩
    ·refine gx_v (.bool true) w28 (run_boolE (ne_yes h63) (by kernel_rfl)) ?_
     refine gx_k (.bool true) w28 (gx_o (gx_o (gx_o (gx_o (gx_o (gx_k (.bool true) w28 (gx_k (.bool true) w28 ?_)))))))
     refine gx_o (gx_o (gx_k (.bool true) w28 ?_))
     refine gx_nil ?_
     refine gx_thenN ?_
     refine hK62 _ _ ?_
     refine gx_yes (by kernel_rfl) ?_
     refine gx_seq (fun K64 hK65 => ?_)
     refine gx_region ?_
     refine gx_k (.bool false) w28 ?_
     refine gx_nil ?_
     refine gx_thenN ?_
     refine hK65 _ _ ?_
     refine gx_ret ?_
     refine gx_thenR ?_
     obtain rfl := Option.some.inj hE59
     try dsimp only at hO60
     obtain rfl := Option.some.inj hO60
     exact gx_fin (.bool false) (by kernel_rfl) (by kernel_rfl) ⟨_, rfl, rfl, (hS29.pick [] rfl rfl)⟩
    ·refine gx_v (.bool false) w28 (run_boolE (ne_no h63) (by kernel_rfl)) ?_
     refine gx_k (.bool false) w28 (gx_k (.slice A24 l23.length c25) w28 (gx_k (.int .i64 ((l23.length : Nat) : Int)) w28 (gx_k (.slice A0 p0.length c0) w28 (gx_k (.int .i64 ((p0.length : Nat) : Int)) w28 ?_))))
     rcases if_in hE59 with ⟨h66, hE59⟩ | ⟨h66, hE59⟩
     ·refine gx_v (.bool true) w28 (run_boolE (ne_yes h66) (by kernel_rfl)) ?_
      refine gx_k (.bool true) w28 (gx_k (.bool true) w28 (gx_o (gx_o (gx_k (.bool true) w28 ?_))))
      refine gx_nil ?_
      refine gx_thenN ?_
      refine hK62 _ _ ?_
      refine gx_yes (by kernel_rfl) ?_
      refine gx_seq (fun K67 hK68 => ?_)
      refine gx_region ?_
      refine gx_k (.bool false) w28 ?_
      refine gx_nil ?_
      refine gx_thenN ?_
      refine hK68 _ _ ?_
      refine gx_ret ?_
      refine gx_thenR ?_
      obtain rfl := Option.some.inj hE59
      try dsimp only at hO60
      obtain rfl := Option.some.inj hO60
      exact gx_fin (.bool false) (by kernel_rfl) (by kernel_rfl) ⟨_, rfl, rfl, (hS29.pick [] rfl rfl)⟩
     ·refine gx_v (.bool false) w28 (run_boolE (ne_no h66) (by kernel_rfl)) ?_
      refine gx_k (.bool false) w28 (gx_k (.bool false) w28 (gx_k (.int .u8 x26) w28 ?_))
      rcases if_in hE59 with ⟨h69, hE59⟩ | ⟨h69, hE59⟩
      ·refine gx_v (.bool true) w28 (run_boolE (decide_eq_true h69) (by kernel_rfl)) ?_
       refine gx_k (.bool true) w28 ?_
       refine gx_nil ?_
       refine gx_thenN ?_
       refine hK62 _ _ ?_
       refine gx_yes (by kernel_rfl) ?_
       refine gx_seq (fun K70 hK71 => ?_)
       refine gx_region ?_
       refine gx_k (.bool false) w28 ?_
       refine gx_nil ?_
       refine gx_thenN ?_
       refine hK71 _ _ ?_
       refine gx_ret ?_
       refine gx_thenR ?_
       obtain rfl := Option.some.inj hE59
       try dsimp only at hO60
       obtain rfl := Option.some.inj hO60
       exact gx_fin (.bool false) (by kernel_rfl) (by kernel_rfl) ⟨_, rfl, rfl, (hS29.pick [] rfl rfl)⟩
      ·refine gx_v (.bool false) w28 (run_boolE (decide_eq_false h69) (by kernel_rfl)) ?_
       refine gx_k (.bool false) w28 ?_
       refine gx_nil ?_
       refine gx_thenN ?_
       refine hK62 _ _ ?_
       refine gx_no (by kernel_rfl) ?_
       refine gx_pass ?_
       refine gx_thenN ?_
       exact ⟨selfA_i (by kernel_rfl), (Option.some.inj hE59), hS29⟩
   ·rintro _ w55 ⟨hq237, rfl, hS56⟩
    obtain ⟨u57, rfl⟩ := selfA_u hq237
    try dsimp only at hO60
    refine gx_seq (fun K72 hK73 => ?_)
    refine gx_region ?_
    refine gx_k (.int .u8 x26) w55 (gx_k (.int .u8 x26) w55 ?_)
    refine gx_nil ?_
    refine gx_thenN ?_
    refine hK73 _ _ ?_
    obtain ⟨c77, hE78, hO79⟩ := bind_in hO60
    refine gx_cut (fun a w => selfA (fun u76 => ⟨((u76 0) :: (.int .u8 p1) :: undef :: undef :: dd u76 4 3 ((.int .u8 x26) :: (.int .i64 x27) :: dd u76 9 2 ((u57 11) :: (.int .i64 ((p0.length : Nat) : Int)) :: (.bool false) :: undef :: dd u57 15 2 ((.int .u8 p1) :: dd u57 18 3 ((.int .u8 x26) :: (.int .i64 x27) :: (.int .i64 x27) :: (.bool false) :: un 15 (dd u57 40 16 ((.int .u8 x26) :: dd u76 57 93 (undef :: [])))))))).toArray, []⟩) a ∧ Ctl.go () = c77 ∧ St [] w0 w []) ?_ ?_
    ·refine gx_seq (fun K80 hK81 => ?_)
     refine gx_region ?_
     refine gx_k (.int .i64 0) w55 ?_
     refine gx_nil ?_
     refine gx_thenN ?_
     refine hK81 _ _ ?_
     refine gx_block ?_
     refine gx_loop (fun k a w => ∃ (x85 : Int) (x86 : Int), selfA (fun u84 => ⟨((.slice A0 p0.length c0) :: (.int .u8 p1) :: undef :: undef :: (u84 4) :: (.slice A21 l20.length c22) :: (.slice A24 l23.length c25) :: (.int .u8 x26) :: (.int .i64 x27) :: (.int .u8 x85) :: (.int .i64 x86) :: (u57 11) :: (.int .i64 ((p0.length : Nat) : Int)) :: (.bool false) :: undef :: dd u57 15 2 ((.int .u8 p1) :: dd u57 18 3 ((.int .u8 x26) :: (.int .i64 x27) :: (.int .i64 x27) :: (.bool false) :: un 15 (dd u57 40 16 ((.int .u8 x26) :: dd u84 57 93 (undef :: [])))))).toArray, []⟩) a ∧ fBounds_L1 N p0 l20 l23 x26 k x85 x86 = some c77 ∧ St [] w0 w [rowE .u8 5 A21 c22 l20, rowE .u8 26 A24 c25 l23]) N ?_ ?_
     ·exact ⟨x26, 0, selfA_i (by kernel_rfl), hE78, hS56⟩
     ·rintro k87 _ w82 ⟨x85, x86, hq227, hL88, hS83⟩
      obtain ⟨u84, rfl⟩ := selfA_u hq227
      cases k87 with
      | zero => cases hL88
      | succ k87 =>
       rw [fBounds_L1] at hL88
       refine gx_seq (fun K89 hK90 => ?_)
       refine gx_seq (fun K91 hK92 => ?_)
       refine gx_region ?_
       refine gx_k (.int .i64 x86) w82 (gx_k (.slice A0 p0.length c0) w82 (gx_k (.int .i64 ((p0.length : Nat) : Int)) w82 ?_))
       rcases if_in hL88 with ⟨h93, hL88⟩ | ⟨h93, hL88⟩
       ·refine gx_v (.bool true) w82 (run_boolE (decide_eq_true h93) (by kernel_rfl)) ?_
        refine gx_nil ?_
        refine gx_thenN ?_
        refine hK92 _ _ ?_
        refine gx_yes (by kernel_rfl) ?_
        refine gx_pass ?_
        refine gx_thenN ?_
        refine hK90 _ _ ?_
        refine gx_seq (fun K94 hK95 => ?_)
        refine gx_block ?_
        refine gx_seq (fun K96 hK97 => ?_)
        refine gx_seq (fun K98 hK99 => ?_)
        refine gd_start (fun w => St [] w0 w [rowE .u8 5 A21 c22 l20, rowE .u8 26 A24 c25 l23]) 83 #[false, false, false, false, false, false, false, false, false, false, false, false, false, false, false, false, false, false, false, false, false, false, false, false, false, false, false, false, false, false, false, false, false, false, false, false, false, false, false, false, false, false, false, false, false, false, false, false, false, false, false, false, false, false, false, false, false, false, false, false, false, false, false, false, false, false, false, false, false, false, false, false, false, false, false, false, false, false, false, false, false, false, false] (by kernel_rfl) (by kernel_rfl) ?_
        have hS101 := hS83.drew
        generalize w82.drew = w100 at hS101 ⊢
        refine gd1 0 { dst := some 63, op := _, type := _, pos := _, after := _, guard := _ } (.slice A21 l20.length c22) rfl hS101 (fun w hSw => by kernel_rfl) ?_
        refine gd1 1 { dst := some 64, op := _, type := _, pos := _, after := _, guard := _ } (.int .i64 x86) rfl hS101 (fun w hSw => by kernel_rfl) ?_
        obtain ⟨x102, hx103, hL88⟩ := bind_in hL88
        refine gd1 2 { dst := some 65, op := _, type := _, pos := _, after := _, guard := _ } (.pointer (Option.map (fun (p : Addr) => p.add (Int.toNat x86 * 1)) A21)) rfl hS101 (fun w hSw => run_ixaddr (E := 5) (s := 1) (k := .i64) (c := c22) rfl (by kernel_rfl) (by kernel_rfl) (by kernel_rfl) (fun _ => by kernel_rfl) (ix_in hx103).1 (ix_in hx103).2.1 (num_nil (hS101.row 0 rfl).1)) ?_
        refine gd1 3 { dst := some 66, op := _, type := _, pos := _, after := _, guard := _ } (.int .u8 x102) rfl hS101 (fun w hSw => run_loadix rfl (by kernel_rfl) (fun _ => by kernel_rfl) (hSw.row 0 rfl).1 hx103) ?_
        obtain ⟨c108, hE109, hO110⟩ := bind_in hL88
        refine gd_mid (fun a w => ∃ (b107 : Bool), selfA (fun u106 => ⟨((.slice A0 p0.length c0) :: (.int .u8 p1) :: undef :: undef :: (u84 4) :: (.slice A21 l20.length c22) :: (.slice A24 l23.length c25) :: (.int .u8 x26) :: (.int .i64 x27) :: (.int .u8 x85) :: (.int .i64 x86) :: (u57 11) :: (.int .i64 ((p0.length : Nat) : Int)) :: (.bool false) :: undef :: dd u57 15 2 ((.int .u8 p1) :: dd u57 18 3 ((.int .u8 x26) :: (.int .i64 x27) :: (.int .i64 x27) :: (.bool false) :: un 15 (dd u57 40 16 ((.int .u8 x26) :: (.int .i64 x86) :: (u106 58) :: (.int .i64 ((p0.length : Nat) : Int)) :: (.bool true) :: dd u84 61 2 ((u106 63) :: (.int .i64 x86) :: (.pointer (Option.map (fun (p : Addr) => p.add (Int.toNat x86 * 1)) A21)) :: (.int .u8 x102) :: dd u106 67 8 ((.bool b107) :: dd u84 76 74 (undef :: [])))))))).toArray, []⟩) a ∧ b107 = c108 ∧ St [] w0 w [rowE .u8 5 A21 c22 l20, rowE .u8 26 A24 c25 l23]) 70 #[true, true, true, true, true, true, true, true, true, true, true, true, true, false, false, false, false, false, false, false, false, false, false, false, false, false, false, false, false, false, false, false, false, false, false, false, false, false, false, false, false, false, false, false, false, false, false, false, false, false, false, false, false, false, false, false, false, false, false, false, false, false, false, false, false, false, false, false, false, false, false, false, false, false, false, false, false, false, false, false, false, false, false] ?_ ?_
        ·rintro _ w104 ⟨b107, hq111, rfl, hS105⟩
         obtain ⟨u106, rfl⟩ := selfA_u hq111
         try dsimp only at hO110
         obtain ⟨c121, hE122, hO123⟩ := bind_in hO110
         refine gd_mid (fun a w => ∃ (b120 : Bool), selfA (fun u119 => ⟨((.slice A0 p0.length c0) :: (.int .u8 p1) :: undef :: undef :: (u84 4) :: (.slice A21 l20.length c22) :: (.slice A24 l23.length c25) :: (.int .u8 x26) :: (.int .i64 x27) :: (.int .u8 x85) :: (.int .i64 x86) :: (u57 11) :: (.int .i64 ((p0.length : Nat) : Int)) :: (.bool false) :: undef :: dd u57 15 2 ((.int .u8 p1) :: dd u57 18 3 ((.int .u8 x26) :: (.int .i64 x27) :: (.int .i64 x27) :: (.bool false) :: un 15 (dd u57 40 16 ((.int .u8 x26) :: (.int .i64 x86) :: (u106 58) :: (.int .i64 ((p0.length : Nat) : Int)) :: (.bool true) :: dd u84 61 2 ((u106 63) :: (.int .i64 x86) :: (.pointer (Option.map (fun (p : Addr) => p.add (Int.toNat x86 * 1)) A21)) :: (.int .u8 x102) :: dd u106 67 8 ((.bool b107) :: dd u119 76 14 ((.bool b120) :: dd u84 91 59 (undef :: []))))))))).toArray, []⟩) a ∧ b120 = c121 ∧ St [] w0 w [rowE .u8 5 A21 c22 l20, rowE .u8 26 A24 c25 l23]) 55 #[true, true, true, true, true, true, true, true, true, true, true, true, true, true, true, true, true, true, true, true, true, true, true, true, true, true, true, true, false, false, false, false, false, false, false, false, false, false, false, false, false, false, false, false, false, false, false, false, false, false, false, false, false, false, false, false, false, false, false, false, false, false, false, false, false, false, false, false, false, false, false, false, false, false, false, false, false, false, false, false, false, false, false] ?_ ?_
         ·rintro _ w117 ⟨b120, hq124, rfl, hS118⟩
          obtain ⟨u119, rfl⟩ := selfA_u hq124
          try dsimp only at hO123
          obtain ⟨c145, hE146, hO147⟩ := bind_in hO123
          refine gd_mid (fun a w => ∃ (b144 : Bool), selfA (fun u143 => ⟨((.slice A0 p0.length c0) :: (.int .u8 p1) :: undef :: undef :: (u84 4) :: (.slice A21 l20.length c22) :: (.slice A24 l23.length c25) :: (.int .u8 x26) :: (.int .i64 x27) :: (.int .u8 x85) :: (.int .i64 x86) :: (u57 11) :: (.int .i64 ((p0.length : Nat) : Int)) :: (.bool false) :: undef :: dd u57 15 2 ((.int .u8 p1) :: dd u57 18 3 ((.int .u8 x26) :: (.int .i64 x27) :: (.int .i64 x27) :: (.bool false) :: un 15 (dd u57 40 16 ((.int .u8 x26) :: (.int .i64 x86) :: (u106 58) :: (.int .i64 ((p0.length : Nat) : Int)) :: (.bool true) :: dd u84 61 2 ((u106 63) :: (.int .i64 x86) :: (.pointer (Option.map (fun (p : Addr) => p.add (Int.toNat x86 * 1)) A21)) :: (.int .u8 x102) :: dd u106 67 8 ((.bool b107) :: dd u119 76 14 ((.bool b120) :: dd u143 91 21 ((.bool b144) :: dd u84 113 37 (undef :: [])))))))))).toArray, []⟩) a ∧ b144 = c145 ∧ St [] w0 w [rowE .u8 5 A21 c22 l20, rowE .u8 26 A24 c25 l23]) 33 #[true, true, true, true, true, true, true, true, true, true, true, true, true, true, true, true, true, true, true, true, true, true, true, true, true, true, true, true, true, true, true, true, true, true, true, true, true, true, true, true, true, true, true, true, true, true, true, true, true, true, false, false, false, false, false, false, false, false, false, false, false, false, false, false, false, false, false, false, false, false, false, false, false, false, false, false, false, false, false, false, false, false, false] ?_ ?_
          ·rintro _ w141 ⟨b144, hq148, rfl, hS142⟩
           obtain ⟨u143, rfl⟩ := selfA_u hq148
           try dsimp only at hO147
           refine gd1 50 { dst := some 113, op := _, type := _, pos := _, after := _, guard := _ } (.bool b144) rfl hS142 (fun w hSw => by kernel_rfl) ?_
           cases b144 with
           | true =>
            try dsimp only at hO147
            refine gd0 51 { dst := some 114, op := _, type := _, pos := _, after := _, guard := _ } rfl hS142 ?_
            refine gd0 52 { dst := some 115, op := _, type := _, pos := _, after := _, guard := _ } rfl hS142 ?_
            refine gd0 53 { dst := some 116, op := _, type := _, pos := _, after := _, guard := _ } rfl hS142 ?_
            refine gd0 54 { dst := some 117, op := _, type := _, pos := _, after := _, guard := _ } rfl hS142 ?_
            refine gd0 55 { dst := some 118, op := _, type := _, pos := _, after := _, guard := _ } rfl hS142 ?_
            refine gd0 56 { dst := some 119, op := _, type := _, pos := _, after := _, guard := _ } rfl hS142 ?_
            refine gd0 57 { dst := some 120, op := _, type := _, pos := _, after := _, guard := _ } rfl hS142 ?_
            refine gd0 58 { dst := some 121, op := _, type := _, pos := _, after := _, guard := _ } rfl hS142 ?_
            refine gd0 59 { dst := some 122, op := _, type := _, pos := _, after := _, guard := _ } rfl hS142 ?_
            refine gd0 60 { dst := some 123, op := _, type := _, pos := _, after := _, guard := _ } rfl hS142 ?_
            refine gd0 61 { dst := some 124, op := _, type := _, pos := _, after := _, guard := _ } rfl hS142 ?_
            refine gd0 62 { dst := some 125, op := _, type := _, pos := _, after := _, guard := _ } rfl hS142 ?_
            refine gd0 63 { dst := some 126, op := _, type := _, pos := _, after := _, guard := _ } rfl hS142 ?_
            refine gd0 64 { dst := some 127, op := _, type := _, pos := _, after := _, guard := _ } rfl hS142 ?_
            refine gd0 65 { dst := some 128, op := _, type := _, pos := _, after := _, guard := _ } rfl hS142 ?_
            refine gd0 66 { dst := some 129, op := _, type := _, pos := _, after := _, guard := _ } rfl hS142 ?_
            refine gd0 67 { dst := some 130, op := _, type := _, pos := _, after := _, guard := _ } rfl hS142 ?_
            refine gd0 68 { dst := some 131, op := _, type := _, pos := _, after := _, guard := _ } rfl hS142 ?_
            refine gd0 69 { dst := some 132, op := _, type := _, pos := _, after := _, guard := _ } rfl hS142 ?_
            refine gd0 70 { dst := some 133, op := _, type := _, pos := _, after := _, guard := _ } rfl hS142 ?_
            refine gd0 71 { dst := some 134, op := _, type := _, pos := _, after := _, guard := _ } rfl hS142 ?_
            refine gd0 72 { dst := some 135, op := _, type := _, pos := _, after := _, guard := _ } rfl hS142 ?_
            refine gd0 73 { dst := some 136, op := _, type := _, pos := _, after := _, guard := _ } rfl hS142 ?_
            refine gd0 74 { dst := some 137, op := _, type := _, pos := _, after := _, guard := _ } rfl hS142 ?_
            refine gd0 75 { dst := some 138, op := _, type := _, pos := _, after := _, guard := _ } rfl hS142 ?_
            refine gd0 76 { dst := some 139, op := _, type := _, pos := _, after := _, guard := _ } rfl hS142 ?_
            refine gd0 77 { dst := some 140, op := _, type := _, pos := _, after := _, guard := _ } rfl hS142 ?_
            refine gd0 78 { dst := some 141, op := _, type := _, pos := _, after := _, guard := _ } rfl hS142 ?_
            refine gd0 79 { dst := some 142, op := _, type := _, pos := _, after := _, guard := _ } rfl hS142 ?_
            refine gd0 80 { dst := some 143, op := _, type := _, pos := _, after := _, guard := _ } rfl hS142 ?_
            refine gd0 81 { dst := some 144, op := _, type := _, pos := _, after := _, guard := _ } rfl hS142 ?_
            refine gd1 82 { dst := some 145, op := _, type := _, pos := _, after := _, guard := _ } (.bool true) rfl hS142 (fun w hSw => by kernel_rfl) ?_
            refine gd_done (by kernel_rfl) ?_
            refine gx_thenN ?_
            refine hK99 _ _ ?_
            refine gx_yes (by kernel_rfl) ?_
            refine gx_seq (fun K182 hK183 => ?_)
            refine gx_region ?_
            refine gx_k (.bool false) w141 ?_
            refine gx_nil ?_
            refine gx_thenN ?_
            refine hK183 _ _ ?_
            refine gx_ret ?_
            refine gx_thenR ?_
            refine gx_blkR ?_
            refine gx_thenR ?_
            refine gx_thenR ?_
            refine gx_blkR ?_
            refine gx_thenR ?_
            obtain rfl := Option.some.inj hO147
            try dsimp only at hO79
            obtain rfl := Option.some.inj hO79
            exact gx_fin (.bool false) (by kernel_rfl) (by kernel_rfl) ⟨_, rfl, rfl, (hS142.pick [] rfl rfl)⟩
           | false =>
            try dsimp only at hO147
            refine gd1 51 { dst := some 114, op := _, type := _, pos := _, after := _, guard := _ } (.slice A0 p0.length c0) rfl hS142 (fun w hSw => by kernel_rfl) ?_
            refine gd1 52 { dst := some 115, op := _, type := _, pos := _, after := _, guard := _ } (.int .i64 x86) rfl hS142 (fun w hSw => by kernel_rfl) ?_
            obtain ⟨x184, hx185, hO147⟩ := bind_in hO147
            refine gd1 53 { dst := some 116, op := _, type := _, pos := _, after := _, guard := _ } (.pointer (Option.map (fun (p : Addr) => p.add (Int.toNat x86 * 1)) A0)) rfl hS142 (fun w hSw => run_ixaddr (E := 26) (s := 1) (k := .i64) (c := c0) rfl (by kernel_rfl) (by kernel_rfl) (by kernel_rfl) (fun _ => by kernel_rfl) (ix_in hx185).1 (ix_in hx185).2.1 (num_nil (hS142.view hv0))) ?_
            refine gd1 54 { dst := some 117, op := _, type := _, pos := _, after := _, guard := _ } (.int .u8 x184) rfl hS142 (fun w hSw => run_loadix rfl (by kernel_rfl) (fun _ => by kernel_rfl) (hSw.view hv0) hx185) ?_
            have hP186 : St _ _ w141 ([] ++ [rowE .u8 5 A21 c22 l20, rowE .u8 26 A24 c25 l23]) := hS142
            obtain ⟨b188, hc187, hO147⟩ := bind_in hO147
            try dsimp only at hO147
            refine gdC 55 { dst := some 118, op := _, type := _, pos := _, after := _, guard := _ } (rRem_R b188 w141) rfl (by kernel_rfl) (rRem_ok N x184 _ hc187 w141 ) ?_
            rintro _ w189 ⟨rfl, hT191⟩
            have hS190 : St _ _ w189 [rowE .u8 5 A21 c22 l20, rowE .u8 26 A24 c25 l23] := hS142.take _ hT191
            refine ⟨hS190, ?_⟩
            obtain ⟨c196, hE197, hO198⟩ := bind_in hO147
            refine gd_mid (fun a w => ∃ (b195 : Bool), selfA (fun u194 => ⟨((.slice A0 p0.length c0) :: (.int .u8 p1) :: undef :: undef :: (u84 4) :: (.slice A21 l20.length c22) :: (.slice A24 l23.length c25) :: (.int .u8 x26) :: (.int .i64 x27) :: (.int .u8 x85) :: (.int .i64 x86) :: (u57 11) :: (.int .i64 ((p0.length : Nat) : Int)) :: (.bool false) :: undef :: dd u57 15 2 ((.int .u8 p1) :: dd u57 18 3 ((.int .u8 x26) :: (.int .i64 x27) :: (.int .i64 x27) :: (.bool false) :: un 15 (dd u57 40 16 ((.int .u8 x26) :: (.int .i64 x86) :: (u106 58) :: (.int .i64 ((p0.length : Nat) : Int)) :: (.bool true) :: dd u84 61 2 ((u106 63) :: (.int .i64 x86) :: (.pointer (Option.map (fun (p : Addr) => p.add (Int.toNat x86 * 1)) A21)) :: (.int .u8 x102) :: dd u106 67 8 ((.bool b107) :: dd u119 76 14 ((.bool b120) :: dd u143 91 21 ((.bool false) :: (.bool false) :: (u194 114) :: (.int .i64 x86) :: (.pointer (Option.map (fun (p : Addr) => p.add (Int.toNat x86 * 1)) A0)) :: (.int .u8 x184) :: (.bool b188) :: dd u194 119 11 ((.bool b195) :: dd u84 131 19 (undef :: []))))))))))).toArray, []⟩) a ∧ b195 = c196 ∧ St [] w0 w [rowE .u8 5 A21 c22 l20, rowE .u8 26 A24 c25 l23]) 15 #[true, true, true, true, true, true, true, true, true, true, true, true, true, true, true, true, true, true, true, true, true, true, true, true, true, true, true, true, true, true, true, true, true, true, true, true, true, true, true, true, true, true, true, true, true, true, true, true, true, true, true, true, true, true, true, true, true, true, true, true, true, true, true, true, true, true, true, true, false, false, false, false, false, false, false, false, false, false, false, false, false, false, false] ?_ ?_
            ·rintro _ w192 ⟨b195, hq199, rfl, hS193⟩
             obtain ⟨u194, rfl⟩ := selfA_u hq199
             try dsimp only at hO198
             obtain ⟨c210, hE211, hO212⟩ := bind_in hO198
             refine gd_mid (fun a w => ∃ (b209 : Bool), selfA (fun u208 => ⟨((.slice A0 p0.length c0) :: (.int .u8 p1) :: undef :: undef :: (u84 4) :: (.slice A21 l20.length c22) :: (.slice A24 l23.length c25) :: (.int .u8 x26) :: (.int .i64 x27) :: (.int .u8 x85) :: (.int .i64 x86) :: (u57 11) :: (.int .i64 ((p0.length : Nat) : Int)) :: (.bool false) :: undef :: dd u57 15 2 ((.int .u8 p1) :: dd u57 18 3 ((.int .u8 x26) :: (.int .i64 x27) :: (.int .i64 x27) :: (.bool false) :: un 15 (dd u57 40 16 ((.int .u8 x26) :: (.int .i64 x86) :: (u106 58) :: (.int .i64 ((p0.length : Nat) : Int)) :: (.bool true) :: dd u84 61 2 ((u106 63) :: (.int .i64 x86) :: (.pointer (Option.map (fun (p : Addr) => p.add (Int.toNat x86 * 1)) A21)) :: (.int .u8 x102) :: dd u106 67 8 ((.bool b107) :: dd u119 76 14 ((.bool b120) :: dd u143 91 21 ((.bool false) :: (.bool false) :: (u194 114) :: (.int .i64 x86) :: (.pointer (Option.map (fun (p : Addr) => p.add (Int.toNat x86 * 1)) A0)) :: (.int .u8 x184) :: (.bool b188) :: dd u194 119 11 ((.bool b195) :: dd u208 131 6 ((.bool b209) :: dd u84 138 12 (undef :: [])))))))))))).toArray, []⟩) a ∧ b209 = c210 ∧ St [] w0 w [rowE .u8 5 A21 c22 l20, rowE .u8 26 A24 c25 l23]) 8 #[true, true, true, true, true, true, true, true, true, true, true, true, true, true, true, true, true, true, true, true, true, true, true, true, true, true, true, true, true, true, true, true, true, true, true, true, true, true, true, true, true, true, true, true, true, true, true, true, true, true, true, true, true, true, true, true, true, true, true, true, true, true, true, true, true, true, true, true, true, true, true, true, true, true, true, false, false, false, false, false, false, false, false] ?_ ?_
             ·rintro _ w206 ⟨b209, hq213, rfl, hS207⟩
              obtain ⟨u208, rfl⟩ := selfA_u hq213
              try dsimp only at hO212
              refine gd1 75 { dst := some 138, op := _, type := _, pos := _, after := _, guard := _ } (.bool b209) rfl hS207 (fun w hSw => by kernel_rfl) ?_
              cases b209 with
              | true =>
               try dsimp only at hO212
               refine gd1 76 { dst := some 139, op := _, type := _, pos := _, after := _, guard := _ } (.slice A24 l23.length c25) rfl hS207 (fun w hSw => by kernel_rfl) ?_
               refine gd1 77 { dst := some 140, op := _, type := _, pos := _, after := _, guard := _ } (.int .i64 x86) rfl hS207 (fun w hSw => by kernel_rfl) ?_
               obtain ⟨x218, hx219, hO212⟩ := bind_in hO212
               refine gd1 78 { dst := some 141, op := _, type := _, pos := _, after := _, guard := _ } (.pointer (Option.map (fun (p : Addr) => p.add (Int.toNat x86 * 1)) A24)) rfl hS207 (fun w hSw => run_ixaddr (E := 26) (s := 1) (k := .i64) (c := c25) rfl (by kernel_rfl) (by kernel_rfl) (by kernel_rfl) (fun _ => by kernel_rfl) (ix_in hx219).1 (ix_in hx219).2.1 (num_nil (hS207.row 1 rfl).1)) ?_
               refine gd1 79 { dst := some 142, op := _, type := _, pos := _, after := _, guard := _ } (.int .u8 x218) rfl hS207 (fun w hSw => run_loadix rfl (by kernel_rfl) (fun _ => by kernel_rfl) (hSw.row 1 rfl).1 hx219) ?_
               rcases if_in hO212 with ⟨h220, hO212⟩ | ⟨h220, hO212⟩
               ·refine gd1 80 { dst := some 143, op := _, type := _, pos := _, after := _, guard := _ } (.bool true) rfl hS207 (fun w hSw => run_boolE (ne_yes h220) (by kernel_rfl)) ?_
                refine gd1 81 { dst := some 144, op := _, type := _, pos := _, after := _, guard := _ } (.bool true) rfl hS207 (fun w hSw => by kernel_rfl) ?_
                refine gd1 82 { dst := some 145, op := _, type := _, pos := _, after := _, guard := _ } (.bool true) rfl hS207 (fun w hSw => by kernel_rfl) ?_
                refine gd_done (by kernel_rfl) ?_
                refine gx_thenN ?_
                refine hK99 _ _ ?_
                refine gx_yes (by kernel_rfl) ?_
                refine gx_seq (fun K221 hK222 => ?_)
                refine gx_region ?_
                refine gx_k (.bool false) w206 ?_
                refine gx_nil ?_
                refine gx_thenN ?_
                refine hK222 _ _ ?_
                refine gx_ret ?_
                refine gx_thenR ?_
                refine gx_blkR ?_
                refine gx_thenR ?_
                refine gx_thenR ?_
                refine gx_blkR ?_
                refine gx_thenR ?_
                obtain rfl := Option.some.inj hO212
                try dsimp only at hO79
                obtain rfl := Option.some.inj hO79
                exact gx_fin (.bool false) (by kernel_rfl) (by kernel_rfl) ⟨_, rfl, rfl, (hS207.pick [] rfl rfl)⟩
               ·refine gd1 80 { dst := some 143, op := _, type := _, pos := _, after := _, guard := _ } (.bool false) rfl hS207 (fun w hSw => run_boolE (ne_no h220) (by kernel_rfl)) ?_
                refine gd1 81 { dst := some 144, op := _, type := _, pos := _, after := _, guard := _ } (.bool false) rfl hS207 (fun w hSw => by kernel_rfl) ?_
                refine gd1 82 { dst := some 145, op := _, type := _, pos := _, after := _, guard := _ } (.bool false) rfl hS207 (fun w hSw => by kernel_rfl) ?_
                refine gd_done (by kernel_rfl) ?_
                refine gx_thenN ?_
                refine hK99 _ _ ?_
                refine gx_no (by kernel_rfl) ?_
                refine gx_pass ?_
                refine gx_thenN ?_
                refine hK97 _ _ ?_
                refine gx_region ?_
                refine gx_k (.slice A21 l20.length c22) w206 (gx_k (.int .i64 x86) w206 ?_)
                obtain ⟨x223, hx224, hO212⟩ := bind_in hO212
                refine gx_v (.pointer (Option.map (fun (p : Addr) => p.add (Int.toNat x86 * 1)) A21)) w206 (run_ixaddr (E := 5) (s := 1) (k := .i64) (c := c22) rfl (by kernel_rfl) (by kernel_rfl) (by kernel_rfl) (fun _ => by kernel_rfl) (ix_in hx224).1 (ix_in hx224).2.1 (num_nil (hS207.row 0 rfl).1)) ?_
                refine gx_v (.int .u8 x223) w206 (run_loadix rfl (by kernel_rfl) (fun _ => by kernel_rfl) (hS207.row 0 rfl).1 hx224) ?_
                refine gx_k (.int .u8 x223) w206 ?_
                refine gx_nil ?_
                refine gx_blkN ?_
                refine gx_thenN ?_
                refine hK95 _ _ ?_
                refine gx_region ?_
                refine gx_k (.int .i64 x86) w206 (gx_k (.int .i64 (IntKind.i64.wrap (x86 + 1))) w206 (gx_k (.int .i64 (IntKind.i64.wrap (x86 + 1))) w206 ?_))
                refine gx_nil ?_
                refine gx_thenN ?_
                exact ⟨k87, Nat.lt_succ_self k87, x223, (IntKind.i64.wrap (x86 + 1)), selfA_i (by kernel_rfl), hO212, hS207⟩
              | false =>
               try dsimp only at hO212
               refine gd0 76 { dst := some 139, op := _, type := _, pos := _, after := _, guard := _ } rfl hS207 ?_
               refine gd0 77 { dst := some 140, op := _, type := _, pos := _, after := _, guard := _ } rfl hS207 ?_
               refine gd0 78 { dst := some 141, op := _, type := _, pos := _, after := _, guard := _ } rfl hS207 ?_
               refine gd0 79 { dst := some 142, op := _, type := _, pos := _, after := _, guard := _ } rfl hS207 ?_
               refine gd0 80 { dst := some 143, op := _, type := _, pos := _, after := _, guard := _ } rfl hS207 ?_
               refine gd1 81 { dst := some 144, op := _, type := _, pos := _, after := _, guard := _ } (.bool false) rfl hS207 (fun w hSw => by kernel_rfl) ?_
               refine gd1 82 { dst := some 145, op := _, type := _, pos := _, after := _, guard := _ } (.bool false) rfl hS207 (fun w hSw => by kernel_rfl) ?_
               refine gd_done (by kernel_rfl) ?_
               refine gx_thenN ?_
               refine hK99 _ _ ?_
               refine gx_no (by kernel_rfl) ?_
               refine gx_pass ?_
               refine gx_thenN ?_
               refine hK97 _ _ ?_
               refine gx_region ?_
               refine gx_k (.slice A21 l20.length c22) w206 (gx_k (.int .i64 x86) w206 ?_)
               obtain ⟨x225, hx226, hO212⟩ := bind_in hO212
               refine gx_v (.pointer (Option.map (fun (p : Addr) => p.add (Int.toNat x86 * 1)) A21)) w206 (run_ixaddr (E := 5) (s := 1) (k := .i64) (c := c22) rfl (by kernel_rfl) (by kernel_rfl) (by kernel_rfl) (fun _ => by kernel_rfl) (ix_in hx226).1 (ix_in hx226).2.1 (num_nil (hS207.row 0 rfl).1)) ?_
               refine gx_v (.int .u8 x225) w206 (run_loadix rfl (by kernel_rfl) (fun _ => by kernel_rfl) (hS207.row 0 rfl).1 hx226) ?_
               refine gx_k (.int .u8 x225) w206 ?_
               refine gx_nil ?_
               refine gx_blkN ?_
               refine gx_thenN ?_
               refine hK95 _ _ ?_
               refine gx_region ?_
               refine gx_k (.int .i64 x86) w206 (gx_k (.int .i64 (IntKind.i64.wrap (x86 + 1))) w206 (gx_k (.int .i64 (IntKind.i64.wrap (x86 + 1))) w206 ?_))
               refine gx_nil ?_
               refine gx_thenN ?_
               exact ⟨k87, Nat.lt_succ_self k87, x225, (IntKind.i64.wrap (x86 + 1)), selfA_i (by kernel_rfl), hO212, hS207⟩
             ·intro hK214
              refine gd1 68 { dst := some 131, op := _, type := _, pos := _, after := _, guard := _ } (.bool b195) rfl hS193 (fun w hSw => by kernel_rfl) ?_
              cases b195 with
              | true =>
               try dsimp only at hE211
               refine gd1 69 { dst := some 132, op := _, type := _, pos := _, after := _, guard := _ } (.slice A24 l23.length c25) rfl hS193 (fun w hSw => by kernel_rfl) ?_
               refine gd1 70 { dst := some 133, op := _, type := _, pos := _, after := _, guard := _ } (.int .i64 x86) rfl hS193 (fun w hSw => by kernel_rfl) ?_
               obtain ⟨x215, hx216, hE211⟩ := bind_in hE211
               refine gd1 71 { dst := some 134, op := _, type := _, pos := _, after := _, guard := _ } (.pointer (Option.map (fun (p : Addr) => p.add (Int.toNat x86 * 1)) A24)) rfl hS193 (fun w hSw => run_ixaddr (E := 26) (s := 1) (k := .i64) (c := c25) rfl (by kernel_rfl) (by kernel_rfl) (by kernel_rfl) (fun _ => by kernel_rfl) (ix_in hx216).1 (ix_in hx216).2.1 (num_nil (hS193.row 1 rfl).1)) ?_
               refine gd1 72 { dst := some 135, op := _, type := _, pos := _, after := _, guard := _ } (.int .u8 x215) rfl hS193 (fun w hSw => run_loadix rfl (by kernel_rfl) (fun _ => by kernel_rfl) (hSw.row 1 rfl).1 hx216) ?_
               rcases if_in hE211 with ⟨h217, hE211⟩ | ⟨h217, hE211⟩
               ·refine gd1 73 { dst := some 136, op := _, type := _, pos := _, after := _, guard := _ } (.bool true) rfl hS193 (fun w hSw => run_boolE (ne_yes h217) (by kernel_rfl)) ?_
                refine gd1 74 { dst := some 137, op := _, type := _, pos := _, after := _, guard := _ } (.bool true) rfl hS193 (fun w hSw => by kernel_rfl) ?_
                exact gd_to hK214 (by kernel_rfl) ⟨true, selfA_i (by kernel_rfl), (Option.some.inj hE211), hS193⟩
               ·refine gd1 73 { dst := some 136, op := _, type := _, pos := _, after := _, guard := _ } (.bool false) rfl hS193 (fun w hSw => run_boolE (ne_no h217) (by kernel_rfl)) ?_
                refine gd1 74 { dst := some 137, op := _, type := _, pos := _, after := _, guard := _ } (.bool false) rfl hS193 (fun w hSw => by kernel_rfl) ?_
                exact gd_to hK214 (by kernel_rfl) ⟨false, selfA_i (by kernel_rfl), (Option.some.inj hE211), hS193⟩
              | false =>
               try dsimp only at hE211
               refine gd0 69 { dst := some 132, op := _, type := _, pos := _, after := _, guard := _ } rfl hS193 ?_
               refine gd0 70 { dst := some 133, op := _, type := _, pos := _, after := _, guard := _ } rfl hS193 ?_
               refine gd0 71 { dst := some 134, op := _, type := _, pos := _, after := _, guard := _ } rfl hS193 ?_
               refine gd0 72 { dst := some 135, op := _, type := _, pos := _, after := _, guard := _ } rfl hS193 ?_
               refine gd0 73 { dst := some 136, op := _, type := _, pos := _, after := _, guard := _ } rfl hS193 ?_
               refine gd1 74 { dst := some 137, op := _, type := _, pos := _, after := _, guard := _ } (.bool false) rfl hS193 (fun w hSw => by kernel_rfl) ?_
               exact gd_to hK214 (by kernel_rfl) ⟨false, selfA_i (by kernel_rfl), (Option.some.inj hE211), hS193⟩
            ·intro hK200
             cases b188 with
             | true =>
              try dsimp only at hE197
              refine gd1 56 { dst := some 119, op := _, type := _, pos := _, after := _, guard := _ } (.bool false) rfl hS190 (fun w hSw => by kernel_rfl) ?_
              refine gd1 57 { dst := some 120, op := _, type := _, pos := _, after := _, guard := _ } (.bool false) rfl hS190 (fun w hSw => by kernel_rfl) ?_
              refine gd0 58 { dst := some 121, op := _, type := _, pos := _, after := _, guard := _ } rfl hS190 ?_
              refine gd0 59 { dst := some 122, op := _, type := _, pos := _, after := _, guard := _ } rfl hS190 ?_
              refine gd0 60 { dst := some 123, op := _, type := _, pos := _, after := _, guard := _ } rfl hS190 ?_
              refine gd0 61 { dst := some 124, op := _, type := _, pos := _, after := _, guard := _ } rfl hS190 ?_
              refine gd0 62 { dst := some 125, op := _, type := _, pos := _, after := _, guard := _ } rfl hS190 ?_
              refine gd0 63 { dst := some 126, op := _, type := _, pos := _, after := _, guard := _ } rfl hS190 ?_
              refine gd0 64 { dst := some 127, op := _, type := _, pos := _, after := _, guard := _ } rfl hS190 ?_
              refine gd0 65 { dst := some 128, op := _, type := _, pos := _, after := _, guard := _ } rfl hS190 ?_
              refine gd0 66 { dst := some 129, op := _, type := _, pos := _, after := _, guard := _ } rfl hS190 ?_
              refine gd1 67 { dst := some 130, op := _, type := _, pos := _, after := _, guard := _ } (.bool false) rfl hS190 (fun w hSw => by kernel_rfl) ?_
              exact gd_to hK200 (by kernel_rfl) ⟨false, selfA_i (by kernel_rfl), (Option.some.inj hE197), hS190⟩
             | false =>
              try dsimp only at hE197
              refine gd1 56 { dst := some 119, op := _, type := _, pos := _, after := _, guard := _ } (.bool true) rfl hS190 (fun w hSw => by kernel_rfl) ?_
              refine gd1 57 { dst := some 120, op := _, type := _, pos := _, after := _, guard := _ } (.bool true) rfl hS190 (fun w hSw => by kernel_rfl) ?_
              refine gd1 58 { dst := some 121, op := _, type := _, pos := _, after := _, guard := _ } (.slice A24 l23.length c25) rfl hS190 (fun w hSw => by kernel_rfl) ?_
              refine gd1 59 { dst := some 122, op := _, type := _, pos := _, after := _, guard := _ } (.int .i64 x86) rfl hS190 (fun w hSw => by kernel_rfl) ?_
              obtain ⟨x201, hx202, hE197⟩ := bind_in hE197
              refine gd1 60 { dst := some 123, op := _, type := _, pos := _, after := _, guard := _ } (.pointer (Option.map (fun (p : Addr) => p.add (Int.toNat x86 * 1)) A24)) rfl hS190 (fun w hSw => run_ixaddr (E := 26) (s := 1) (k := .i64) (c := c25) rfl (by kernel_rfl) (by kernel_rfl) (by kernel_rfl) (fun _ => by kernel_rfl) (ix_in hx202).1 (ix_in hx202).2.1 (num_nil (hS190.row 1 rfl).1)) ?_
              refine gd1 61 { dst := some 124, op := _, type := _, pos := _, after := _, guard := _ } (.int .u8 x201) rfl hS190 (fun w hSw => run_loadix rfl (by kernel_rfl) (fun _ => by kernel_rfl) (hSw.row 1 rfl).1 hx202) ?_
              refine gd1 62 { dst := some 125, op := _, type := _, pos := _, after := _, guard := _ } (.slice A0 p0.length c0) rfl hS190 (fun w hSw => by kernel_rfl) ?_
              refine gd1 63 { dst := some 126, op := _, type := _, pos := _, after := _, guard := _ } (.int .i64 x86) rfl hS190 (fun w hSw => by kernel_rfl) ?_
              obtain ⟨x203, hx204, hE197⟩ := bind_in hE197
              refine gd1 64 { dst := some 127, op := _, type := _, pos := _, after := _, guard := _ } (.pointer (Option.map (fun (p : Addr) => p.add (Int.toNat x86 * 1)) A0)) rfl hS190 (fun w hSw => run_ixaddr (E := 26) (s := 1) (k := .i64) (c := c0) rfl (by kernel_rfl) (by kernel_rfl) (by kernel_rfl) (fun _ => by kernel_rfl) (ix_in hx204).1 (ix_in hx204).2.1 (num_nil (hS190.view hv0))) ?_
              refine gd1 65 { dst := some 128, op := _, type := _, pos := _, after := _, guard := _ } (.int .u8 x203) rfl hS190 (fun w hSw => run_loadix rfl (by kernel_rfl) (fun _ => by kernel_rfl) (hSw.view hv0) hx204) ?_
              rcases if_in hE197 with ⟨h205, hE197⟩ | ⟨h205, hE197⟩
              ·refine gd1 66 { dst := some 129, op := _, type := _, pos := _, after := _, guard := _ } (.bool true) rfl hS190 (fun w hSw => run_boolE (ne_yes h205) (by kernel_rfl)) ?_
               refine gd1 67 { dst := some 130, op := _, type := _, pos := _, after := _, guard := _ } (.bool true) rfl hS190 (fun w hSw => by kernel_rfl) ?_
               exact gd_to hK200 (by kernel_rfl) ⟨true, selfA_i (by kernel_rfl), (Option.some.inj hE197), hS190⟩
              ·refine gd1 66 { dst := some 129, op := _, type := _, pos := _, after := _, guard := _ } (.bool false) rfl hS190 (fun w hSw => run_boolE (ne_no h205) (by kernel_rfl)) ?_
               refine gd1 67 { dst := some 130, op := _, type := _, pos := _, after := _, guard := _ } (.bool false) rfl hS190 (fun w hSw => by kernel_rfl) ?_
               exact gd_to hK200 (by kernel_rfl) ⟨false, selfA_i (by kernel_rfl), (Option.some.inj hE197), hS190⟩
          ·intro hK149
           refine gd1 28 { dst := some 91, op := _, type := _, pos := _, after := _, guard := _ } (.bool b120) rfl hS118 (fun w hSw => by kernel_rfl) ?_
           cases b120 with
           | true =>
            try dsimp only at hE146
            refine gd0 29 { dst := some 92, op := _, type := _, pos := _, after := _, guard := _ } rfl hS118 ?_
            refine gd0 30 { dst := some 93, op := _, type := _, pos := _, after := _, guard := _ } rfl hS118 ?_
            refine gd0 31 { dst := some 94, op := _, type := _, pos := _, after := _, guard := _ } rfl hS118 ?_
            refine gd0 32 { dst := some 95, op := _, type := _, pos := _, after := _, guard := _ } rfl hS118 ?_
            refine gd0 33 { dst := some 96, op := _, type := _, pos := _, after := _, guard := _ } rfl hS118 ?_
            refine gd0 34 { dst := some 97, op := _, type := _, pos := _, after := _, guard := _ } rfl hS118 ?_
            refine gd0 35 { dst := some 98, op := _, type := _, pos := _, after := _, guard := _ } rfl hS118 ?_
            refine gd0 36 { dst := some 99, op := _, type := _, pos := _, after := _, guard := _ } rfl hS118 ?_
            refine gd0 37 { dst := some 100, op := _, type := _, pos := _, after := _, guard := _ } rfl hS118 ?_
            refine gd0 38 { dst := some 101, op := _, type := _, pos := _, after := _, guard := _ } rfl hS118 ?_
            refine gd0 39 { dst := some 102, op := _, type := _, pos := _, after := _, guard := _ } rfl hS118 ?_
            refine gd0 40 { dst := some 103, op := _, type := _, pos := _, after := _, guard := _ } rfl hS118 ?_
            refine gd0 41 { dst := some 104, op := _, type := _, pos := _, after := _, guard := _ } rfl hS118 ?_
            refine gd0 42 { dst := some 105, op := _, type := _, pos := _, after := _, guard := _ } rfl hS118 ?_
            refine gd0 43 { dst := some 106, op := _, type := _, pos := _, after := _, guard := _ } rfl hS118 ?_
            refine gd0 44 { dst := some 107, op := _, type := _, pos := _, after := _, guard := _ } rfl hS118 ?_
            refine gd0 45 { dst := some 108, op := _, type := _, pos := _, after := _, guard := _ } rfl hS118 ?_
            refine gd0 46 { dst := some 109, op := _, type := _, pos := _, after := _, guard := _ } rfl hS118 ?_
            refine gd0 47 { dst := some 110, op := _, type := _, pos := _, after := _, guard := _ } rfl hS118 ?_
            refine gd0 48 { dst := some 111, op := _, type := _, pos := _, after := _, guard := _ } rfl hS118 ?_
            refine gd1 49 { dst := some 112, op := _, type := _, pos := _, after := _, guard := _ } (.bool true) rfl hS118 (fun w hSw => by kernel_rfl) ?_
            exact gd_to hK149 (by kernel_rfl) ⟨true, selfA_i (by kernel_rfl), (Option.some.inj hE146), hS118⟩
           | false =>
            try dsimp only at hE146
            refine gd1 29 { dst := some 92, op := _, type := _, pos := _, after := _, guard := _ } (.slice A0 p0.length c0) rfl hS118 (fun w hSw => by kernel_rfl) ?_
            refine gd1 30 { dst := some 93, op := _, type := _, pos := _, after := _, guard := _ } (.int .i64 x86) rfl hS118 (fun w hSw => by kernel_rfl) ?_
            obtain ⟨x150, hx151, hE146⟩ := bind_in hE146
            refine gd1 31 { dst := some 94, op := _, type := _, pos := _, after := _, guard := _ } (.pointer (Option.map (fun (p : Addr) => p.add (Int.toNat x86 * 1)) A0)) rfl hS118 (fun w hSw => run_ixaddr (E := 26) (s := 1) (k := .i64) (c := c0) rfl (by kernel_rfl) (by kernel_rfl) (by kernel_rfl) (fun _ => by kernel_rfl) (ix_in hx151).1 (ix_in hx151).2.1 (num_nil (hS118.view hv0))) ?_
            refine gd1 32 { dst := some 95, op := _, type := _, pos := _, after := _, guard := _ } (.int .u8 x150) rfl hS118 (fun w hSw => run_loadix rfl (by kernel_rfl) (fun _ => by kernel_rfl) (hSw.view hv0) hx151) ?_
            obtain ⟨c156, hE157, hO158⟩ := bind_in hE146
            refine gd_mid (fun a w => ∃ (b155 : Bool), selfA (fun u154 => ⟨((.slice A0 p0.length c0) :: (.int .u8 p1) :: undef :: undef :: (u84 4) :: (.slice A21 l20.length c22) :: (.slice A24 l23.length c25) :: (.int .u8 x26) :: (.int .i64 x27) :: (.int .u8 x85) :: (.int .i64 x86) :: (u57 11) :: (.int .i64 ((p0.length : Nat) : Int)) :: (.bool false) :: undef :: dd u57 15 2 ((.int .u8 p1) :: dd u57 18 3 ((.int .u8 x26) :: (.int .i64 x27) :: (.int .i64 x27) :: (.bool false) :: un 15 (dd u57 40 16 ((.int .u8 x26) :: (.int .i64 x86) :: (u106 58) :: (.int .i64 ((p0.length : Nat) : Int)) :: (.bool true) :: dd u84 61 2 ((u106 63) :: (.int .i64 x86) :: (.pointer (Option.map (fun (p : Addr) => p.add (Int.toNat x86 * 1)) A21)) :: (.int .u8 x102) :: dd u106 67 8 ((.bool b107) :: dd u119 76 14 ((.bool false) :: (.bool false) :: (u154 92) :: (.int .i64 x86) :: (.pointer (Option.map (fun (p : Addr) => p.add (Int.toNat x86 * 1)) A0)) :: (.int .u8 x150) :: dd u154 96 15 ((.bool b155) :: dd u84 112 38 (undef :: [])))))))))).toArray, []⟩) a ∧ b155 = c156 ∧ St [] w0 w [rowE .u8 5 A21 c22 l20, rowE .u8 26 A24 c25 l23]) 34 #[true, true, true, true, true, true, true, true, true, true, true, true, true, true, true, true, true, true, true, true, true, true, true, true, true, true, true, true, true, true, true, true, true, true, true, true, true, true, true, true, true, true, true, true, true, true, true, true, true, false, false, false, false, false, false, false, false, false, false, false, false, false, false, false, false, false, false, false, false, false, false, false, false, false, false, false, false, false, false, false, false, false, false] ?_ ?_
            ·rintro _ w152 ⟨b155, hq159, rfl, hS153⟩
             obtain ⟨u154, rfl⟩ := selfA_u hq159
             try dsimp only at hO158
             refine gd1 49 { dst := some 112, op := _, type := _, pos := _, after := _, guard := _ } (.bool b155) rfl hS153 (fun w hSw => by kernel_rfl) ?_
             exact gd_to hK149 (by kernel_rfl) ⟨b155, selfA_i (by kernel_rfl), (Option.some.inj hO158), hS153⟩
            ·intro hK160
             have hP161 : St _ _ w117 ([] ++ [rowE .u8 5 A21 c22 l20, rowE .u8 26 A24 c25 l23]) := hS118
             obtain ⟨b163, hc162, hE157⟩ := bind_in hE157
             try dsimp only at hE157
             refine gdC 33 { dst := some 96, op := _, type := _, pos := _, after := _, guard := _ } (rRem_R b163 w117) rfl (by kernel_rfl) (rRem_ok N x150 _ hc162 w117 ) ?_
             rintro _ w164 ⟨rfl, hT166⟩
             have hS165 : St _ _ w164 [rowE .u8 5 A21 c22 l20, rowE .u8 26 A24 c25 l23] := hS118.take _ hT166
             refine ⟨hS165, ?_⟩
             refine gd1 34 { dst := some 97, op := _, type := _, pos := _, after := _, guard := _ } (.bool b163) rfl hS165 (fun w hSw => by kernel_rfl) ?_
             cases b163 with
             | true =>
              try dsimp only at hE157
              refine gd1 35 { dst := some 98, op := _, type := _, pos := _, after := _, guard := _ } (.slice A21 l20.length c22) rfl hS165 (fun w hSw => by kernel_rfl) ?_
              refine gd1 36 { dst := some 99, op := _, type := _, pos := _, after := _, guard := _ } (.int .i64 x86) rfl hS165 (fun w hSw => by kernel_rfl) ?_
              obtain ⟨x167, hx168, hE157⟩ := bind_in hE157
              refine gd1 37 { dst := some 100, op := _, type := _, pos := _, after := _, guard := _ } (.pointer (Option.map (fun (p : Addr) => p.add (Int.toNat x86 * 1)) A21)) rfl hS165 (fun w hSw => run_ixaddr (E := 5) (s := 1) (k := .i64) (c := c22) rfl (by kernel_rfl) (by kernel_rfl) (by kernel_rfl) (fun _ => by kernel_rfl) (ix_in hx168).1 (ix_in hx168).2.1 (num_nil (hS165.row 0 rfl).1)) ?_
              refine gd1 38 { dst := some 101, op := _, type := _, pos := _, after := _, guard := _ } (.int .u8 x167) rfl hS165 (fun w hSw => run_loadix rfl (by kernel_rfl) (fun _ => by kernel_rfl) (hSw.row 0 rfl).1 hx168) ?_
              refine gd1 39 { dst := some 102, op := _, type := _, pos := _, after := _, guard := _ } (.int .u8 x85) rfl hS165 (fun w hSw => by kernel_rfl) ?_
              obtain ⟨c173, hE174, hO175⟩ := bind_in hE157
              refine gd_mid (fun a w => ∃ (b172 : Bool), selfA (fun u171 => ⟨((.slice A0 p0.length c0) :: (.int .u8 p1) :: undef :: undef :: (u84 4) :: (.slice A21 l20.length c22) :: (.slice A24 l23.length c25) :: (.int .u8 x26) :: (.int .i64 x27) :: (.int .u8 x85) :: (.int .i64 x86) :: (u57 11) :: (.int .i64 ((p0.length : Nat) : Int)) :: (.bool false) :: undef :: dd u57 15 2 ((.int .u8 p1) :: dd u57 18 3 ((.int .u8 x26) :: (.int .i64 x27) :: (.int .i64 x27) :: (.bool false) :: un 15 (dd u57 40 16 ((.int .u8 x26) :: (.int .i64 x86) :: (u106 58) :: (.int .i64 ((p0.length : Nat) : Int)) :: (.bool true) :: dd u84 61 2 ((u106 63) :: (.int .i64 x86) :: (.pointer (Option.map (fun (p : Addr) => p.add (Int.toNat x86 * 1)) A21)) :: (.int .u8 x102) :: dd u106 67 8 ((.bool b107) :: dd u119 76 14 ((.bool false) :: (.bool false) :: (u171 92) :: (.int .i64 x86) :: (.pointer (Option.map (fun (p : Addr) => p.add (Int.toNat x86 * 1)) A0)) :: (.int .u8 x150) :: (.bool true) :: (.bool true) :: (u171 98) :: (.int .i64 x86) :: (.pointer (Option.map (fun (p : Addr) => p.add (Int.toNat x86 * 1)) A21)) :: (.int .u8 x167) :: (.int .u8 x85) :: dd u171 103 7 ((.bool b172) :: dd u84 111 39 (undef :: [])))))))))).toArray, []⟩) a ∧ b172 = c173 ∧ St [] w0 w [rowE .u8 5 A21 c22 l20, rowE .u8 26 A24 c25 l23]) 35 #[true, true, true, true, true, true, true, true, true, true, true, true, true, true, true, true, true, true, true, true, true, true, true, true, true, true, true, true, true, true, true, true, true, true, true, true, true, true, true, true, true, true, true, true, true, true, true, true, false, false, false, false, false, false, false, false, false, false, false, false, false, false, false, false, false, false, false, false, false, false, false, false, false, false, false, false, false, false, false, false, false, false, false] ?_ ?_
              ·rintro _ w169 ⟨b172, hq176, rfl, hS170⟩
               obtain ⟨u171, rfl⟩ := selfA_u hq176
               try dsimp only at hO175
               refine gd1 48 { dst := some 111, op := _, type := _, pos := _, after := _, guard := _ } (.bool b172) rfl hS170 (fun w hSw => by kernel_rfl) ?_
               exact gd_to hK160 (by kernel_rfl) ⟨b172, selfA_i (by kernel_rfl), (Option.some.inj hO175), hS170⟩
              ·intro hK177
               rcases if_in hE174 with ⟨h178, hE174⟩ | ⟨h178, hE174⟩
               ·refine gd1 40 { dst := some 103, op := _, type := _, pos := _, after := _, guard := _ } (.bool true) rfl hS165 (fun w hSw => run_boolE (ne_yes h178) (by kernel_rfl)) ?_
                refine gd1 41 { dst := some 104, op := _, type := _, pos := _, after := _, guard := _ } (.bool true) rfl hS165 (fun w hSw => by kernel_rfl) ?_
                refine gd0 42 { dst := some 105, op := _, type := _, pos := _, after := _, guard := _ } rfl hS165 ?_
                refine gd0 43 { dst := some 106, op := _, type := _, pos := _, after := _, guard := _ } rfl hS165 ?_
                refine gd0 44 { dst := some 107, op := _, type := _, pos := _, after := _, guard := _ } rfl hS165 ?_
                refine gd0 45 { dst := some 108, op := _, type := _, pos := _, after := _, guard := _ } rfl hS165 ?_
                refine gd0 46 { dst := some 109, op := _, type := _, pos := _, after := _, guard := _ } rfl hS165 ?_
                refine gd1 47 { dst := some 110, op := _, type := _, pos := _, after := _, guard := _ } (.bool true) rfl hS165 (fun w hSw => by kernel_rfl) ?_
                exact gd_to hK177 (by kernel_rfl) ⟨true, selfA_i (by kernel_rfl), (Option.some.inj hE174), hS165⟩
               ·refine gd1 40 { dst := some 103, op := _, type := _, pos := _, after := _, guard := _ } (.bool false) rfl hS165 (fun w hSw => run_boolE (ne_no h178) (by kernel_rfl)) ?_
                refine gd1 41 { dst := some 104, op := _, type := _, pos := _, after := _, guard := _ } (.bool false) rfl hS165 (fun w hSw => by kernel_rfl) ?_
                refine gd1 42 { dst := some 105, op := _, type := _, pos := _, after := _, guard := _ } (.slice A24 l23.length c25) rfl hS165 (fun w hSw => by kernel_rfl) ?_
                refine gd1 43 { dst := some 106, op := _, type := _, pos := _, after := _, guard := _ } (.int .i64 x86) rfl hS165 (fun w hSw => by kernel_rfl) ?_
                obtain ⟨x179, hx180, hE174⟩ := bind_in hE174
                refine gd1 44 { dst := some 107, op := _, type := _, pos := _, after := _, guard := _ } (.pointer (Option.map (fun (p : Addr) => p.add (Int.toNat x86 * 1)) A24)) rfl hS165 (fun w hSw => run_ixaddr (E := 26) (s := 1) (k := .i64) (c := c25) rfl (by kernel_rfl) (by kernel_rfl) (by kernel_rfl) (fun _ => by kernel_rfl) (ix_in hx180).1 (ix_in hx180).2.1 (num_nil (hS165.row 1 rfl).1)) ?_
                refine gd1 45 { dst := some 108, op := _, type := _, pos := _, after := _, guard := _ } (.int .u8 x179) rfl hS165 (fun w hSw => run_loadix rfl (by kernel_rfl) (fun _ => by kernel_rfl) (hSw.row 1 rfl).1 hx180) ?_
                rcases if_in hE174 with ⟨h181, hE174⟩ | ⟨h181, hE174⟩
                ·refine gd1 46 { dst := some 109, op := _, type := _, pos := _, after := _, guard := _ } (.bool true) rfl hS165 (fun w hSw => run_boolE (ne_yes h181) (by kernel_rfl)) ?_
                 refine gd1 47 { dst := some 110, op := _, type := _, pos := _, after := _, guard := _ } (.bool true) rfl hS165 (fun w hSw => by kernel_rfl) ?_
                 exact gd_to hK177 (by kernel_rfl) ⟨true, selfA_i (by kernel_rfl), (Option.some.inj hE174), hS165⟩
                ·refine gd1 46 { dst := some 109, op := _, type := _, pos := _, after := _, guard := _ } (.bool false) rfl hS165 (fun w hSw => run_boolE (ne_no h181) (by kernel_rfl)) ?_
                 refine gd1 47 { dst := some 110, op := _, type := _, pos := _, after := _, guard := _ } (.bool false) rfl hS165 (fun w hSw => by kernel_rfl) ?_
                 exact gd_to hK177 (by kernel_rfl) ⟨false, selfA_i (by kernel_rfl), (Option.some.inj hE174), hS165⟩
             | false =>
              try dsimp only at hE157
              refine gd0 35 { dst := some 98, op := _, type := _, pos := _, after := _, guard := _ } rfl hS165 ?_
              refine gd0 36 { dst := some 99, op := _, type := _, pos := _, after := _, guard := _ } rfl hS165 ?_
              refine gd0 37 { dst := some 100, op := _, type := _, pos := _, after := _, guard := _ } rfl hS165 ?_
              refine gd0 38 { dst := some 101, op := _, type := _, pos := _, after := _, guard := _ } rfl hS165 ?_
              refine gd0 39 { dst := some 102, op := _, type := _, pos := _, after := _, guard := _ } rfl hS165 ?_
              refine gd0 40 { dst := some 103, op := _, type := _, pos := _, after := _, guard := _ } rfl hS165 ?_
              refine gd0 41 { dst := some 104, op := _, type := _, pos := _, after := _, guard := _ } rfl hS165 ?_
              refine gd0 42 { dst := some 105, op := _, type := _, pos := _, after := _, guard := _ } rfl hS165 ?_
              refine gd0 43 { dst := some 106, op := _, type := _, pos := _, after := _, guard := _ } rfl hS165 ?_
              refine gd0 44 { dst := some 107, op := _, type := _, pos := _, after := _, guard := _ } rfl hS165 ?_
              refine gd0 45 { dst := some 108, op := _, type := _, pos := _, after := _, guard := _ } rfl hS165 ?_
              refine gd0 46 { dst := some 109, op := _, type := _, pos := _, after := _, guard := _ } rfl hS165 ?_
              refine gd0 47 { dst := some 110, op := _, type := _, pos := _, after := _, guard := _ } rfl hS165 ?_
              refine gd1 48 { dst := some 111, op := _, type := _, pos := _, after := _, guard := _ } (.bool false) rfl hS165 (fun w hSw => by kernel_rfl) ?_
              exact gd_to hK160 (by kernel_rfl) ⟨false, selfA_i (by kernel_rfl), (Option.some.inj hE157), hS165⟩
         ·intro hK125
          refine gd1 13 { dst := some 76, op := _, type := _, pos := _, after := _, guard := _ } (.bool b107) rfl hS105 (fun w hSw => by kernel_rfl) ?_
          cases b107 with
          | true =>
           try dsimp only at hE122
           refine gd0 14 { dst := some 77, op := _, type := _, pos := _, after := _, guard := _ } rfl hS105 ?_
           refine gd0 15 { dst := some 78, op := _, type := _, pos := _, after := _, guard := _ } rfl hS105 ?_
           refine gd0 16 { dst := some 79, op := _, type := _, pos := _, after := _, guard := _ } rfl hS105 ?_
           refine gd0 17 { dst := some 80, op := _, type := _, pos := _, after := _, guard := _ } rfl hS105 ?_
           refine gd0 18 { dst := some 81, op := _, type := _, pos := _, after := _, guard := _ } rfl hS105 ?_
           refine gd0 19 { dst := some 82, op := _, type := _, pos := _, after := _, guard := _ } rfl hS105 ?_
           refine gd0 20 { dst := some 83, op := _, type := _, pos := _, after := _, guard := _ } rfl hS105 ?_
           refine gd0 21 { dst := some 84, op := _, type := _, pos := _, after := _, guard := _ } rfl hS105 ?_
           refine gd0 22 { dst := some 85, op := _, type := _, pos := _, after := _, guard := _ } rfl hS105 ?_
           refine gd0 23 { dst := some 86, op := _, type := _, pos := _, after := _, guard := _ } rfl hS105 ?_
           refine gd0 24 { dst := some 87, op := _, type := _, pos := _, after := _, guard := _ } rfl hS105 ?_
           refine gd0 25 { dst := some 88, op := _, type := _, pos := _, after := _, guard := _ } rfl hS105 ?_
           refine gd0 26 { dst := some 89, op := _, type := _, pos := _, after := _, guard := _ } rfl hS105 ?_
           refine gd1 27 { dst := some 90, op := _, type := _, pos := _, after := _, guard := _ } (.bool true) rfl hS105 (fun w hSw => by kernel_rfl) ?_
           exact gd_to hK125 (by kernel_rfl) ⟨true, selfA_i (by kernel_rfl), (Option.some.inj hE122), hS105⟩
          | false =>
           try dsimp only at hE122
           refine gd1 14 { dst := some 77, op := _, type := _, pos := _, after := _, guard := _ } (.slice A0 p0.length c0) rfl hS105 (fun w hSw => by kernel_rfl) ?_
           refine gd1 15 { dst := some 78, op := _, type := _, pos := _, after := _, guard := _ } (.int .i64 x86) rfl hS105 (fun w hSw => by kernel_rfl) ?_
           obtain ⟨x126, hx127, hE122⟩ := bind_in hE122
           refine gd1 16 { dst := some 79, op := _, type := _, pos := _, after := _, guard := _ } (.pointer (Option.map (fun (p : Addr) => p.add (Int.toNat x86 * 1)) A0)) rfl hS105 (fun w hSw => run_ixaddr (E := 26) (s := 1) (k := .i64) (c := c0) rfl (by kernel_rfl) (by kernel_rfl) (by kernel_rfl) (fun _ => by kernel_rfl) (ix_in hx127).1 (ix_in hx127).2.1 (num_nil (hS105.view hv0))) ?_
           refine gd1 17 { dst := some 80, op := _, type := _, pos := _, after := _, guard := _ } (.int .u8 x126) rfl hS105 (fun w hSw => run_loadix rfl (by kernel_rfl) (fun _ => by kernel_rfl) (hSw.view hv0) hx127) ?_
           obtain ⟨c132, hE133, hO134⟩ := bind_in hE122
           refine gd_mid (fun a w => ∃ (b131 : Bool), selfA (fun u130 => ⟨((.slice A0 p0.length c0) :: (.int .u8 p1) :: undef :: undef :: (u84 4) :: (.slice A21 l20.length c22) :: (.slice A24 l23.length c25) :: (.int .u8 x26) :: (.int .i64 x27) :: (.int .u8 x85) :: (.int .i64 x86) :: (u57 11) :: (.int .i64 ((p0.length : Nat) : Int)) :: (.bool false) :: undef :: dd u57 15 2 ((.int .u8 p1) :: dd u57 18 3 ((.int .u8 x26) :: (.int .i64 x27) :: (.int .i64 x27) :: (.bool false) :: un 15 (dd u57 40 16 ((.int .u8 x26) :: (.int .i64 x86) :: (u106 58) :: (.int .i64 ((p0.length : Nat) : Int)) :: (.bool true) :: dd u84 61 2 ((u106 63) :: (.int .i64 x86) :: (.pointer (Option.map (fun (p : Addr) => p.add (Int.toNat x86 * 1)) A21)) :: (.int .u8 x102) :: dd u106 67 8 ((.bool false) :: (.bool false) :: (u130 77) :: (.int .i64 x86) :: (.pointer (Option.map (fun (p : Addr) => p.add (Int.toNat x86 * 1)) A0)) :: (.int .u8 x126) :: dd u130 81 8 ((.bool b131) :: dd u84 90 60 (undef :: []))))))))).toArray, []⟩) a ∧ b131 = c132 ∧ St [] w0 w [rowE .u8 5 A21 c22 l20, rowE .u8 26 A24 c25 l23]) 56 #[true, true, true, true, true, true, true, true, true, true, true, true, true, true, true, true, true, true, true, true, true, true, true, true, true, true, true, false, false, false, false, false, false, false, false, false, false, false, false, false, false, false, false, false, false, false, false, false, false, false, false, false, false, false, false, false, false, false, false, false, false, false, false, false, false, false, false, false, false, false, false, false, false, false, false, false, false, false, false, false, false, false, false] ?_ ?_
           ·rintro _ w128 ⟨b131, hq135, rfl, hS129⟩
            obtain ⟨u130, rfl⟩ := selfA_u hq135
            try dsimp only at hO134
            refine gd1 27 { dst := some 90, op := _, type := _, pos := _, after := _, guard := _ } (.bool b131) rfl hS129 (fun w hSw => by kernel_rfl) ?_
            exact gd_to hK125 (by kernel_rfl) ⟨b131, selfA_i (by kernel_rfl), (Option.some.inj hO134), hS129⟩
           ·intro hK136
            rcases if_in hE133 with ⟨h137, hE133⟩ | ⟨h137, hE133⟩
            ·refine gd1 18 { dst := some 81, op := _, type := _, pos := _, after := _, guard := _ } (.bool true) rfl hS105 (fun w hSw => run_boolE (decide_eq_true h137) (by kernel_rfl)) ?_
             refine gd1 19 { dst := some 82, op := _, type := _, pos := _, after := _, guard := _ } (.bool true) rfl hS105 (fun w hSw => by kernel_rfl) ?_
             refine gd1 20 { dst := some 83, op := _, type := _, pos := _, after := _, guard := _ } (.slice A21 l20.length c22) rfl hS105 (fun w hSw => by kernel_rfl) ?_
             refine gd1 21 { dst := some 84, op := _, type := _, pos := _, after := _, guard := _ } (.int .i64 x86) rfl hS105 (fun w hSw => by kernel_rfl) ?_
             obtain ⟨x138, hx139, hE133⟩ := bind_in hE133
             refine gd1 22 { dst := some 85, op := _, type := _, pos := _, after := _, guard := _ } (.pointer (Option.map (fun (p : Addr) => p.add (Int.toNat x86 * 1)) A21)) rfl hS105 (fun w hSw => run_ixaddr (E := 5) (s := 1) (k := .i64) (c := c22) rfl (by kernel_rfl) (by kernel_rfl) (by kernel_rfl) (fun _ => by kernel_rfl) (ix_in hx139).1 (ix_in hx139).2.1 (num_nil (hS105.row 0 rfl).1)) ?_
             refine gd1 23 { dst := some 86, op := _, type := _, pos := _, after := _, guard := _ } (.int .u8 x138) rfl hS105 (fun w hSw => run_loadix rfl (by kernel_rfl) (fun _ => by kernel_rfl) (hSw.row 0 rfl).1 hx139) ?_
             refine gd1 24 { dst := some 87, op := _, type := _, pos := _, after := _, guard := _ } (.int .u8 x26) rfl hS105 (fun w hSw => by kernel_rfl) ?_
             rcases if_in hE133 with ⟨h140, hE133⟩ | ⟨h140, hE133⟩
             ·refine gd1 25 { dst := some 88, op := _, type := _, pos := _, after := _, guard := _ } (.bool true) rfl hS105 (fun w hSw => run_boolE (ne_yes h140) (by kernel_rfl)) ?_
              refine gd1 26 { dst := some 89, op := _, type := _, pos := _, after := _, guard := _ } (.bool true) rfl hS105 (fun w hSw => by kernel_rfl) ?_
              exact gd_to hK136 (by kernel_rfl) ⟨true, selfA_i (by kernel_rfl), (Option.some.inj hE133), hS105⟩
             ·refine gd1 25 { dst := some 88, op := _, type := _, pos := _, after := _, guard := _ } (.bool false) rfl hS105 (fun w hSw => run_boolE (ne_no h140) (by kernel_rfl)) ?_
              refine gd1 26 { dst := some 89, op := _, type := _, pos := _, after := _, guard := _ } (.bool false) rfl hS105 (fun w hSw => by kernel_rfl) ?_
              exact gd_to hK136 (by kernel_rfl) ⟨false, selfA_i (by kernel_rfl), (Option.some.inj hE133), hS105⟩
            ·refine gd1 18 { dst := some 81, op := _, type := _, pos := _, after := _, guard := _ } (.bool false) rfl hS105 (fun w hSw => run_boolE (decide_eq_false h137) (by kernel_rfl)) ?_
             refine gd1 19 { dst := some 82, op := _, type := _, pos := _, after := _, guard := _ } (.bool false) rfl hS105 (fun w hSw => by kernel_rfl) ?_
             refine gd0 20 { dst := some 83, op := _, type := _, pos := _, after := _, guard := _ } rfl hS105 ?_
             refine gd0 21 { dst := some 84, op := _, type := _, pos := _, after := _, guard := _ } rfl hS105 ?_
             refine gd0 22 { dst := some 85, op := _, type := _, pos := _, after := _, guard := _ } rfl hS105 ?_
             refine gd0 23 { dst := some 86, op := _, type := _, pos := _, after := _, guard := _ } rfl hS105 ?_
             refine gd0 24 { dst := some 87, op := _, type := _, pos := _, after := _, guard := _ } rfl hS105 ?_
             refine gd0 25 { dst := some 88, op := _, type := _, pos := _, after := _, guard := _ } rfl hS105 ?_
             refine gd1 26 { dst := some 89, op := _, type := _, pos := _, after := _, guard := _ } (.bool false) rfl hS105 (fun w hSw => by kernel_rfl) ?_
             exact gd_to hK136 (by kernel_rfl) ⟨false, selfA_i (by kernel_rfl), (Option.some.inj hE133), hS105⟩
        ·intro hK112
         rcases if_in hE109 with ⟨h113, hE109⟩ | ⟨h113, hE109⟩
         ·refine gd1 4 { dst := some 67, op := _, type := _, pos := _, after := _, guard := _ } (.bool true) rfl hS101 (fun w hSw => run_boolE (decide_eq_true h113) (by kernel_rfl)) ?_
          refine gd1 5 { dst := some 68, op := _, type := _, pos := _, after := _, guard := _ } (.bool true) rfl hS101 (fun w hSw => by kernel_rfl) ?_
          refine gd0 6 { dst := some 69, op := _, type := _, pos := _, after := _, guard := _ } rfl hS101 ?_
          refine gd0 7 { dst := some 70, op := _, type := _, pos := _, after := _, guard := _ } rfl hS101 ?_
          refine gd0 8 { dst := some 71, op := _, type := _, pos := _, after := _, guard := _ } rfl hS101 ?_
          refine gd0 9 { dst := some 72, op := _, type := _, pos := _, after := _, guard := _ } rfl hS101 ?_
          refine gd0 10 { dst := some 73, op := _, type := _, pos := _, after := _, guard := _ } rfl hS101 ?_
          refine gd0 11 { dst := some 74, op := _, type := _, pos := _, after := _, guard := _ } rfl hS101 ?_
          refine gd1 12 { dst := some 75, op := _, type := _, pos := _, after := _, guard := _ } (.bool true) rfl hS101 (fun w hSw => by kernel_rfl) ?_
          exact gd_to hK112 (by kernel_rfl) ⟨true, selfA_i (by kernel_rfl), (Option.some.inj hE109), hS101⟩
         ·refine gd1 4 { dst := some 67, op := _, type := _, pos := _, after := _, guard := _ } (.bool false) rfl hS101 (fun w hSw => run_boolE (decide_eq_false h113) (by kernel_rfl)) ?_
          refine gd1 5 { dst := some 68, op := _, type := _, pos := _, after := _, guard := _ } (.bool false) rfl hS101 (fun w hSw => by kernel_rfl) ?_
          refine gd1 6 { dst := some 69, op := _, type := _, pos := _, after := _, guard := _ } (.slice A21 l20.length c22) rfl hS101 (fun w hSw => by kernel_rfl) ?_
          refine gd1 7 { dst := some 70, op := _, type := _, pos := _, after := _, guard := _ } (.int .i64 x86) rfl hS101 (fun w hSw => by kernel_rfl) ?_
          obtain ⟨x114, hx115, hE109⟩ := bind_in hE109
          refine gd1 8 { dst := some 71, op := _, type := _, pos := _, after := _, guard := _ } (.pointer (Option.map (fun (p : Addr) => p.add (Int.toNat x86 * 1)) A21)) rfl hS101 (fun w hSw => run_ixaddr (E := 5) (s := 1) (k := .i64) (c := c22) rfl (by kernel_rfl) (by kernel_rfl) (by kernel_rfl) (fun _ => by kernel_rfl) (ix_in hx115).1 (ix_in hx115).2.1 (num_nil (hS101.row 0 rfl).1)) ?_
          refine gd1 9 { dst := some 72, op := _, type := _, pos := _, after := _, guard := _ } (.int .u8 x114) rfl hS101 (fun w hSw => run_loadix rfl (by kernel_rfl) (fun _ => by kernel_rfl) (hSw.row 0 rfl).1 hx115) ?_
          refine gd1 10 { dst := some 73, op := _, type := _, pos := _, after := _, guard := _ } (.int .u8 x26) rfl hS101 (fun w hSw => by kernel_rfl) ?_
          rcases if_in hE109 with ⟨h116, hE109⟩ | ⟨h116, hE109⟩
          ·refine gd1 11 { dst := some 74, op := _, type := _, pos := _, after := _, guard := _ } (.bool true) rfl hS101 (fun w hSw => run_boolE (decide_eq_true h116) (by kernel_rfl)) ?_
           refine gd1 12 { dst := some 75, op := _, type := _, pos := _, after := _, guard := _ } (.bool true) rfl hS101 (fun w hSw => by kernel_rfl) ?_
           exact gd_to hK112 (by kernel_rfl) ⟨true, selfA_i (by kernel_rfl), (Option.some.inj hE109), hS101⟩
          ·refine gd1 11 { dst := some 74, op := _, type := _, pos := _, after := _, guard := _ } (.bool false) rfl hS101 (fun w hSw => run_boolE (decide_eq_false h116) (by kernel_rfl)) ?_
           refine gd1 12 { dst := some 75, op := _, type := _, pos := _, after := _, guard := _ } (.bool false) rfl hS101 (fun w hSw => by kernel_rfl) ?_
           exact gd_to hK112 (by kernel_rfl) ⟨false, selfA_i (by kernel_rfl), (Option.some.inj hE109), hS101⟩
       ·refine gx_v (.bool false) w82 (run_boolE (decide_eq_false h93) (by kernel_rfl)) ?_
        refine gx_nil ?_
        refine gx_thenN ?_
        refine hK92 _ _ ?_
        refine gx_no (by kernel_rfl) ?_
        refine gx_exit ?_
        refine gx_thenE ?_
        refine gx_thenE ?_
        refine gx_blkE ?_
        refine gx_thenN ?_
        exact ⟨selfA_i (by kernel_rfl), (Option.some.inj hL88), (hS83.pick [] rfl rfl)⟩
    ·rintro _ w74 ⟨hq236, rfl, hS75⟩
     obtain ⟨u76, rfl⟩ := selfA_u hq236
     try dsimp only at hO79
     refine gx_seq (fun K228 hK229 => ?_)
     refine gx_region ?_
     have hP230 : St _ _ w74 ([] ++ []) := hS75
     obtain ⟨b232, hc231, hO79⟩ := bind_in hO79
     try dsimp only at hO79
     refine gx_c (kWorks_R b232 w74) (kWorks_ok N  _ hc231 w74 ) ?_
     rintro _ w233 ⟨rfl, hT235⟩
     have hS234 : St _ _ w233 [] := hS75.take _ hT235
     refine gx_k (.bool b232) w233 ?_
     refine gx_nil ?_
     refine gx_thenN ?_
     refine hK229 _ _ ?_
     refine gx_ret ?_
     obtain rfl := Option.some.inj hO79
     exact gx_fin (.bool b232) (by kernel_rfl) (by kernel_rfl) ⟨_, rfl, rfl, hS234⟩

end Go.Proofs.Ytapfdafmhiilkaa

/-
  ResolveEnds, walked.
-/
import Derived.Test.YtdpcaidhpccaiaaF0
namespace Go.Proofs.Ytdpcaidhpccaiaa
open Go Go.RowKit
set_option linter.unusedVariables false

def fEnds_L1 (N : Nat) (p1 : Int) (l33 : List Int) (l43 : List Int) (l53 : List Int) (x80 : Int) : Nat → Int → Int → Option (Ctl (Unit) (Bool))
 | 0, _, _ => none
 | k100+1, x98, x99 => (if x99 < ((l43.length : Nat) : Int) then ((ix l43 x99).bind fun x111 => (if x111 = 2 then ((ix l43 x99).bind fun x118 => (if x118 = 10 then ((ix l33 x99).bind fun x125 => (if x125 ≠ 10 then some (Ctl.ret false) else fEnds_L1 N p1 l33 l43 l53 x80 k100 x98 (IntKind.i64.wrap (x99 + 1)))) else ((((ix l33 x99).bind fun x140 => ((rNeu N x140).bind fun b144 => (((match b144 with | true => some (false) | false => ((ix l43 x99).bind fun x157 => ((ix l33 x99).bind fun x159 => (if x157 ≠ x159 then some (true) else some (false))))) : Option (Bool)).bind fun b151 => (((match b151 with | true => some (true) | false => ((ix l43 x99).bind fun x171 => (((if x171 ≠ 1 then some (false) else some (false)) : Option (Bool)).bind fun b176 => (((match b176 with | true => ((ix l43 x99).bind fun x192 => (if x192 ≠ 4 then some (true) else some (false))) | false => some (false)) : Option (Bool)).bind fun b186 => (((match b186 with | true => ((ix l43 x99).bind fun x204 => (if x204 ≠ 7 then some (true) else some (false))) | false => some (false)) : Option (Bool)).bind fun b198 => some (b198)))))) : Option (Bool)).bind fun b165 => (((match b165 with | true => some (true) | false => ((ix l53 x99).bind fun x216 => (if x216 < p1 then some (true) else some (false)))) : Option (Bool)).bind fun b210 => (((match b210 with | true => some (true) | false => ((ix l53 x99).bind fun x228 => (if x228 > (IntKind.u8.wrap (p1 + 2)) then some (true) else some (false)))) : Option (Bool)).bind fun b222 => (match b222 with | true => some (Ctl.ret false) | false => ((ix l53 x99).bind fun x233 => (if (Int.tmod x233 2) = 1 then some (Ctl.go ()) else some (Ctl.ret false)))))))))) : Option (Ctl (Unit) (Bool))).bind fun | Ctl.go () => ((((ix l33 x99).bind fun x246 => ((((rNeu N x246).bind fun b258 => (match b258 with | true => ((ix l43 x99).bind fun x262 => (if x262 ≠ x80 then some (true) else some (false))) | false => some (false))) : Option (Bool)).bind fun b251 => (((match b251 with | true => (if x99 > 0 then some (true) else some (false)) | false => some (false)) : Option (Bool)).bind fun b268 => (((match b268 with | true => (if x98 > 0 then some (true) else some (false)) | false => some (false)) : Option (Bool)).bind fun b277 => (match b277 with | true => (if x98 = 1 then ((ix l43 x99).bind fun x284 => (if x284 = 1 then some (Ctl.go ()) else some (Ctl.ret false))) else ((ix l43 x99).bind fun x289 => (if x289 = 1 then some (Ctl.ret false) else some (Ctl.go ())))) | false => some (Ctl.go ())))))) : Option (Ctl (Unit) (Bool))).bind fun | Ctl.go () => ((ix l43 x99).bind fun x298 => (if x298 = 1 then fEnds_L1 N p1 l33 l43 l53 x80 k100 1 (IntKind.i64.wrap (x99 + 1)) else fEnds_L1 N p1 l33 l43 l53 x80 k100 2 (IntKind.i64.wrap (x99 + 1)))) | Ctl.ret r => some (Ctl.ret r)) | Ctl.ret r => some (Ctl.ret r)))) else ((ix l43 x99).bind fun x307 => (if x307 = 10 then ((ix l33 x99).bind fun x314 => (if x314 ≠ 10 then some (Ctl.ret false) else fEnds_L1 N p1 l33 l43 l53 x80 k100 x98 (IntKind.i64.wrap (x99 + 1)))) else ((((ix l33 x99).bind fun x329 => ((rNeu N x329).bind fun b333 => (((match b333 with | true => some (false) | false => ((ix l43 x99).bind fun x346 => ((ix l33 x99).bind fun x348 => (if x346 ≠ x348 then some (true) else some (false))))) : Option (Bool)).bind fun b340 => (((match b340 with | true => some (true) | false => ((ix l43 x99).bind fun x360 => (((if x360 ≠ 1 then some (true) else some (false)) : Option (Bool)).bind fun b365 => (((match b365 with | true => ((ix l43 x99).bind fun x381 => (if x381 ≠ 4 then some (true) else some (false))) | false => some (false)) : Option (Bool)).bind fun b375 => (((match b375 with | true => ((ix l43 x99).bind fun x393 => (if x393 ≠ 7 then some (true) else some (false))) | false => some (false)) : Option (Bool)).bind fun b387 => some (b387)))))) : Option (Bool)).bind fun b354 => (((match b354 with | true => some (true) | false => ((ix l53 x99).bind fun x405 => (if x405 < p1 then some (true) else some (false)))) : Option (Bool)).bind fun b399 => (((match b399 with | true => some (true) | false => ((ix l53 x99).bind fun x417 => (if x417 > (IntKind.u8.wrap (p1 + 2)) then some (true) else some (false)))) : Option (Bool)).bind fun b411 => (match b411 with | true => some (Ctl.ret false) | false => ((ix l53 x99).bind fun x422 => (if (Int.tmod x422 2) = 1 then some (Ctl.ret false) else some (Ctl.go ())))))))))) : Option (Ctl (Unit) (Bool))).bind fun | Ctl.go () => ((((ix l33 x99).bind fun x435 => ((((rNeu N x435).bind fun b447 => (match b447 with | true => ((ix l43 x99).bind fun x451 => (if x451 ≠ x80 then some (true) else some (false))) | false => some (false))) : Option (Bool)).bind fun b440 => (((match b440 with | true => (if x99 > 0 then some (true) else some (false)) | false => some (false)) : Option (Bool)).bind fun b457 => (((match b457 with | true => (if x98 > 0 then some (true) else some (false)) | false => some (false)) : Option (Bool)).bind fun b466 => (match b466 with | true => (if x98 = 1 then ((ix l43 x99).bind fun x473 => (if x473 = 1 then some (Ctl.go ()) else some (Ctl.ret false))) else ((ix l43 x99).bind fun x478 => (if x478 = 1 then some (Ctl.ret false) else some (Ctl.go ())))) | false => some (Ctl.go ())))))) : Option (Ctl (Unit) (Bool))).bind fun | Ctl.go () => ((ix l43 x99).bind fun x487 => (if x487 = 1 then fEnds_L1 N p1 l33 l43 l53 x80 k100 1 (IntKind.i64.wrap (x99 + 1)) else fEnds_L1 N p1 l33 l43 l53 x80 k100 2 (IntKind.i64.wrap (x99 + 1)))) | Ctl.ret r => some (Ctl.ret r)) | Ctl.ret r => some (Ctl.ret r)))))) else some (Ctl.go ()))
def fEnds (N : Nat) (p0 : List Int) (p1 : Int) (p2 : Int) (p3 : Int) : Option (Bool) :=
 (((if ((p0.length : Nat) : Int) > 3000 then ((kWorks N ).bind fun b16 => some (Ctl.ret b16)) else (if p1 > 250 then ((kWorks N ).bind fun b25 => some (Ctl.ret b25)) else some (Ctl.go ()))) : Option (Ctl (Unit) (Bool))).bind fun | Ctl.go () => ((kCleared N p0).bind fun l33 => ((pNeutral N l33 p1 p2 p3).bind fun l43 => ((pLvl N l43 p1).bind fun l53 => (((if ((l43.length : Nat) : Int) ≠ ((p0.length : Nat) : Int) then some (Ctl.ret false) else (if ((l53.length : Nat) : Int) ≠ ((p0.length : Nat) : Int) then some (Ctl.ret false) else some (Ctl.go ()))) : Option (Ctl (Unit) (Bool))).bind fun | Ctl.go () => (((if (Int.tmod p1 2) = 1 then some (2) else some (1)) : Option (Int)).bind fun x80 => ((fEnds_L1 N p1 l33 l43 l53 x80 N 0 0 : Option (Ctl (Unit) (Bool))).bind fun | Ctl.go () => ((kWorks N ).bind fun b497 => some b497) | Ctl.ret r => some r)) | Ctl.ret r => some r)))) | Ctl.ret r => some r)

set_option linter.unusedVariables false in
def fEnds_R (r : Bool) (w0 : World) (v : Value) (w : World) : Prop := v = .bool r ∧ St [] w0 w []

set_option maxRecDepth 100000 in
set_option maxHeartbeats 4000000 in
theorem fEnds_ok (N : Nat) (p0 : List Int) (p1 : Int) (p2 : Int) (p3 : Int) (A0 : Option Addr) (c0 : Nat) (r : Bool) (hF : fEnds N p0 p1 p2 p3 = some r) (w0 : World) (hv0 : Vw [] .u8 w0 A0 c0 p0) :
  Calls Try.prog 11 #[.slice A0 p0.length c0, .int .u8 p1, .int .u8 p2, .int .u8 p3] w0 fun e w => ∃ v, e = .returned v ∧ fEnds_R r w0 v w := by
 have hS0 := St.start w0
 unfold fEnds at hF
 refine calls_of Try.func11 rfl ⟨((.slice A0 p0.length c0) :: (.int .u8 p1) :: (.int .u8 p2) :: (.int .u8 p3) :: un 172 ([])).toArray, []⟩ (by as_aux_lemma => kernel_rfl) ?_
 refine gx_seq (fun K1 hK2 => ?_)
 refine gx_region ?_
 refine gx_kA (.bool false) w0 ?_
 refine gx_nil ?_
 refine gx_thenN ?_
 refine hK2 _ _ ?_
 obtain ⟨c6, hE7, hO8⟩ := bind_in hF
 refine gx_cut (fun a w => selfA (fun u5 => ⟨((.slice A0 p0.length c0) :: (.int .u8 p1) :: (.int .u8 p2) :: (.int .u8 p3) :: un 4 ((u5 8) :: un 7 (dd u5 16 8 (un 152 ([]))))).toArray, []⟩) a ∧ Ctl.go () = c6 ∧ St [] w0 w []) ?_ ?_
 ·refine gx_seq (fun K9 hK10 => ?_)
  refine gx_region ?_
  refine gx_kA (.slice A0 p0.length c0) w0 (gx_kA (.int .i64 ((p0.length : Nat) : Int)) w0 ?_)
  rcases if_in hE7 with ⟨h11, hE7⟩ | ⟨h11, hE7⟩
  ·refine gx_vA (.bool true) w0 (run_boolE (decide_eq_true h11) (by as_aux_lemma => kernel_rfl)) ?_
   refine gx_kA (.bool true) w0 (gx_oA (gx_oA (gx_kA (.bool true) w0 ?_)))
   refine gx_nil ?_
   refine gx_thenN ?_
   refine hK10 _ _ ?_
   refine gx_yes (by as_aux_lemma => kernel_rfl) ?_
   refine gx_seq (fun K12 hK13 => ?_)
   refine gx_region ?_
   have hP14 : St _ _ w0 ([] ++ []) := hS0
   obtain ⟨b16, hc15, hE7⟩ := bind_in hE7
   try dsimp only at hE7
   refine gx_cA (kWorks_R b16 w0) (kWorks_ok N  _ hc15 w0 ) ?_
   rintro _ w17 ⟨rfl, hT19⟩
   have hS18 : St _ _ w17 [] := hS0.take _ hT19
   refine gx_kA (.bool b16) w17 ?_
   refine gx_nil ?_
   refine gx_thenN ?_
   refine hK13 _ _ ?_
   refine gx_ret ?_
   refine gx_thenR ?_
   obtain rfl := Option.some.inj hE7
   try dsimp only at hO8
   obtain rfl := Option.some.inj hO8
   exact gx_fin (.bool b16) (by as_aux_lemma => kernel_rfl) (by as_aux_lemma => kernel_rfl) ⟨_, rfl, rfl, hS18⟩
  ·refine gx_vA (.bool false) w0 (run_boolE (decide_eq_false h11) (by as_aux_lemma => kernel_rfl)) ?_
   refine gx_kA (.bool false) w0 (gx_kA (.int .u8 p1) w0 ?_)
   rcases if_in hE7 with ⟨h20, hE7⟩ | ⟨h20, hE7⟩
   ·refine gx_vA (.bool true) w0 (run_boolE (decide_eq_true h20) (by as_aux_lemma => kernel_rfl)) ?_
    refine gx_kA (.bool true) w0 ?_
    refine gx_nil ?_
    refine gx_thenN ?_
    refine hK10 _ _ ?_
    refine gx_yes (by as_aux_lemma => kernel_rfl) ?_
    refine gx_seq (fun K21 hK22 => ?_)
    refine gx_region ?_
    have hP23 : St _ _ w0 ([] ++ []) := hS0
    obtain ⟨b25, hc24, hE7⟩ := bind_in hE7
    try dsimp only at hE7
    refine gx_cA (kWorks_R b25 w0) (kWorks_ok N  _ hc24 w0 ) ?_
    rintro _ w26 ⟨rfl, hT28⟩
    have hS27 : St _ _ w26 [] := hS0.take _ hT28
    refine gx_kA (.bool b25) w26 ?_
    refine gx_nil ?_
    refine gx_thenN ?_
    refine hK22 _ _ ?_
    refine gx_ret ?_
    refine gx_thenR ?_
    obtain rfl := Option.some.inj hE7
    try dsimp only at hO8
    obtain rfl := Option.some.inj hO8
    exact gx_fin (.bool b25) (by as_aux_lemma => kernel_rfl) (by as_aux_lemma => kernel_rfl) ⟨_, rfl, rfl, hS27⟩
   ·refine gx_vA (.bool false) w0 (run_boolE (decide_eq_false h20) (by as_aux_lemma => kernel_rfl)) ?_
    refine gx_kA (.bool false) w0 ?_
    refine gx_nil ?_
    refine gx_thenN ?_
    refine hK10 _ _ ?_
    refine gx_no (by as_aux_lemma => kernel_rfl) ?_
    refine gx_pass ?_
    refine gx_thenN ?_
    exact ⟨selfA_i (by as_aux_lemma => kernel_rfl), (Option.some.inj hE7), hS0⟩
 ·rintro _ w3 ⟨hq504, rfl, hS4⟩
  obtain ⟨u5, rfl⟩ := selfA_u hq504
  try dsimp only at hO8
  refine gx_seq (fun K29 hK30 => ?_)
  refine gx_region ?_
  refine gx_kA (.slice A0 p0.length c0) w3 ?_
  have hP31 : St _ _ w3 ([] ++ []) := hS4
  obtain ⟨l33, hc32, hO8⟩ := bind_in hO8
  try dsimp only at hO8
  refine gx_cA (kCleared_R l33 w3) (kCleared_ok N p0 A0 c0 _ hc32 w3 (hP31.vwA hv0)) ?_
  rintro _ w36 ⟨A34, c35, rfl, hT38⟩
  have hS37 : St _ _ w36 [rowE .u8 23 A34 c35 l33] := hS4.take _ hT38
  refine gx_kA (.slice A34 l33.length c35) w36 ?_
  refine gx_nil ?_
  refine gx_thenN ?_
  refine hK30 _ _ ?_
  refine gx_seq (fun K39 hK40 => ?_)
  refine gx_region ?_
  refine gx_kA (.slice A34 l33.length c35) w36 (gx_kA (.int .u8 p1) w36 (gx_kA (.int .u8 p2) w36 (gx_kA (.int .u8 p3) w36 ?_)))
  have hP41 : St _ _ w36 ([] ++ [rowE .u8 23 A34 c35 l33]) := hS37
  obtain ⟨l43, hc42, hO8⟩ := bind_in hO8
  try dsimp only at hO8
  refine gx_cA (pNeutral_R l43 w36) (pNeutral_ok N l33 p1 p2 p3 A34 c35 _ hc42 w36 (hP41.vwB 0 rfl)) ?_
  rintro _ w46 ⟨A44, c45, rfl, hT48⟩
  have hS47 : St _ _ w46 [rowE .u8 23 A34 c35 l33, rowE .u8 23 A44 c45 l43] := hS37.take _ hT48
  refine gx_kA (.slice A44 l43.length c45) w46 ?_
  refine gx_nil ?_
  refine gx_thenN ?_
  refine hK40 _ _ ?_
  refine gx_seq (fun K49 hK50 => ?_)
  refine gx_region ?_
  refine gx_kA (.slice A44 l43.length c45) w46 (gx_kA (.int .u8 p1) w46 ?_)
  have hP51 : St _ _ w46 ([] ++ [rowE .u8 23 A34 c35 l33, rowE .u8 23 A44 c45 l43]) := hS47
  obtain ⟨l53, hc52, hO8⟩ := bind_in hO8
  try dsimp only at hO8
  refine gx_cA (pLvl_R l53 w46) (pLvl_ok N l43 p1 A44 c45 _ hc52 w46 (hP51.vwB 1 rfl)) ?_
  rintro _ w56 ⟨A54, c55, rfl, hT58⟩
  have hS57 : St _ _ w56 [rowE .u8 23 A34 c35 l33, rowE .u8 23 A44 c45 l43, rowE .u8 5 A54 c55 l53] := hS47.take _ hT58
  refine gx_kA (.slice A54 l53.length c55) w56 ?_
  refine gx_nil ?_
  refine gx_thenN ?_
  refine hK50 _ _ ?_
  obtain ⟨c62, hE63, hO64⟩ := bind_in hO8
  refine gx_cut (fun a w => selfA (fun u61 => ⟨((u61 0) :: (.int .u8 p1) :: (.int .u8 p2) :: (.int .u8 p3) :: un 4 ((u61 8) :: (.slice A34 l33.length c35) :: (.slice A44 l43.length c45) :: (.slice A54 l53.length c55) :: un 4 (dd u5 16 8 (dd u61 24 3 ((.int .u8 p1) :: (.int .u8 p2) :: (.int .u8 p3) :: dd u61 30 2 ((.int .u8 p1) :: dd u61 33 13 (un 130 ([])))))))).toArray, []⟩) a ∧ Ctl.go () = c62 ∧ St [] w0 w [rowE .u8 23 A34 c35 l33, rowE .u8 23 A44 c45 l43, rowE .u8 5 A54 c55 l53]) ?_ ?_
  ·refine gx_seq (fun K65 hK66 => ?_)
   refine gx_region ?_
   refine gx_kA (.slice A44 l43.length c45) w56 (gx_kA (.int .i64 ((l43.length : Nat) : Int)) w56 (gx_kA (.slice A0 p0.length c0) w56 (gx_kA (.int .i64 ((p0.length : Nat) : Int)) w56 ?_)))
   rcases if_in hE63 with ⟨h67, hE63⟩ | ⟨h67, hE63⟩
   ·refine gx_vA (.bool true) w56 (run_boolE (ne_yes h67) (by as_aux_lemma => kernel_rfl)) ?_
    refine gx_kA (.bool true) w56 (gx_oA (gx_oA (gx_oA (gx_oA (gx_oA (gx_kA (.bool true) w56 ?_))))))
    refine gx_nil ?_
    refine gx_thenN ?_
    refine hK66 _ _ ?_
    refine gx_yes (by as_aux_lemma => kernel_rfl) ?_
    refine gx_seq (fun K68 hK69 => ?_)
    refine gx_region ?_
    refine gx_kA (.bool false) w56 ?_
    refine gx_nil ?_
    refine gx_thenN ?_
    refine hK69 _ _ ?_
    refine gx_ret ?_
    refine gx_thenR ?_
    obtain rfl := Option.some.inj hE63
    try dsimp only at hO64
    obtain rfl := Option.some.inj hO64
    exact gx_fin (.bool false) (by as_aux_lemma => kernel_rfl) (by as_aux_lemma => kernel_rfl) ⟨_, rfl, rfl, (hS57.pick [] rfl rfl)⟩
   ·refine gx_vA (.bool false) w56 (run_boolE (ne_no h67) (by as_aux_lemma => kernel_rfl)) ?_
    refine gx_kA (.bool false) w56 (gx_kA (.slice A54 l53.length c55) w56 (gx_kA (.int .i64 ((l53.length : Nat) : Int)) w56 (gx_kA (.slice A0 p0.length c0) w56 (gx_kA (.int .i64 ((p0.length : Nat) : Int)) w56 ?_))))
    rcases if_in hE63 with ⟨h70, hE63⟩ | ⟨h70, hE63⟩
    ·refine gx_vA (.bool true) w56 (run_boolE (ne_yes h70) (by as_aux_lemma => kernel_rfl)) ?_
     refine gx_kA (.bool true) w56 ?_
     refine gx_nil ?_
     refine gx_thenN ?_
     refine hK66 _ _ ?_
     refine gx_yes (by as_aux_lemma => kernel_rfl) ?_
     refine gx_seq (fun K71 hK72 => ?_)
     refine gx_region ?_
     refine gx_kA (.bool false) w56 ?_
     refine gx_nil ?_
     refine gx_thenN ?_
     refine hK72 _ _ ?_
     refine gx_ret ?_
     refine gx_thenR ?_
     obtain rfl := Option.some.inj hE63
     try dsimp only at hO64
     obtain rfl := Option.some.inj hO64
     exact gx_fin (.bool false) (by as_aux_lemma => kernel_rfl) (by as_aux_lemma => kernel_rfl) ⟨_, rfl, rfl, (hS57.pick [] rfl rfl)⟩
    ·refine gx_vA (.bool false) w56 (run_boolE (ne_no h70) (by as_aux_lemma => kernel_rfl)) ?_
     refine gx_kA (.bool false) w56 ?_
     refine gx_nil ?_
     refine gx_thenN ?_
     refine hK66 _ _ ?_
     refine gx_no (by as_aux_lemma => kernel_rfl) ?_
     refine gx_pass ?_
     refine gx_thenN ?_
     exact ⟨selfA_i (by as_aux_lemma => kernel_rfl), (Option.some.inj hE63), hS57⟩
  ·rintro _ w59 ⟨hq503, rfl, hS60⟩
   obtain ⟨u61, rfl⟩ := selfA_u hq503
   try dsimp only at hO64
   refine gx_seq (fun K73 hK74 => ?_)
   refine gx_region ?_
   refine gx_kA (.int .i64 0) w59 ?_
   refine gx_nil ?_
   refine gx_thenN ?_
   refine hK74 _ _ ?_
   refine gx_seq (fun K75 hK76 => ?_)
   refine gx_region ?_
   refine gx_kA (.int .u8 1) w59 ?_
   refine gx_nil ?_
   refine gx_thenN ?_
   refine hK76 _ _ ?_
   obtain ⟨c81, hE82, hO83⟩ := bind_in hO64
   refine gx_cut (fun a w => ∃ (x80 : Int), selfA (fun u79 => ⟨((u61 0) :: (.int .u8 p1) :: (.int .u8 p2) :: (.int .u8 p3) :: un 4 ((u61 8) :: (.slice A34 l33.length c35) :: (.slice A44 l43.length c45) :: (.slice A54 l53.length c55) :: (.int .i64 0) :: (.int .u8 x80) :: undef :: undef :: dd u5 16 8 (dd u61 24 3 ((.int .u8 p1) :: (.int .u8 p2) :: (.int .u8 p3) :: dd u61 30 2 ((.int .u8 p1) :: dd u61 33 13 (dd u79 46 3 (un 127 ([])))))))).toArray, []⟩) a ∧ x80 = c81 ∧ St [] w0 w [rowE .u8 23 A34 c35 l33, rowE .u8 23 A44 c45 l43, rowE .u8 5 A54 c55 l53]) ?_ ?_
   ·refine gx_seq (fun K84 hK85 => ?_)
    refine gx_region ?_
    refine gx_kA (.int .u8 p1) w59 (gx_kA (.int .u8 (Int.tmod p1 2)) w59 ?_)
    rcases if_in hE82 with ⟨h86, hE82⟩ | ⟨h86, hE82⟩
    ·refine gx_vA (.bool true) w59 (run_boolE (decide_eq_true h86) (by as_aux_lemma => kernel_rfl)) ?_
     refine gx_nil ?_
     refine gx_thenN ?_
     refine hK85 _ _ ?_
     refine gx_yes (by as_aux_lemma => kernel_rfl) ?_
     refine gx_region ?_
     refine gx_kA (.int .u8 2) w59 ?_
     refine gx_nil ?_
     refine gx_thenN ?_
     exact ⟨2, selfA_i (by as_aux_lemma => kernel_rfl), (Option.some.inj hE82), hS60⟩
    ·refine gx_vA (.bool false) w59 (run_boolE (decide_eq_false h86) (by as_aux_lemma => kernel_rfl)) ?_
     refine gx_nil ?_
     refine gx_thenN ?_
     refine hK85 _ _ ?_
     refine gx_no (by as_aux_lemma => kernel_rfl) ?_
     refine gx_pass ?_
     refine gx_thenN ?_
     exact ⟨1, selfA_i (by as_aux_lemma => kernel_rfl), (Option.some.inj hE82), hS60⟩
   ·rintro _ w77 ⟨x80, hq502, rfl, hS78⟩
    obtain ⟨u79, rfl⟩ := selfA_u hq502
    try dsimp only at hO83
    obtain ⟨c90, hE91, hO92⟩ := bind_in hO83
    refine gx_cut (fun a w => selfA (fun u89 => ⟨((u61 0) :: (.int .u8 p1) :: (.int .u8 p2) :: (.int .u8 p3) :: un 4 (dd u89 8 5 ((.int .u8 x80) :: dd u89 14 2 (dd u5 16 8 (dd u61 24 3 ((.int .u8 p1) :: (.int .u8 p2) :: (.int .u8 p3) :: dd u61 30 2 ((.int .u8 p1) :: dd u61 33 13 (dd u79 46 3 (dd u89 49 126 (undef :: [])))))))))).toArray, []⟩) a ∧ Ctl.go () = c90 ∧ St [] w0 w []) ?_ ?_
    ·refine gx_seq (fun K93 hK94 => ?_)
     refine gx_region ?_
     refine gx_kA (.int .i64 0) w77 ?_
     refine gx_nil ?_
     refine gx_thenN ?_
     refine hK94 _ _ ?_
     refine gx_block ?_
     refine gx_loop (fun k a w => ∃ (x98 : Int) (x99 : Int), selfA (fun u97 => ⟨((u61 0) :: (.int .u8 p1) :: (.int .u8 p2) :: (.int .u8 p3) :: un 4 ((u97 8) :: (.slice A34 l33.length c35) :: (.slice A44 l43.length c45) :: (.slice A54 l53.length c55) :: (.int .i64 x98) :: (.int .u8 x80) :: (.int .i64 x99) :: (u97 15) :: dd u5 16 8 (dd u61 24 3 ((.int .u8 p1) :: (.int .u8 p2) :: (.int .u8 p3) :: dd u61 30 2 ((.int .u8 p1) :: dd u61 33 13 (dd u79 46 3 (dd u97 49 126 (undef :: [])))))))).toArray, []⟩) a ∧ fEnds_L1 N p1 l33 l43 l53 x80 k x98 x99 = some c90 ∧ St [] w0 w [rowE .u8 23 A34 c35 l33, rowE .u8 23 A44 c45 l43, rowE .u8 5 A54 c55 l53]) N ?_ ?_
     ·exact ⟨0, 0, selfA_i (by as_aux_lemma => kernel_rfl), hE91, hS78⟩
     ·rintro k100 _ w95 ⟨x98, x99, hq492, hL101, hS96⟩
      obtain ⟨u97, rfl⟩ := selfA_u hq492
      cases k100 with
      | zero => cases hL101
      | succ k100 =>
       first | rw [fEnds_L1] at hL101 | unfold fEnds_L1 at hL101
       refine gx_seq (fun K102 hK103 => ?_)
       refine gx_seq (fun K104 hK105 => ?_)
       refine gx_region ?_
       refine gx_kA (.int .i64 x99) w95 (gx_kA (.slice A44 l43.length c45) w95 (gx_kA (.int .i64 ((l43.length : Nat) : Int)) w95 ?_))
       rcases if_in hL101 with ⟨h106, hL101⟩ | ⟨h106, hL101⟩
       ·refine gx_vA (.bool true) w95 (run_boolE (decide_eq_true h106) (by as_aux_lemma => kernel_rfl)) ?_
        refine gx_nil ?_
        refine gx_thenN ?_
        refine hK105 _ _ ?_
        refine gx_yes (by as_aux_lemma => kernel_rfl) ?_
        refine gx_pass ?_
        refine gx_thenN ?_
        refine hK103 _ _ ?_
        refine gx_seq (fun K107 hK108 => ?_)
        refine gx_block ?_
        refine gx_seq (fun K109 hK110 => ?_)
        refine gx_region ?_
        refine gx_kA (.slice A44 l43.length c45) w95 (gx_kA (.int .i64 x99) w95 ?_)
        obtain ⟨x111, hx112, hL101⟩ := bind_in hL101
        refine gx_vA (.pointer (Option.map (fun (p : Addr) => p.add (Int.toNat x99 * 1)) A44)) w95 (run_ixaddr (E := 23) (s := 1) (k := .i64) (c := c45) rfl (by as_aux_lemma => kernel_rfl) (by as_aux_lemma => kernel_rfl) (by as_aux_lemma => kernel_rfl) (fun _ => by kernel_rfl) (ix_in hx112).1 (ix_in hx112).2.1 (num_nil (hS96.row 1 rfl).1)) ?_
        refine gx_vA (.int .u8 x111) w95 (run_loadix rfl (by as_aux_lemma => kernel_rfl) (fun _ => by kernel_rfl) (hS96.row 1 rfl).1 hx112) ?_
        rcases if_in hL101 with ⟨h113, hL101⟩ | ⟨h113, hL101⟩
        ·refine gx_vA (.bool true) w95 (run_boolE (decide_eq_true h113) (by as_aux_lemma => kernel_rfl)) ?_
         refine gx_kA (.bool true) w95 ?_
         refine gx_nil ?_
         refine gx_thenN ?_
         refine hK110 _ _ ?_
         refine gx_seq (fun K114 hK115 => ?_)
         refine gx_seq (fun K116 hK117 => ?_)
         refine gx_region ?_
         refine gx_kA (.slice A44 l43.length c45) w95 (gx_kA (.int .i64 x99) w95 ?_)
         obtain ⟨x118, hx119, hL101⟩ := bind_in hL101
         refine gx_vA (.pointer (Option.map (fun (p : Addr) => p.add (Int.toNat x99 * 1)) A44)) w95 (run_ixaddr (E := 23) (s := 1) (k := .i64) (c := c45) rfl (by as_aux_lemma => kernel_rfl) (by as_aux_lemma => kernel_rfl) (by as_aux_lemma => kernel_rfl) (fun _ => by kernel_rfl) (ix_in hx119).1 (ix_in hx119).2.1 (num_nil (hS96.row 1 rfl).1)) ?_
         refine gx_vA (.int .u8 x118) w95 (run_loadix rfl (by as_aux_lemma => kernel_rfl) (fun _ => by kernel_rfl) (hS96.row 1 rfl).1 hx119) ?_
         rcases if_in hL101 with ⟨h120, hL101⟩ | ⟨h120, hL101⟩
         ·refine gx_vA (.bool true) w95 (run_boolE (decide_eq_true h120) (by as_aux_lemma => kernel_rfl)) ?_
          refine gx_nil ?_
          refine gx_thenN ?_
          refine hK117 _ _ ?_
          refine gx_yes (by as_aux_lemma => kernel_rfl) ?_
          refine gx_seq (fun K121 hK122 => ?_)
          refine gx_seq (fun K123 hK124 => ?_)
          refine gx_region ?_
          refine gx_kA (.slice A34 l33.length c35) w95 (gx_kA (.int .i64 x99) w95 ?_)
          obtain ⟨x125, hx126, hL101⟩ := bind_in hL101
          refine gx_vA (.pointer (Option.map (fun (p : Addr) => p.add (Int.toNat x99 * 1)) A34)) w95 (run_ixaddr (E := 23) (s := 1) (k := .i64) (c := c35) rfl (by as_aux_lemma => kernel_rfl) (by as_aux_lemma => kernel_rfl) (by as_aux_lemma => kernel_rfl) (fun _ => by kernel_rfl) (ix_in hx126).1 (ix_in hx126).2.1 (num_nil (hS96.row 0 rfl).1)) ?_
          refine gx_vA (.int .u8 x125) w95 (run_loadix rfl (by as_aux_lemma => kernel_rfl) (fun _ => by kernel_rfl) (hS96.row 0 rfl).1 hx126) ?_
          rcases if_in hL101 with ⟨h127, hL101⟩ | ⟨h127, hL101⟩
          ·refine gx_vA (.bool true) w95 (run_boolE (ne_yes h127) (by as_aux_lemma => kernel_rfl)) ?_
           refine gx_nil ?_
           refine gx_thenN ?_
           refine hK124 _ _ ?_
           refine gx_yes (by as_aux_lemma => kernel_rfl) ?_
           refine gx_seq (fun K128 hK129 => ?_)
           refine gx_region ?_
           refine gx_kA (.bool false) w95 ?_
           refine gx_nil ?_
           refine gx_thenN ?_
           refine hK129 _ _ ?_
           refine gx_ret ?_
           refine gx_thenR ?_
           refine gx_thenR ?_
           refine gx_blkR ?_
           refine gx_thenR ?_
           refine gx_thenR ?_
           refine gx_blkR ?_
           refine gx_thenR ?_
           obtain rfl := Option.some.inj hL101
           try dsimp only at hO92
           obtain rfl := Option.some.inj hO92
           exact gx_fin (.bool false) (by as_aux_lemma => kernel_rfl) (by as_aux_lemma => kernel_rfl) ⟨_, rfl, rfl, (hS96.pick [] rfl rfl)⟩
          ·refine gx_vA (.bool false) w95 (run_boolE (ne_no h127) (by as_aux_lemma => kernel_rfl)) ?_
           refine gx_nil ?_
           refine gx_thenN ?_
           refine hK124 _ _ ?_
           refine gx_no (by as_aux_lemma => kernel_rfl) ?_
           refine gx_pass ?_
           refine gx_thenN ?_
           refine hK122 _ _ ?_
           refine gx_exit ?_
           refine gx_thenE ?_
           refine gx_blkE ?_
           refine gx_thenN ?_
           refine hK108 _ _ ?_
           refine gx_region ?_
           refine gx_kA (.int .i64 x99) w95 (gx_kA (.int .i64 (IntKind.i64.wrap (x99 + 1))) w95 (gx_kA (.int .i64 (IntKind.i64.wrap (x99 + 1))) w95 ?_))
           refine gx_nil ?_
           refine gx_thenN ?_
           exact ⟨k100, Nat.lt_succ_self k100, x98, (IntKind.i64.wrap (x99 + 1)), selfA_i (by as_aux_lemma => kernel_rfl), hL101, hS96⟩
         ·refine gx_vA (.bool false) w95 (run_boolE (decide_eq_false h120) (by as_aux_lemma => kernel_rfl)) ?_
          refine gx_nil ?_
          refine gx_thenN ?_
          refine hK117 _ _ ?_
          refine gx_no (by as_aux_lemma => kernel_rfl) ?_
          refine gx_pass ?_
          refine gx_thenN ?_
          refine hK115 _ _ ?_
          obtain ⟨c133, hE134, hO135⟩ := bind_in hL101
          refine gx_cut (fun a w => selfA (fun u132 => ⟨((u61 0) :: (.int .u8 p1) :: (.int .u8 p2) :: (.int .u8 p3) :: un 4 ((u132 8) :: (.slice A34 l33.length c35) :: (.slice A44 l43.length c45) :: (.slice A54 l53.length c55) :: (.int .i64 x98) :: (.int .u8 x80) :: (.int .i64 x99) :: (.bool true) :: dd u5 16 8 (dd u61 24 3 ((.int .u8 p1) :: (.int .u8 p2) :: (.int .u8 p3) :: dd u61 30 2 ((.int .u8 p1) :: dd u61 33 13 (dd u79 46 3 ((.int .i64 x99) :: (u132 50) :: (.int .i64 ((l43.length : Nat) : Int)) :: (.bool true) :: dd u97 53 2 ((u132 55) :: (.int .i64 x99) :: (.pointer (Option.map (fun (p : Addr) => p.add (Int.toNat x99 * 1)) A44)) :: (.int .u8 x111) :: (.bool true) :: (u132 60) :: (.int .i64 x99) :: (.pointer (Option.map (fun (p : Addr) => p.add (Int.toNat x99 * 1)) A44)) :: (.int .u8 x118) :: (.bool false) :: dd u97 65 5 (dd u132 70 69 (dd u97 139 36 (undef :: []))))))))))).toArray, []⟩) a ∧ Ctl.go () = c133 ∧ St [] w0 w [rowE .u8 23 A34 c35 l33, rowE .u8 23 A44 c45 l43, rowE .u8 5 A54 c55 l53]) ?_ ?_
          ·refine gx_seq (fun K136 hK137 => ?_)
           refine gd_start (fun w => St [] w0 w [rowE .u8 23 A34 c35 l33, rowE .u8 23 A44 c45 l43, rowE .u8 5 A54 c55 l53]) 69 #[false, false, false, false, false, false, false, false, false, false, false, false, false, false, false, false, false, false, false, false, false, false, false, false, false, false, false, false, false, false, false, false, false, false, false, false, false, false, false, false, false, false, false, false, false, false, false, false, false, false, false, false, false, false, false, false, false, false, false, false, false, false, false, false, false, false, false, false, false] (by as_aux_lemma => kernel_rfl) (by as_aux_lemma => kernel_rfl) ?_
           have hS139 := hS96.drew
           generalize w95.drew = w138 at hS139 ⊢
           refine gd1 0 { dst := some 70, op := _, type := _, pos := _, after := _, guard := _ } (.slice A34 l33.length c35) rfl hS139 (fun w hSw => by kernel_rfl) ?_
           refine gd1 1 { dst := some 71, op := _, type := _, pos := _, after := _, guard := _ } (.int .i64 x99) rfl hS139 (fun w hSw => by kernel_rfl) ?_
           obtain ⟨x140, hx141, hE134⟩ := bind_in hE134
           refine gd1 2 { dst := some 72, op := _, type := _, pos := _, after := _, guard := _ } (.pointer (Option.map (fun (p : Addr) => p.add (Int.toNat x99 * 1)) A34)) rfl hS139 (fun w hSw => run_ixaddr (E := 23) (s := 1) (k := .i64) (c := c35) rfl (by as_aux_lemma => kernel_rfl) (by as_aux_lemma => kernel_rfl) (by as_aux_lemma => kernel_rfl) (fun _ => by kernel_rfl) (ix_in hx141).1 (ix_in hx141).2.1 (num_nil (hS139.row 0 rfl).1)) ?_
           refine gd1 3 { dst := some 73, op := _, type := _, pos := _, after := _, guard := _ } (.int .u8 x140) rfl hS139 (fun w hSw => run_loadix rfl (by as_aux_lemma => kernel_rfl) (fun _ => by kernel_rfl) (hSw.row 0 rfl).1 hx141) ?_
           have hP142 : St _ _ w138 ([] ++ [rowE .u8 23 A34 c35 l33, rowE .u8 23 A44 c45 l43, rowE .u8 5 A54 c55 l53]) := hS139
           obtain ⟨b144, hc143, hE134⟩ := bind_in hE134
           try dsimp only at hE134
           refine gdC 4 { dst := some 74, op := _, type := _, pos := _, after := _, guard := _ } (rNeu_R b144 w138) rfl (by as_aux_lemma => kernel_rfl) (rNeu_ok N x140 _ hc143 w138 ) ?_
           rintro _ w145 ⟨rfl, hT147⟩
           have hS146 : St _ _ w145 [rowE .u8 23 A34 c35 l33, rowE .u8 23 A44 c45 l43, rowE .u8 5 A54 c55 l53] := hS139.take _ hT147
           refine ⟨hS146, ?_⟩
           obtain ⟨c152, hE153, hO154⟩ := bind_in hE134
           refine gd_mid (fun a w => ∃ (b151 : Bool), selfA (fun u150 => ⟨((u61 0) :: (.int .u8 p1) :: (.int .u8 p2) :: (.int .u8 p3) :: un 4 ((u97 8) :: (.slice A34 l33.length c35) :: (.slice A44 l43.length c45) :: (.slice A54 l53.length c55) :: (.int .i64 x98) :: (.int .u8 x80) :: (.int .i64 x99) :: (.bool true) :: dd u5 16 8 (dd u61 24 3 ((.int .u8 p1) :: (.int .u8 p2) :: (.int .u8 p3) :: dd u61 30 2 ((.int .u8 p1) :: dd u61 33 13 (dd u79 46 3 ((.int .i64 x99) :: (u150 50) :: (.int .i64 ((l43.length : Nat) : Int)) :: (.bool true) :: dd u97 53 2 ((u150 55) :: (.int .i64 x99) :: (.pointer (Option.map (fun (p : Addr) => p.add (Int.toNat x99 * 1)) A44)) :: (.int .u8 x111) :: (.bool true) :: (u150 60) :: (.int .i64 x99) :: (.pointer (Option.map (fun (p : Addr) => p.add (Int.toNat x99 * 1)) A44)) :: (.int .u8 x118) :: (.bool false) :: dd u97 65 5 ((u150 70) :: (.int .i64 x99) :: (.pointer (Option.map (fun (p : Addr) => p.add (Int.toNat x99 * 1)) A34)) :: (.int .u8 x140) :: (.bool b144) :: dd u150 75 11 ((.bool b151) :: dd u97 87 88 (undef :: []))))))))))).toArray, []⟩) a ∧ b151 = c152 ∧ St [] w0 w [rowE .u8 23 A34 c35 l33, rowE .u8 23 A44 c45 l43, rowE .u8 5 A54 c55 l53]) 52 #[true, true, true, true, true, true, true, true, true, true, true, true, true, true, true, true, true, false, false, false, false, false, false, false, false, false, false, false, false, false, false, false, false, false, false, false, false, false, false, false, false, false, false, false, false, false, false, false, false, false, false, false, false, false, false, false, false, false, false, false, false, false, false, false, false, false, false, false, false] ?_ ?_
           ·rintro _ w148 ⟨b151, hq155, rfl, hS149⟩
            obtain ⟨u150, rfl⟩ := selfA_u hq155
            try dsimp only at hO154
            obtain ⟨c166, hE167, hO168⟩ := bind_in hO154
            refine gd_mid (fun a w => ∃ (b165 : Bool), selfA (fun u164 => ⟨((u61 0) :: (.int .u8 p1) :: (.int .u8 p2) :: (.int .u8 p3) :: un 4 ((u97 8) :: (.slice A34 l33.length c35) :: (.slice A44 l43.length c45) :: (.slice A54 l53.length c55) :: (.int .i64 x98) :: (.int .u8 x80) :: (.int .i64 x99) :: (.bool true) :: dd u5 16 8 (dd u61 24 3 ((.int .u8 p1) :: (.int .u8 p2) :: (.int .u8 p3) :: dd u61 30 2 ((.int .u8 p1) :: dd u61 33 13 (dd u79 46 3 ((.int .i64 x99) :: (u150 50) :: (.int .i64 ((l43.length : Nat) : Int)) :: (.bool true) :: dd u97 53 2 ((u150 55) :: (.int .i64 x99) :: (.pointer (Option.map (fun (p : Addr) => p.add (Int.toNat x99 * 1)) A44)) :: (.int .u8 x111) :: (.bool true) :: (u150 60) :: (.int .i64 x99) :: (.pointer (Option.map (fun (p : Addr) => p.add (Int.toNat x99 * 1)) A44)) :: (.int .u8 x118) :: (.bool false) :: dd u97 65 5 ((u150 70) :: (.int .i64 x99) :: (.pointer (Option.map (fun (p : Addr) => p.add (Int.toNat x99 * 1)) A34)) :: (.int .u8 x140) :: (.bool b144) :: dd u150 75 11 ((.bool b151) :: dd u164 87 24 ((.bool b165) :: dd u97 112 63 (undef :: [])))))))))))).toArray, []⟩) a ∧ b165 = c166 ∧ St [] w0 w [rowE .u8 23 A34 c35 l33, rowE .u8 23 A44 c45 l43, rowE .u8 5 A54 c55 l53]) 27 #[true, true, true, true, true, true, true, true, true, true, true, true, true, true, true, true, true, true, true, true, true, true, true, true, true, true, true, true, true, true, true, true, true, true, true, true, true, true, true, true, true, true, false, false, false, false, false, false, false, false, false, false, false, false, false, false, false, false, false, false, false, false, false, false, false, false, false, false, false] ?_ ?_
            ·rintro _ w162 ⟨b165, hq169, rfl, hS163⟩
             obtain ⟨u164, rfl⟩ := selfA_u hq169
             try dsimp only at hO168
             obtain ⟨c211, hE212, hO213⟩ := bind_in hO168
             refine gd_mid (fun a w => ∃ (b210 : Bool), selfA (fun u209 => ⟨((u61 0) :: (.int .u8 p1) :: (.int .u8 p2) :: (.int .u8 p3) :: un 4 ((u97 8) :: (.slice A34 l33.length c35) :: (.slice A44 l43.length c45) :: (.slice A54 l53.length c55) :: (.int .i64 x98) :: (.int .u8 x80) :: (.int .i64 x99) :: (.bool true) :: dd u5 16 8 (dd u61 24 3 ((.int .u8 p1) :: (.int .u8 p2) :: (.int .u8 p3) :: dd u61 30 2 ((.int .u8 p1) :: dd u61 33 13 (dd u79 46 3 ((.int .i64 x99) :: (u150 50) :: (.int .i64 ((l43.length : Nat) : Int)) :: (.bool true) :: dd u97 53 2 ((u150 55) :: (.int .i64 x99) :: (.pointer (Option.map (fun (p : Addr) => p.add (Int.toNat x99 * 1)) A44)) :: (.int .u8 x111) :: (.bool true) :: (u150 60) :: (.int .i64 x99) :: (.pointer (Option.map (fun (p : Addr) => p.add (Int.toNat x99 * 1)) A44)) :: (.int .u8 x118) :: (.bool false) :: dd u97 65 5 ((u150 70) :: (.int .i64 x99) :: (.pointer (Option.map (fun (p : Addr) => p.add (Int.toNat x99 * 1)) A34)) :: (.int .u8 x140) :: (.bool b144) :: dd u150 75 11 ((.bool b151) :: dd u164 87 24 ((.bool b165) :: dd u209 112 7 ((.bool b210) :: dd u97 120 55 (undef :: []))))))))))))).toArray, []⟩) a ∧ b210 = c211 ∧ St [] w0 w [rowE .u8 23 A34 c35 l33, rowE .u8 23 A44 c45 l43, rowE .u8 5 A54 c55 l53]) 19 #[true, true, true, true, true, true, true, true, true, true, true, true, true, true, true, true, true, true, true, true, true, true, true, true, true, true, true, true, true, true, true, true, true, true, true, true, true, true, true, true, true, true, true, true, true, true, true, true, true, true, false, false, false, false, false, false, false, false, false, false, false, false, false, false, false, false, false, false, false] ?_ ?_
             ·rintro _ w207 ⟨b210, hq214, rfl, hS208⟩
              obtain ⟨u209, rfl⟩ := selfA_u hq214
              try dsimp only at hO213
              obtain ⟨c223, hE224, hO225⟩ := bind_in hO213
              refine gd_mid (fun a w => ∃ (b222 : Bool), selfA (fun u221 => ⟨((u61 0) :: (.int .u8 p1) :: (.int .u8 p2) :: (.int .u8 p3) :: un 4 ((u97 8) :: (.slice A34 l33.length c35) :: (.slice A44 l43.length c45) :: (.slice A54 l53.length c55) :: (.int .i64 x98) :: (.int .u8 x80) :: (.int .i64 x99) :: (.bool true) :: dd u5 16 8 (dd u61 24 3 ((.int .u8 p1) :: (.int .u8 p2) :: (.int .u8 p3) :: dd u61 30 2 ((.int .u8 p1) :: dd u61 33 13 (dd u79 46 3 ((.int .i64 x99) :: (u150 50) :: (.int .i64 ((l43.length : Nat) : Int)) :: (.bool true) :: dd u97 53 2 ((u150 55) :: (.int .i64 x99) :: (.pointer (Option.map (fun (p : Addr) => p.add (Int.toNat x99 * 1)) A44)) :: (.int .u8 x111) :: (.bool true) :: (u150 60) :: (.int .i64 x99) :: (.pointer (Option.map (fun (p : Addr) => p.add (Int.toNat x99 * 1)) A44)) :: (.int .u8 x118) :: (.bool false) :: dd u97 65 5 ((u150 70) :: (.int .i64 x99) :: (.pointer (Option.map (fun (p : Addr) => p.add (Int.toNat x99 * 1)) A34)) :: (.int .u8 x140) :: (.bool b144) :: dd u150 75 11 ((.bool b151) :: dd u164 87 24 ((.bool b165) :: dd u209 112 7 ((.bool b210) :: dd u221 120 8 ((.bool b222) :: dd u97 129 46 (undef :: [])))))))))))))).toArray, []⟩) a ∧ b222 = c223 ∧ St [] w0 w [rowE .u8 23 A34 c35 l33, rowE .u8 23 A44 c45 l43, rowE .u8 5 A54 c55 l53]) 10 #[true, true, true, true, true, true, true, true, true, true, true, true, true, true, true, true, true, true, true, true, true, true, true, true, true, true, true, true, true, true, true, true, true, true, true, true, true, true, true, true, true, true, true, true, true, true, true, true, true, true, true, true, true, true, true, true, true, true, true, false, false, false, false, false, false, false, false, false, false] ?_ ?_
              ·rintro _ w219 ⟨b222, hq226, rfl, hS220⟩
               obtain ⟨u221, rfl⟩ := selfA_u hq226
               try dsimp only at hO225
               refine gd1 59 { dst := some 129, op := _, type := _, pos := _, after := _, guard := _ } (.bool b222) rfl hS220 (fun w hSw => by kernel_rfl) ?_
               cases b222 with
               | true =>
                try dsimp only at hO225
                refine gd0 60 { dst := some 130, op := _, type := _, pos := _, after := _, guard := _ } rfl hS220 ?_
                refine gd0 61 { dst := some 131, op := _, type := _, pos := _, after := _, guard := _ } rfl hS220 ?_
                refine gd0 62 { dst := some 132, op := _, type := _, pos := _, after := _, guard := _ } rfl hS220 ?_
                refine gd0 63 { dst := some 133, op := _, type := _, pos := _, after := _, guard := _ } rfl hS220 ?_
                refine gd0 64 { dst := some 134, op := _, type := _, pos := _, after := _, guard := _ } rfl hS220 ?_
                refine gd0 65 { dst := some 135, op := _, type := _, pos := _, after := _, guard := _ } rfl hS220 ?_
                refine gd0 66 { dst := some 136, op := _, type := _, pos := _, after := _, guard := _ } rfl hS220 ?_
                refine gd0 67 { dst := some 137, op := _, type := _, pos := _, after := _, guard := _ } rfl hS220 ?_
                refine gd1 68 { dst := some 138, op := _, type := _, pos := _, after := _, guard := _ } (.bool true) rfl hS220 (fun w hSw => by kernel_rfl) ?_
                refine gd_done (by as_aux_lemma => kernel_rfl) ?_
                refine gx_thenN ?_
                refine hK137 _ _ ?_
                refine gx_yes (by as_aux_lemma => kernel_rfl) ?_
                refine gx_seq (fun K231 hK232 => ?_)
                refine gx_region ?_
                refine gx_kA (.bool false) w219 ?_
                refine gx_nil ?_
                refine gx_thenN ?_
                refine hK232 _ _ ?_
                refine gx_ret ?_
                refine gx_thenR ?_
                obtain rfl := Option.some.inj hO225
                try dsimp only at hO135
                refine gx_blkR ?_
                refine gx_thenR ?_
                refine gx_thenR ?_
                refine gx_blkR ?_
                refine gx_thenR ?_
                obtain rfl := Option.some.inj hO135
                try dsimp only at hO92
                obtain rfl := Option.some.inj hO92
                exact gx_fin (.bool false) (by as_aux_lemma => kernel_rfl) (by as_aux_lemma => kernel_rfl) ⟨_, rfl, rfl, (hS220.pick [] rfl rfl)⟩
               | false =>
                try dsimp only at hO225
                refine gd1 60 { dst := some 130, op := _, type := _, pos := _, after := _, guard := _ } (.slice A54 l53.length c55) rfl hS220 (fun w hSw => by kernel_rfl) ?_
                refine gd1 61 { dst := some 131, op := _, type := _, pos := _, after := _, guard := _ } (.int .i64 x99) rfl hS220 (fun w hSw => by kernel_rfl) ?_
                obtain ⟨x233, hx234, hO225⟩ := bind_in hO225
                refine gd1 62 { dst := some 132, op := _, type := _, pos := _, after := _, guard := _ } (.pointer (Option.map (fun (p : Addr) => p.add (Int.toNat x99 * 1)) A54)) rfl hS220 (fun w hSw => run_ixaddr (E := 5) (s := 1) (k := .i64) (c := c55) rfl (by as_aux_lemma => kernel_rfl) (by as_aux_lemma => kernel_rfl) (by as_aux_lemma => kernel_rfl) (fun _ => by kernel_rfl) (ix_in hx234).1 (ix_in hx234).2.1 (num_nil (hS220.row 2 rfl).1)) ?_
                refine gd1 63 { dst := some 133, op := _, type := _, pos := _, after := _, guard := _ } (.int .u8 x233) rfl hS220 (fun w hSw => run_loadix rfl (by as_aux_lemma => kernel_rfl) (fun _ => by kernel_rfl) (hSw.row 2 rfl).1 hx234) ?_
                refine gd1 64 { dst := some 134, op := _, type := _, pos := _, after := _, guard := _ } (.int .u8 (Int.tmod x233 2)) rfl hS220 (fun w hSw => by kernel_rfl) ?_
                rcases if_in hO225 with ⟨h235, hO225⟩ | ⟨h235, hO225⟩
                ·refine gd1 65 { dst := some 135, op := _, type := _, pos := _, after := _, guard := _ } (.bool true) rfl hS220 (fun w hSw => run_boolE (decide_eq_true h235) (by as_aux_lemma => kernel_rfl)) ?_
                 refine gd1 66 { dst := some 136, op := _, type := _, pos := _, after := _, guard := _ } (.bool true) rfl hS220 (fun w hSw => by kernel_rfl) ?_
                 refine gd1 67 { dst := some 137, op := _, type := _, pos := _, after := _, guard := _ } (.bool false) rfl hS220 (fun w hSw => by kernel_rfl) ?_
                 refine gd1 68 { dst := some 138, op := _, type := _, pos := _, after := _, guard := _ } (.bool false) rfl hS220 (fun w hSw => by kernel_rfl) ?_
                 refine gd_done (by as_aux_lemma => kernel_rfl) ?_
                 refine gx_thenN ?_
                 refine hK137 _ _ ?_
                 refine gx_no (by as_aux_lemma => kernel_rfl) ?_
                 refine gx_pass ?_
                 refine gx_thenN ?_
                 exact ⟨selfA_i (by as_aux_lemma => kernel_rfl), (Option.some.inj hO225), hS220⟩
                ·refine gd1 65 { dst := some 135, op := _, type := _, pos := _, after := _, guard := _ } (.bool false) rfl hS220 (fun w hSw => run_boolE (decide_eq_false h235) (by as_aux_lemma => kernel_rfl)) ?_
                 refine gd1 66 { dst := some 136, op := _, type := _, pos := _, after := _, guard := _ } (.bool true) rfl hS220 (fun w hSw => by kernel_rfl) ?_
                 refine gd1 67 { dst := some 137, op := _, type := _, pos := _, after := _, guard := _ } (.bool true) rfl hS220 (fun w hSw => by kernel_rfl) ?_
                 refine gd1 68 { dst := some 138, op := _, type := _, pos := _, after := _, guard := _ } (.bool true) rfl hS220 (fun w hSw => by kernel_rfl) ?_
                 refine gd_done (by as_aux_lemma => kernel_rfl) ?_
                 refine gx_thenN ?_
                 refine hK137 _ _ ?_
                 refine gx_yes (by as_aux_lemma => kernel_rfl) ?_
                 refine gx_seq (fun K236 hK237 => ?_)
                 refine gx_region ?_
                 refine gx_kA (.bool false) w219 ?_
                 refine gx_nil ?_
                 refine gx_thenN ?_
                 refine hK237 _ _ ?_
                 refine gx_ret ?_
                 refine gx_thenR ?_
                 obtain rfl := Option.some.inj hO225
                 try dsimp only at hO135
                 refine gx_blkR ?_
                 refine gx_thenR ?_
                 refine gx_thenR ?_
                 refine gx_blkR ?_
                 refine gx_thenR ?_
                 obtain rfl := Option.some.inj hO135
                 try dsimp only at hO92
                 obtain rfl := Option.some.inj hO92
                 exact gx_fin (.bool false) (by as_aux_lemma => kernel_rfl) (by as_aux_lemma => kernel_rfl) ⟨_, rfl, rfl, (hS220.pick [] rfl rfl)⟩
              ·intro hK227
               refine gd1 50 { dst := some 120, op := _, type := _, pos := _, after := _, guard := _ } (.bool b210) rfl hS208 (fun w hSw => by kernel_rfl) ?_
               cases b210 with
               | true =>
                try dsimp only at hE224
                refine gd0 51 { dst := some 121, op := _, type := _, pos := _, after := _, guard := _ } rfl hS208 ?_
                refine gd0 52 { dst := some 122, op := _, type := _, pos := _, after := _, guard := _ } rfl hS208 ?_
                refine gd0 53 { dst := some 123, op := _, type := _, pos := _, after := _, guard := _ } rfl hS208 ?_
                refine gd0 54 { dst := some 124, op := _, type := _, pos := _, after := _, guard := _ } rfl hS208 ?_
                refine gd0 55 { dst := some 125, op := _, type := _, pos := _, after := _, guard := _ } rfl hS208 ?_
                refine gd0 56 { dst := some 126, op := _, type := _, pos := _, after := _, guard := _ } rfl hS208 ?_
                refine gd0 57 { dst := some 127, op := _, type := _, pos := _, after := _, guard := _ } rfl hS208 ?_
                refine gd1 58 { dst := some 128, op := _, type := _, pos := _, after := _, guard := _ } (.bool true) rfl hS208 (fun w hSw => by kernel_rfl) ?_
                exact gd_to hK227 (by as_aux_lemma => kernel_rfl) ⟨true, selfA_i (by as_aux_lemma => kernel_rfl), (Option.some.inj hE224), hS208⟩
               | false =>
                try dsimp only at hE224
                refine gd1 51 { dst := some 121, op := _, type := _, pos := _, after := _, guard := _ } (.slice A54 l53.length c55) rfl hS208 (fun w hSw => by kernel_rfl) ?_
                refine gd1 52 { dst := some 122, op := _, type := _, pos := _, after := _, guard := _ } (.int .i64 x99) rfl hS208 (fun w hSw => by kernel_rfl) ?_
                obtain ⟨x228, hx229, hE224⟩ := bind_in hE224
                refine gd1 53 { dst := some 123, op := _, type := _, pos := _, after := _, guard := _ } (.pointer (Option.map (fun (p : Addr) => p.add (Int.toNat x99 * 1)) A54)) rfl hS208 (fun w hSw => run_ixaddr (E := 5) (s := 1) (k := .i64) (c := c55) rfl (by as_aux_lemma => kernel_rfl) (by as_aux_lemma => kernel_rfl) (by as_aux_lemma => kernel_rfl) (fun _ => by kernel_rfl) (ix_in hx229).1 (ix_in hx229).2.1 (num_nil (hS208.row 2 rfl).1)) ?_
                refine gd1 54 { dst := some 124, op := _, type := _, pos := _, after := _, guard := _ } (.int .u8 x228) rfl hS208 (fun w hSw => run_loadix rfl (by as_aux_lemma => kernel_rfl) (fun _ => by kernel_rfl) (hSw.row 2 rfl).1 hx229) ?_
                refine gd1 55 { dst := some 125, op := _, type := _, pos := _, after := _, guard := _ } (.int .u8 p1) rfl hS208 (fun w hSw => by kernel_rfl) ?_
                refine gd1 56 { dst := some 126, op := _, type := _, pos := _, after := _, guard := _ } (.int .u8 (IntKind.u8.wrap (p1 + 2))) rfl hS208 (fun w hSw => by kernel_rfl) ?_
                rcases if_in hE224 with ⟨h230, hE224⟩ | ⟨h230, hE224⟩
                ·refine gd1 57 { dst := some 127, op := _, type := _, pos := _, after := _, guard := _ } (.bool true) rfl hS208 (fun w hSw => run_boolE (decide_eq_true h230) (by as_aux_lemma => kernel_rfl)) ?_
                 refine gd1 58 { dst := some 128, op := _, type := _, pos := _, after := _, guard := _ } (.bool true) rfl hS208 (fun w hSw => by kernel_rfl) ?_
                 exact gd_to hK227 (by as_aux_lemma => kernel_rfl) ⟨true, selfA_i (by as_aux_lemma => kernel_rfl), (Option.some.inj hE224), hS208⟩
                ·refine gd1 57 { dst := some 127, op := _, type := _, pos := _, after := _, guard := _ } (.bool false) rfl hS208 (fun w hSw => run_boolE (decide_eq_false h230) (by as_aux_lemma => kernel_rfl)) ?_
                 refine gd1 58 { dst := some 128, op := _, type := _, pos := _, after := _, guard := _ } (.bool false) rfl hS208 (fun w hSw => by kernel_rfl) ?_
                 exact gd_to hK227 (by as_aux_lemma => kernel_rfl) ⟨false, selfA_i (by as_aux_lemma => kernel_rfl), (Option.some.inj hE224), hS208⟩
             ·intro hK215
              refine gd1 42 { dst := some 112, op := _, type := _, pos := _, after := _, guard := _ } (.bool b165) rfl hS163 (fun w hSw => by kernel_rfl) ?_
              cases b165 with
              | true =>
               try dsimp only at hE212
               refine gd0 43 { dst := some 113, op := _, type := _, pos := _, after := _, guard := _ } rfl hS163 ?_
               refine gd0 44 { dst := some 114, op := _, type := _, pos := _, after := _, guard := _ } rfl hS163 ?_
               refine gd0 45 { dst := some 115, op := _, type := _, pos := _, after := _, guard := _ } rfl hS163 ?_
               refine gd0 46 { dst := some 116, op := _, type := _, pos := _, after := _, guard := _ } rfl hS163 ?_
               refine gd0 47 { dst := some 117, op := _, type := _, pos := _, after := _, guard := _ } rfl hS163 ?_
               refine gd0 48 { dst := some 118, op := _, type := _, pos := _, after := _, guard := _ } rfl hS163 ?_
               refine gd1 49 { dst := some 119, op := _, type := _, pos := _, after := _, guard := _ } (.bool true) rfl hS163 (fun w hSw => by kernel_rfl) ?_
               exact gd_to hK215 (by as_aux_lemma => kernel_rfl) ⟨true, selfA_i (by as_aux_lemma => kernel_rfl), (Option.some.inj hE212), hS163⟩
              | false =>
               try dsimp only at hE212
               refine gd1 43 { dst := some 113, op := _, type := _, pos := _, after := _, guard := _ } (.slice A54 l53.length c55) rfl hS163 (fun w hSw => by kernel_rfl) ?_
               refine gd1 44 { dst := some 114, op := _, type := _, pos := _, after := _, guard := _ } (.int .i64 x99) rfl hS163 (fun w hSw => by kernel_rfl) ?_
               obtain ⟨x216, hx217, hE212⟩ := bind_in hE212
               refine gd1 45 { dst := some 115, op := _, type := _, pos := _, after := _, guard := _ } (.pointer (Option.map (fun (p : Addr) => p.add (Int.toNat x99 * 1)) A54)) rfl hS163 (fun w hSw => run_ixaddr (E := 5) (s := 1) (k := .i64) (c := c55) rfl (by as_aux_lemma => kernel_rfl) (by as_aux_lemma => kernel_rfl) (by as_aux_lemma => kernel_rfl) (fun _ => by kernel_rfl) (ix_in hx217).1 (ix_in hx217).2.1 (num_nil (hS163.row 2 rfl).1)) ?_
               refine gd1 46 { dst := some 116, op := _, type := _, pos := _, after := _, guard := _ } (.int .u8 x216) rfl hS163 (fun w hSw => run_loadix rfl (by as_aux_lemma => kernel_rfl) (fun _ => by kernel_rfl) (hSw.row 2 rfl).1 hx217) ?_
               refine gd1 47 { dst := some 117, op := _, type := _, pos := _, after := _, guard := _ } (.int .u8 p1) rfl hS163 (fun w hSw => by kernel_rfl) ?_
               rcases if_in hE212 with ⟨h218, hE212⟩ | ⟨h218, hE212⟩
               ·refine gd1 48 { dst := some 118, op := _, type := _, pos := _, after := _, guard := _ } (.bool true) rfl hS163 (fun w hSw => run_boolE (decide_eq_true h218) (by as_aux_lemma => kernel_rfl)) ?_
                refine gd1 49 { dst := some 119, op := _, type := _, pos := _, after := _, guard := _ } (.bool true) rfl hS163 (fun w hSw => by kernel_rfl) ?_
                exact gd_to hK215 (by as_aux_lemma => kernel_rfl) ⟨true, selfA_i (by as_aux_lemma => kernel_rfl), (Option.some.inj hE212), hS163⟩
               ·refine gd1 48 { dst := some 118, op := _, type := _, pos := _, after := _, guard := _ } (.bool false) rfl hS163 (fun w hSw => run_boolE (decide_eq_false h218) (by as_aux_lemma => kernel_rfl)) ?_
                refine gd1 49 { dst := some 119, op := _, type := _, pos := _, after := _, guard := _ } (.bool false) rfl hS163 (fun w hSw => by kernel_rfl) ?_
                exact gd_to hK215 (by as_aux_lemma => kernel_rfl) ⟨false, selfA_i (by as_aux_lemma => kernel_rfl), (Option.some.inj hE212), hS163⟩
            ·intro hK170
             refine gd1 17 { dst := some 87, op := _, type := _, pos := _, after := _, guard := _ } (.bool b151) rfl hS149 (fun w hSw => by kernel_rfl) ?_
             cases b151 with
             | true =>
              try dsimp only at hE167
              refine gd0 18 { dst := some 88, op := _, type := _, pos := _, after := _, guard := _ } rfl hS149 ?_
              refine gd0 19 { dst := some 89, op := _, type := _, pos := _, after := _, guard := _ } rfl hS149 ?_
              refine gd0 20 { dst := some 90, op := _, type := _, pos := _, after := _, guard := _ } rfl hS149 ?_
              refine gd0 21 { dst := some 91, op := _, type := _, pos := _, after := _, guard := _ } rfl hS149 ?_
              refine gd0 22 { dst := some 92, op := _, type := _, pos := _, after := _, guard := _ } rfl hS149 ?_
              refine gd0 23 { dst := some 93, op := _, type := _, pos := _, after := _, guard := _ } rfl hS149 ?_
              refine gd0 24 { dst := some 94, op := _, type := _, pos := _, after := _, guard := _ } rfl hS149 ?_
              refine gd0 25 { dst := some 95, op := _, type := _, pos := _, after := _, guard := _ } rfl hS149 ?_
              refine gd0 26 { dst := some 96, op := _, type := _, pos := _, after := _, guard := _ } rfl hS149 ?_
              refine gd0 27 { dst := some 97, op := _, type := _, pos := _, after := _, guard := _ } rfl hS149 ?_
              refine gd0 28 { dst := some 98, op := _, type := _, pos := _, after := _, guard := _ } rfl hS149 ?_
              refine gd0 29 { dst := some 99, op := _, type := _, pos := _, after := _, guard := _ } rfl hS149 ?_
              refine gd0 30 { dst := some 100, op := _, type := _, pos := _, after := _, guard := _ } rfl hS149 ?_
              refine gd0 31 { dst := some 101, op := _, type := _, pos := _, after := _, guard := _ } rfl hS149 ?_
              refine gd0 32 { dst := some 102, op := _, type := _, pos := _, after := _, guard := _ } rfl hS149 ?_
              refine gd0 33 { dst := some 103, op := _, type := _, pos := _, after := _, guard := _ } rfl hS149 ?_
              refine gd0 34 { dst := some 104, op := _, type := _, pos := _, after := _, guard := _ } rfl hS149 ?_
              refine gd0 35 { dst := some 105, op := _, type := _, pos := _, after := _, guard := _ } rfl hS149 ?_
              refine gd0 36 { dst := some 106, op := _, type := _, pos := _, after := _, guard := _ } rfl hS149 ?_
              refine gd0 37 { dst := some 107, op := _, type := _, pos := _, after := _, guard := _ } rfl hS149 ?_
              refine gd0 38 { dst := some 108, op := _, type := _, pos := _, after := _, guard := _ } rfl hS149 ?_
              refine gd0 39 { dst := some 109, op := _, type := _, pos := _, after := _, guard := _ } rfl hS149 ?_
              refine gd0 40 { dst := some 110, op := _, type := _, pos := _, after := _, guard := _ } rfl hS149 ?_
              refine gd1 41 { dst := some 111, op := _, type := _, pos := _, after := _, guard := _ } (.bool true) rfl hS149 (fun w hSw => by kernel_rfl) ?_
              exact gd_to hK170 (by as_aux_lemma => kernel_rfl) ⟨true, selfA_i (by as_aux_lemma => kernel_rfl), (Option.some.inj hE167), hS149⟩
             | false =>
              try dsimp only at hE167
              refine gd1 18 { dst := some 88, op := _, type := _, pos := _, after := _, guard := _ } (.slice A44 l43.length c45) rfl hS149 (fun w hSw => by kernel_rfl) ?_
              refine gd1 19 { dst := some 89, op := _, type := _, pos := _, after := _, guard := _ } (.int .i64 x99) rfl hS149 (fun w hSw => by kernel_rfl) ?_
              obtain ⟨x171, hx172, hE167⟩ := bind_in hE167
              refine gd1 20 { dst := some 90, op := _, type := _, pos := _, after := _, guard := _ } (.pointer (Option.map (fun (p : Addr) => p.add (Int.toNat x99 * 1)) A44)) rfl hS149 (fun w hSw => run_ixaddr (E := 23) (s := 1) (k := .i64) (c := c45) rfl (by as_aux_lemma => kernel_rfl) (by as_aux_lemma => kernel_rfl) (by as_aux_lemma => kernel_rfl) (fun _ => by kernel_rfl) (ix_in hx172).1 (ix_in hx172).2.1 (num_nil (hS149.row 1 rfl).1)) ?_
              refine gd1 21 { dst := some 91, op := _, type := _, pos := _, after := _, guard := _ } (.int .u8 x171) rfl hS149 (fun w hSw => run_loadix rfl (by as_aux_lemma => kernel_rfl) (fun _ => by kernel_rfl) (hSw.row 1 rfl).1 hx172) ?_
              obtain ⟨c177, hE178, hO179⟩ := bind_in hE167
              refine gd_mid (fun a w => ∃ (b176 : Bool), selfA (fun u175 => ⟨((u61 0) :: (.int .u8 p1) :: (.int .u8 p2) :: (.int .u8 p3) :: un 4 ((u97 8) :: (.slice A34 l33.length c35) :: (.slice A44 l43.length c45) :: (.slice A54 l53.length c55) :: (.int .i64 x98) :: (.int .u8 x80) :: (.int .i64 x99) :: (.bool true) :: dd u5 16 8 (dd u61 24 3 ((.int .u8 p1) :: (.int .u8 p2) :: (.int .u8 p3) :: dd u61 30 2 ((.int .u8 p1) :: dd u61 33 13 (dd u79 46 3 ((.int .i64 x99) :: (u150 50) :: (.int .i64 ((l43.length : Nat) : Int)) :: (.bool true) :: dd u97 53 2 ((u150 55) :: (.int .i64 x99) :: (.pointer (Option.map (fun (p : Addr) => p.add (Int.toNat x99 * 1)) A44)) :: (.int .u8 x111) :: (.bool true) :: (u150 60) :: (.int .i64 x99) :: (.pointer (Option.map (fun (p : Addr) => p.add (Int.toNat x99 * 1)) A44)) :: (.int .u8 x118) :: (.bool false) :: dd u97 65 5 ((u150 70) :: (.int .i64 x99) :: (.pointer (Option.map (fun (p : Addr) => p.add (Int.toNat x99 * 1)) A34)) :: (.int .u8 x140) :: (.bool b144) :: dd u150 75 11 ((.bool false) :: (.bool false) :: (u175 88) :: (.int .i64 x99) :: (.pointer (Option.map (fun (p : Addr) => p.add (Int.toNat x99 * 1)) A44)) :: (.int .u8 x171) :: dd u175 92 4 ((.bool b176) :: dd u97 97 78 (undef :: [])))))))))))).toArray, []⟩) a ∧ b176 = c177 ∧ St [] w0 w [rowE .u8 23 A34 c35 l33, rowE .u8 23 A44 c45 l43, rowE .u8 5 A54 c55 l53]) 42 #[true, true, true, true, true, true, true, true, true, true, true, true, true, true, true, true, true, true, true, true, true, true, true, true, true, true, true, false, false, false, false, false, false, false, false, false, false, false, false, false, false, false, false, false, false, false, false, false, false, false, false, false, false, false, false, false, false, false, false, false, false, false, false, false, false, false, false, false, false] ?_ ?_
              ·rintro _ w173 ⟨b176, hq180, rfl, hS174⟩
               obtain ⟨u175, rfl⟩ := selfA_u hq180
               try dsimp only at hO179
               obtain ⟨c187, hE188, hO189⟩ := bind_in hO179
               refine gd_mid (fun a w => ∃ (b186 : Bool), selfA (fun u185 => ⟨((u61 0) :: (.int .u8 p1) :: (.int .u8 p2) :: (.int .u8 p3) :: un 4 ((u97 8) :: (.slice A34 l33.length c35) :: (.slice A44 l43.length c45) :: (.slice A54 l53.length c55) :: (.int .i64 x98) :: (.int .u8 x80) :: (.int .i64 x99) :: (.bool true) :: dd u5 16 8 (dd u61 24 3 ((.int .u8 p1) :: (.int .u8 p2) :: (.int .u8 p3) :: dd u61 30 2 ((.int .u8 p1) :: dd u61 33 13 (dd u79 46 3 ((.int .i64 x99) :: (u150 50) :: (.int .i64 ((l43.length : Nat) : Int)) :: (.bool true) :: dd u97 53 2 ((u150 55) :: (.int .i64 x99) :: (.pointer (Option.map (fun (p : Addr) => p.add (Int.toNat x99 * 1)) A44)) :: (.int .u8 x111) :: (.bool true) :: (u150 60) :: (.int .i64 x99) :: (.pointer (Option.map (fun (p : Addr) => p.add (Int.toNat x99 * 1)) A44)) :: (.int .u8 x118) :: (.bool false) :: dd u97 65 5 ((u150 70) :: (.int .i64 x99) :: (.pointer (Option.map (fun (p : Addr) => p.add (Int.toNat x99 * 1)) A34)) :: (.int .u8 x140) :: (.bool b144) :: dd u150 75 11 ((.bool false) :: (.bool false) :: (u175 88) :: (.int .i64 x99) :: (.pointer (Option.map (fun (p : Addr) => p.add (Int.toNat x99 * 1)) A44)) :: (.int .u8 x171) :: dd u175 92 4 ((.bool b176) :: dd u185 97 6 ((.bool b186) :: dd u97 104 71 (undef :: []))))))))))))).toArray, []⟩) a ∧ b186 = c187 ∧ St [] w0 w [rowE .u8 23 A34 c35 l33, rowE .u8 23 A44 c45 l43, rowE .u8 5 A54 c55 l53]) 35 #[true, true, true, true, true, true, true, true, true, true, true, true, true, true, true, true, true, true, true, true, true, true, true, true, true, true, true, true, true, true, true, true, true, true, false, false, false, false, false, false, false, false, false, false, false, false, false, false, false, false, false, false, false, false, false, false, false, false, false, false, false, false, false, false, false, false, false, false, false] ?_ ?_
               ·rintro _ w183 ⟨b186, hq190, rfl, hS184⟩
                obtain ⟨u185, rfl⟩ := selfA_u hq190
                try dsimp only at hO189
                obtain ⟨c199, hE200, hO201⟩ := bind_in hO189
                refine gd_mid (fun a w => ∃ (b198 : Bool), selfA (fun u197 => ⟨((u61 0) :: (.int .u8 p1) :: (.int .u8 p2) :: (.int .u8 p3) :: un 4 ((u97 8) :: (.slice A34 l33.length c35) :: (.slice A44 l43.length c45) :: (.slice A54 l53.length c55) :: (.int .i64 x98) :: (.int .u8 x80) :: (.int .i64 x99) :: (.bool true) :: dd u5 16 8 (dd u61 24 3 ((.int .u8 p1) :: (.int .u8 p2) :: (.int .u8 p3) :: dd u61 30 2 ((.int .u8 p1) :: dd u61 33 13 (dd u79 46 3 ((.int .i64 x99) :: (u150 50) :: (.int .i64 ((l43.length : Nat) : Int)) :: (.bool true) :: dd u97 53 2 ((u150 55) :: (.int .i64 x99) :: (.pointer (Option.map (fun (p : Addr) => p.add (Int.toNat x99 * 1)) A44)) :: (.int .u8 x111) :: (.bool true) :: (u150 60) :: (.int .i64 x99) :: (.pointer (Option.map (fun (p : Addr) => p.add (Int.toNat x99 * 1)) A44)) :: (.int .u8 x118) :: (.bool false) :: dd u97 65 5 ((u150 70) :: (.int .i64 x99) :: (.pointer (Option.map (fun (p : Addr) => p.add (Int.toNat x99 * 1)) A34)) :: (.int .u8 x140) :: (.bool b144) :: dd u150 75 11 ((.bool false) :: (.bool false) :: (u175 88) :: (.int .i64 x99) :: (.pointer (Option.map (fun (p : Addr) => p.add (Int.toNat x99 * 1)) A44)) :: (.int .u8 x171) :: dd u175 92 4 ((.bool b176) :: dd u185 97 6 ((.bool b186) :: dd u197 104 6 ((.bool b198) :: dd u97 111 64 (undef :: [])))))))))))))).toArray, []⟩) a ∧ b198 = c199 ∧ St [] w0 w [rowE .u8 23 A34 c35 l33, rowE .u8 23 A44 c45 l43, rowE .u8 5 A54 c55 l53]) 28 #[true, true, true, true, true, true, true, true, true, true, true, true, true, true, true, true, true, true, true, true, true, true, true, true, true, true, true, true, true, true, true, true, true, true, true, true, true, true, true, true, true, false, false, false, false, false, false, false, false, false, false, false, false, false, false, false, false, false, false, false, false, false, false, false, false, false, false, false, false] ?_ ?_
                ·rintro _ w195 ⟨b198, hq202, rfl, hS196⟩
                 obtain ⟨u197, rfl⟩ := selfA_u hq202
                 try dsimp only at hO201
                 refine gd1 41 { dst := some 111, op := _, type := _, pos := _, after := _, guard := _ } (.bool b198) rfl hS196 (fun w hSw => by kernel_rfl) ?_
                 exact gd_to hK170 (by as_aux_lemma => kernel_rfl) ⟨b198, selfA_i (by as_aux_lemma => kernel_rfl), (Option.some.inj hO201), hS196⟩
                ·intro hK203
                 refine gd1 34 { dst := some 104, op := _, type := _, pos := _, after := _, guard := _ } (.bool b186) rfl hS184 (fun w hSw => by kernel_rfl) ?_
                 cases b186 with
                 | true =>
                  try dsimp only at hE200
                  refine gd1 35 { dst := some 105, op := _, type := _, pos := _, after := _, guard := _ } (.slice A44 l43.length c45) rfl hS184 (fun w hSw => by kernel_rfl) ?_
                  refine gd1 36 { dst := some 106, op := _, type := _, pos := _, after := _, guard := _ } (.int .i64 x99) rfl hS184 (fun w hSw => by kernel_rfl) ?_
                  obtain ⟨x204, hx205, hE200⟩ := bind_in hE200
                  refine gd1 37 { dst := some 107, op := _, type := _, pos := _, after := _, guard := _ } (.pointer (Option.map (fun (p : Addr) => p.add (Int.toNat x99 * 1)) A44)) rfl hS184 (fun w hSw => run_ixaddr (E := 23) (s := 1) (k := .i64) (c := c45) rfl (by as_aux_lemma => kernel_rfl) (by as_aux_lemma => kernel_rfl) (by as_aux_lemma => kernel_rfl) (fun _ => by kernel_rfl) (ix_in hx205).1 (ix_in hx205).2.1 (num_nil (hS184.row 1 rfl).1)) ?_
                  refine gd1 38 { dst := some 108, op := _, type := _, pos := _, after := _, guard := _ } (.int .u8 x204) rfl hS184 (fun w hSw => run_loadix rfl (by as_aux_lemma => kernel_rfl) (fun _ => by kernel_rfl) (hSw.row 1 rfl).1 hx205) ?_
                  rcases if_in hE200 with ⟨h206, hE200⟩ | ⟨h206, hE200⟩
                  ·refine gd1 39 { dst := some 109, op := _, type := _, pos := _, after := _, guard := _ } (.bool true) rfl hS184 (fun w hSw => run_boolE (ne_yes h206) (by as_aux_lemma => kernel_rfl)) ?_
                   refine gd1 40 { dst := some 110, op := _, type := _, pos := _, after := _, guard := _ } (.bool true) rfl hS184 (fun w hSw => by kernel_rfl) ?_
                   exact gd_to hK203 (by as_aux_lemma => kernel_rfl) ⟨true, selfA_i (by as_aux_lemma => kernel_rfl), (Option.some.inj hE200), hS184⟩
                  ·refine gd1 39 { dst := some 109, op := _, type := _, pos := _, after := _, guard := _ } (.bool false) rfl hS184 (fun w hSw => run_boolE (ne_no h206) (by as_aux_lemma => kernel_rfl)) ?_
                   refine gd1 40 { dst := some 110, op := _, type := _, pos := _, after := _, guard := _ } (.bool false) rfl hS184 (fun w hSw => by kernel_rfl) ?_
                   exact gd_to hK203 (by as_aux_lemma => kernel_rfl) ⟨false, selfA_i (by as_aux_lemma => kernel_rfl), (Option.some.inj hE200), hS184⟩
                 | false =>
                  try dsimp only at hE200
                  refine gd0 35 { dst := some 105, op := _, type := _, pos := _, after := _, guard := _ } rfl hS184 ?_
                  refine gd0 36 { dst := some 106, op := _, type := _, pos := _, after := _, guard := _ } rfl hS184 ?_
                  refine gd0 37 { dst := some 107, op := _, type := _, pos := _, after := _, guard := _ } rfl hS184 ?_
                  refine gd0 38 { dst := some 108, op := _, type := _, pos := _, after := _, guard := _ } rfl hS184 ?_
                  refine gd0 39 { dst := some 109, op := _, type := _, pos := _, after := _, guard := _ } rfl hS184 ?_
                  refine gd1 40 { dst := some 110, op := _, type := _, pos := _, after := _, guard := _ } (.bool false) rfl hS184 (fun w hSw => by kernel_rfl) ?_
                  exact gd_to hK203 (by as_aux_lemma => kernel_rfl) ⟨false, selfA_i (by as_aux_lemma => kernel_rfl), (Option.some.inj hE200), hS184⟩
               ·intro hK191
                refine gd1 27 { dst := some 97, op := _, type := _, pos := _, after := _, guard := _ } (.bool b176) rfl hS174 (fun w hSw => by kernel_rfl) ?_
                cases b176 with
                | true =>
                 try dsimp only at hE188
                 refine gd1 28 { dst := some 98, op := _, type := _, pos := _, after := _, guard := _ } (.slice A44 l43.length c45) rfl hS174 (fun w hSw => by kernel_rfl) ?_
                 refine gd1 29 { dst := some 99, op := _, type := _, pos := _, after := _, guard := _ } (.int .i64 x99) rfl hS174 (fun w hSw => by kernel_rfl) ?_
                 obtain ⟨x192, hx193, hE188⟩ := bind_in hE188
                 refine gd1 30 { dst := some 100, op := _, type := _, pos := _, after := _, guard := _ } (.pointer (Option.map (fun (p : Addr) => p.add (Int.toNat x99 * 1)) A44)) rfl hS174 (fun w hSw => run_ixaddr (E := 23) (s := 1) (k := .i64) (c := c45) rfl (by as_aux_lemma => kernel_rfl) (by as_aux_lemma => kernel_rfl) (by as_aux_lemma => kernel_rfl) (fun _ => by kernel_rfl) (ix_in hx193).1 (ix_in hx193).2.1 (num_nil (hS174.row 1 rfl).1)) ?_
                 refine gd1 31 { dst := some 101, op := _, type := _, pos := _, after := _, guard := _ } (.int .u8 x192) rfl hS174 (fun w hSw => run_loadix rfl (by as_aux_lemma => kernel_rfl) (fun _ => by kernel_rfl) (hSw.row 1 rfl).1 hx193) ?_
                 rcases if_in hE188 with ⟨h194, hE188⟩ | ⟨h194, hE188⟩
                 ·refine gd1 32 { dst := some 102, op := _, type := _, pos := _, after := _, guard := _ } (.bool true) rfl hS174 (fun w hSw => run_boolE (ne_yes h194) (by as_aux_lemma => kernel_rfl)) ?_
                  refine gd1 33 { dst := some 103, op := _, type := _, pos := _, after := _, guard := _ } (.bool true) rfl hS174 (fun w hSw => by kernel_rfl) ?_
                  exact gd_to hK191 (by as_aux_lemma => kernel_rfl) ⟨true, selfA_i (by as_aux_lemma => kernel_rfl), (Option.some.inj hE188), hS174⟩
                 ·refine gd1 32 { dst := some 102, op := _, type := _, pos := _, after := _, guard := _ } (.bool false) rfl hS174 (fun w hSw => run_boolE (ne_no h194) (by as_aux_lemma => kernel_rfl)) ?_
                  refine gd1 33 { dst := some 103, op := _, type := _, pos := _, after := _, guard := _ } (.bool false) rfl hS174 (fun w hSw => by kernel_rfl) ?_
                  exact gd_to hK191 (by as_aux_lemma => kernel_rfl) ⟨false, selfA_i (by as_aux_lemma => kernel_rfl), (Option.some.inj hE188), hS174⟩
                | false =>
                 try dsimp only at hE188
                 refine gd0 28 { dst := some 98, op := _, type := _, pos := _, after := _, guard := _ } rfl hS174 ?_
                 refine gd0 29 { dst := some 99, op := _, type := _, pos := _, after := _, guard := _ } rfl hS174 ?_
                 refine gd0 30 { dst := some 100, op := _, type := _, pos := _, after := _, guard := _ } rfl hS174 ?_
                 refine gd0 31 { dst := some 101, op := _, type := _, pos := _, after := _, guard := _ } rfl hS174 ?_
                 refine gd0 32 { dst := some 102, op := _, type := _, pos := _, after := _, guard := _ } rfl hS174 ?_
                 refine gd1 33 { dst := some 103, op := _, type := _, pos := _, after := _, guard := _ } (.bool false) rfl hS174 (fun w hSw => by kernel_rfl) ?_
                 exact gd_to hK191 (by as_aux_lemma => kernel_rfl) ⟨false, selfA_i (by as_aux_lemma => kernel_rfl), (Option.some.inj hE188), hS174⟩
              ·intro hK181
               rcases if_in hE178 with ⟨h182, hE178⟩ | ⟨h182, hE178⟩
               ·refine gd1 22 { dst := some 92, op := _, type := _, pos := _, after := _, guard := _ } (.bool true) rfl hS149 (fun w hSw => run_boolE (ne_yes h182) (by as_aux_lemma => kernel_rfl)) ?_
                refine gd1 23 { dst := some 93, op := _, type := _, pos := _, after := _, guard := _ } (.bool true) rfl hS149 (fun w hSw => by kernel_rfl) ?_
                refine gd1 24 { dst := some 94, op := _, type := _, pos := _, after := _, guard := _ } (.bool true) rfl hS149 (fun w hSw => by kernel_rfl) ?_
                refine gd1 25 { dst := some 95, op := _, type := _, pos := _, after := _, guard := _ } (.bool false) rfl hS149 (fun w hSw => by kernel_rfl) ?_
                refine gd1 26 { dst := some 96, op := _, type := _, pos := _, after := _, guard := _ } (.bool false) rfl hS149 (fun w hSw => by kernel_rfl) ?_
                exact gd_to hK181 (by as_aux_lemma => kernel_rfl) ⟨false, selfA_i (by as_aux_lemma => kernel_rfl), (Option.some.inj hE178), hS149⟩
               ·refine gd1 22 { dst := some 92, op := _, type := _, pos := _, after := _, guard := _ } (.bool false) rfl hS149 (fun w hSw => run_boolE (ne_no h182) (by as_aux_lemma => kernel_rfl)) ?_
                refine gd1 23 { dst := some 93, op := _, type := _, pos := _, after := _, guard := _ } (.bool false) rfl hS149 (fun w hSw => by kernel_rfl) ?_
                refine gd0 24 { dst := some 94, op := _, type := _, pos := _, after := _, guard := _ } rfl hS149 ?_
                refine gd0 25 { dst := some 95, op := _, type := _, pos := _, after := _, guard := _ } rfl hS149 ?_
                refine gd1 26 { dst := some 96, op := _, type := _, pos := _, after := _, guard := _ } (.bool false) rfl hS149 (fun w hSw => by kernel_rfl) ?_
                exact gd_to hK181 (by as_aux_lemma => kernel_rfl) ⟨false, selfA_i (by as_aux_lemma => kernel_rfl), (Option.some.inj hE178), hS149⟩
           ·intro hK156
            cases b144 with
            | true =>
             try dsimp only at hE153
             refine gd1 5 { dst := some 75, op := _, type := _, pos := _, after := _, guard := _ } (.bool false) rfl hS146 (fun w hSw => by kernel_rfl) ?_
             refine gd1 6 { dst := some 76, op := _, type := _, pos := _, after := _, guard := _ } (.bool false) rfl hS146 (fun w hSw => by kernel_rfl) ?_
             refine gd0 7 { dst := some 77, op := _, type := _, pos := _, after := _, guard := _ } rfl hS146 ?_
             refine gd0 8 { dst := some 78, op := _, type := _, pos := _, after := _, guard := _ } rfl hS146 ?_
             refine gd0 9 { dst := some 79, op := _, type := _, pos := _, after := _, guard := _ } rfl hS146 ?_
             refine gd0 10 { dst := some 80, op := _, type := _, pos := _, after := _, guard := _ } rfl hS146 ?_
             refine gd0 11 { dst := some 81, op := _, type := _, pos := _, after := _, guard := _ } rfl hS146 ?_
             refine gd0 12 { dst := some 82, op := _, type := _, pos := _, after := _, guard := _ } rfl hS146 ?_
             refine gd0 13 { dst := some 83, op := _, type := _, pos := _, after := _, guard := _ } rfl hS146 ?_
             refine gd0 14 { dst := some 84, op := _, type := _, pos := _, after := _, guard := _ } rfl hS146 ?_
             refine gd0 15 { dst := some 85, op := _, type := _, pos := _, after := _, guard := _ } rfl hS146 ?_
             refine gd1 16 { dst := some 86, op := _, type := _, pos := _, after := _, guard := _ } (.bool false) rfl hS146 (fun w hSw => by kernel_rfl) ?_
             exact gd_to hK156 (by as_aux_lemma => kernel_rfl) ⟨false, selfA_i (by as_aux_lemma => kernel_rfl), (Option.some.inj hE153), hS146⟩
            | false =>
             try dsimp only at hE153
             refine gd1 5 { dst := some 75, op := _, type := _, pos := _, after := _, guard := _ } (.bool true) rfl hS146 (fun w hSw => by kernel_rfl) ?_
             refine gd1 6 { dst := some 76, op := _, type := _, pos := _, after := _, guard := _ } (.bool true) rfl hS146 (fun w hSw => by kernel_rfl) ?_
             refine gd1 7 { dst := some 77, op := _, type := _, pos := _, after := _, guard := _ } (.slice A44 l43.length c45) rfl hS146 (fun w hSw => by kernel_rfl) ?_
             refine gd1 8 { dst := some 78, op := _, type := _, pos := _, after := _, guard := _ } (.int .i64 x99) rfl hS146 (fun w hSw => by kernel_rfl) ?_
             obtain ⟨x157, hx158, hE153⟩ := bind_in hE153
             refine gd1 9 { dst := some 79, op := _, type := _, pos := _, after := _, guard := _ } (.pointer (Option.map (fun (p : Addr) => p.add (Int.toNat x99 * 1)) A44)) rfl hS146 (fun w hSw => run_ixaddr (E := 23) (s := 1) (k := .i64) (c := c45) rfl (by as_aux_lemma => kernel_rfl) (by as_aux_lemma => kernel_rfl) (by as_aux_lemma => kernel_rfl) (fun _ => by kernel_rfl) (ix_in hx158).1 (ix_in hx158).2.1 (num_nil (hS146.row 1 rfl).1)) ?_
             refine gd1 10 { dst := some 80, op := _, type := _, pos := _, after := _, guard := _ } (.int .u8 x157) rfl hS146 (fun w hSw => run_loadix rfl (by as_aux_lemma => kernel_rfl) (fun _ => by kernel_rfl) (hSw.row 1 rfl).1 hx158) ?_
             refine gd1 11 { dst := some 81, op := _, type := _, pos := _, after := _, guard := _ } (.slice A34 l33.length c35) rfl hS146 (fun w hSw => by kernel_rfl) ?_
             refine gd1 12 { dst := some 82, op := _, type := _, pos := _, after := _, guard := _ } (.int .i64 x99) rfl hS146 (fun w hSw => by kernel_rfl) ?_
             obtain ⟨x159, hx160, hE153⟩ := bind_in hE153
             refine gd1 13 { dst := some 83, op := _, type := _, pos := _, after := _, guard := _ } (.pointer (Option.map (fun (p : Addr) => p.add (Int.toNat x99 * 1)) A34)) rfl hS146 (fun w hSw => run_ixaddr (E := 23) (s := 1) (k := .i64) (c := c35) rfl (by as_aux_lemma => kernel_rfl) (by as_aux_lemma => kernel_rfl) (by as_aux_lemma => kernel_rfl) (fun _ => by kernel_rfl) (ix_in hx160).1 (ix_in hx160).2.1 (num_nil (hS146.row 0 rfl).1)) ?_
             refine gd1 14 { dst := some 84, op := _, type := _, pos := _, after := _, guard := _ } (.int .u8 x159) rfl hS146 (fun w hSw => run_loadix rfl (by as_aux_lemma => kernel_rfl) (fun _ => by kernel_rfl) (hSw.row 0 rfl).1 hx160) ?_
             rcases if_in hE153 with ⟨h161, hE153⟩ | ⟨h161, hE153⟩
             ·refine gd1 15 { dst := some 85, op := _, type := _, pos := _, after := _, guard := _ } (.bool true) rfl hS146 (fun w hSw => run_boolE (ne_yes h161) (by as_aux_lemma => kernel_rfl)) ?_
              refine gd1 16 { dst := some 86, op := _, type := _, pos := _, after := _, guard := _ } (.bool true) rfl hS146 (fun w hSw => by kernel_rfl) ?_
              exact gd_to hK156 (by as_aux_lemma => kernel_rfl) ⟨true, selfA_i (by as_aux_lemma => kernel_rfl), (Option.some.inj hE153), hS146⟩
             ·refine gd1 15 { dst := some 85, op := _, type := _, pos := _, after := _, guard := _ } (.bool false) rfl hS146 (fun w hSw => run_boolE (ne_no h161) (by as_aux_lemma => kernel_rfl)) ?_
              refine gd1 16 { dst := some 86, op := _, type := _, pos := _, after := _, guard := _ } (.bool false) rfl hS146 (fun w hSw => by kernel_rfl) ?_
              exact gd_to hK156 (by as_aux_lemma => kernel_rfl) ⟨false, selfA_i (by as_aux_lemma => kernel_rfl), (Option.some.inj hE153), hS146⟩
          ·rintro _ w130 ⟨hq302, rfl, hS131⟩
           obtain ⟨u132, rfl⟩ := selfA_u hq302
           try dsimp only at hO135
           obtain ⟨c241, hE242, hO243⟩ := bind_in hO135
           refine gx_cut (fun a w => selfA (fun u240 => ⟨((u61 0) :: (.int .u8 p1) :: (.int .u8 p2) :: (.int .u8 p3) :: un 4 ((u240 8) :: (.slice A34 l33.length c35) :: (.slice A44 l43.length c45) :: (.slice A54 l53.length c55) :: (.int .i64 x98) :: (.int .u8 x80) :: (.int .i64 x99) :: (.bool true) :: dd u5 16 8 (dd u61 24 3 ((.int .u8 p1) :: (.int .u8 p2) :: (.int .u8 p3) :: dd u61 30 2 ((.int .u8 p1) :: dd u61 33 13 (dd u79 46 3 ((.int .i64 x99) :: (u132 50) :: (.int .i64 ((l43.length : Nat) : Int)) :: (.bool true) :: dd u97 53 2 ((u132 55) :: (.int .i64 x99) :: (.pointer (Option.map (fun (p : Addr) => p.add (Int.toNat x99 * 1)) A44)) :: (.int .u8 x111) :: (.bool true) :: (u132 60) :: (.int .i64 x99) :: (.pointer (Option.map (fun (p : Addr) => p.add (Int.toNat x99 * 1)) A44)) :: (.int .u8 x118) :: (.bool false) :: dd u97 65 5 (dd u132 70 69 (dd u240 139 31 (dd u97 170 5 (undef :: [])))))))))))).toArray, []⟩) a ∧ Ctl.go () = c241 ∧ St [] w0 w [rowE .u8 23 A34 c35 l33, rowE .u8 23 A44 c45 l43, rowE .u8 5 A54 c55 l53]) ?_ ?_
           ·refine gx_seq (fun K244 hK245 => ?_)
            refine gx_region ?_
            refine gx_kA (.slice A34 l33.length c35) w130 (gx_kA (.int .i64 x99) w130 ?_)
            obtain ⟨x246, hx247, hE242⟩ := bind_in hE242
            refine gx_vA (.pointer (Option.map (fun (p : Addr) => p.add (Int.toNat x99 * 1)) A34)) w130 (run_ixaddr (E := 23) (s := 1) (k := .i64) (c := c35) rfl (by as_aux_lemma => kernel_rfl) (by as_aux_lemma => kernel_rfl) (by as_aux_lemma => kernel_rfl) (fun _ => by kernel_rfl) (ix_in hx247).1 (ix_in hx247).2.1 (num_nil (hS131.row 0 rfl).1)) ?_
            refine gx_vA (.int .u8 x246) w130 (run_loadix rfl (by as_aux_lemma => kernel_rfl) (fun _ => by kernel_rfl) (hS131.row 0 rfl).1 hx247) ?_
            obtain ⟨c252, hE253, hO254⟩ := bind_in hE242
            refine gx_part (l1 := [_, _, _, _, _, _, _, _, _]) (fun a w => ∃ (b251 : Bool), selfA (fun u250 => ⟨((u61 0) :: (.int .u8 p1) :: (.int .u8 p2) :: (.int .u8 p3) :: un 4 ((u132 8) :: (.slice A34 l33.length c35) :: (.slice A44 l43.length c45) :: (.slice A54 l53.length c55) :: (.int .i64 x98) :: (.int .u8 x80) :: (.int .i64 x99) :: (.bool true) :: dd u5 16 8 (dd u61 24 3 ((.int .u8 p1) :: (.int .u8 p2) :: (.int .u8 p3) :: dd u61 30 2 ((.int .u8 p1) :: dd u61 33 13 (dd u79 46 3 ((.int .i64 x99) :: (u132 50) :: (.int .i64 ((l43.length : Nat) : Int)) :: (.bool true) :: dd u97 53 2 ((u132 55) :: (.int .i64 x99) :: (.pointer (Option.map (fun (p : Addr) => p.add (Int.toNat x99 * 1)) A44)) :: (.int .u8 x111) :: (.bool true) :: (u132 60) :: (.int .i64 x99) :: (.pointer (Option.map (fun (p : Addr) => p.add (Int.toNat x99 * 1)) A44)) :: (.int .u8 x118) :: (.bool false) :: dd u97 65 5 (dd u132 70 69 ((u250 139) :: (.int .i64 x99) :: (.pointer (Option.map (fun (p : Addr) => p.add (Int.toNat x99 * 1)) A34)) :: (.int .u8 x246) :: dd u250 143 8 ((.bool b251) :: dd u97 152 23 (undef :: [])))))))))))).toArray, []⟩) a ∧ b251 = c252 ∧ St [] w0 w [rowE .u8 23 A34 c35 l33, rowE .u8 23 A44 c45 l43, rowE .u8 5 A54 c55 l53]) rfl ?_ ?_
            ·have hP256 : St _ _ w130 ([] ++ [rowE .u8 23 A34 c35 l33, rowE .u8 23 A44 c45 l43, rowE .u8 5 A54 c55 l53]) := hS131
             obtain ⟨b258, hc257, hE253⟩ := bind_in hE253
             try dsimp only at hE253
             refine gx_cA (rNeu_R b258 w130) (rNeu_ok N x246 _ hc257 w130 ) ?_
             rintro _ w259 ⟨rfl, hT261⟩
             have hS260 : St _ _ w259 [rowE .u8 23 A34 c35 l33, rowE .u8 23 A44 c45 l43, rowE .u8 5 A54 c55 l53] := hS131.take _ hT261
             refine gx_kA (.bool b258) w259 ?_
             cases b258 with
             | true =>
              try dsimp only at hE253
              refine gx_kA (.slice A44 l43.length c45) w259 (gx_kA (.int .i64 x99) w259 ?_)
              obtain ⟨x262, hx263, hE253⟩ := bind_in hE253
              refine gx_vA (.pointer (Option.map (fun (p : Addr) => p.add (Int.toNat x99 * 1)) A44)) w259 (run_ixaddr (E := 23) (s := 1) (k := .i64) (c := c45) rfl (by as_aux_lemma => kernel_rfl) (by as_aux_lemma => kernel_rfl) (by as_aux_lemma => kernel_rfl) (fun _ => by kernel_rfl) (ix_in hx263).1 (ix_in hx263).2.1 (num_nil (hS260.row 1 rfl).1)) ?_
              refine gx_vA (.int .u8 x262) w259 (run_loadix rfl (by as_aux_lemma => kernel_rfl) (fun _ => by kernel_rfl) (hS260.row 1 rfl).1 hx263) ?_
              refine gx_kA (.int .u8 x80) w259 ?_
              rcases if_in hE253 with ⟨h264, hE253⟩ | ⟨h264, hE253⟩
              ·refine gx_vA (.bool true) w259 (run_boolE (ne_yes h264) (by as_aux_lemma => kernel_rfl)) ?_
               refine gx_kA (.bool true) w259 ?_
               refine gx_nil ?_
               refine gx_thenN ?_
               exact ⟨true, selfA_i (by as_aux_lemma => kernel_rfl), (Option.some.inj hE253), hS260⟩
              ·refine gx_vA (.bool false) w259 (run_boolE (ne_no h264) (by as_aux_lemma => kernel_rfl)) ?_
               refine gx_kA (.bool false) w259 ?_
               refine gx_nil ?_
               refine gx_thenN ?_
               exact ⟨false, selfA_i (by as_aux_lemma => kernel_rfl), (Option.some.inj hE253), hS260⟩
             | false =>
              try dsimp only at hE253
              refine gx_oA (gx_oA (gx_oA (gx_oA (gx_oA (gx_oA (gx_kA (.bool false) w259 ?_))))))
              refine gx_nil ?_
              refine gx_thenN ?_
              exact ⟨false, selfA_i (by as_aux_lemma => kernel_rfl), (Option.some.inj hE253), hS260⟩
            ·rintro _ w248 ⟨b251, hq255, rfl, hS249⟩
             obtain ⟨u250, rfl⟩ := selfA_u hq255
             try dsimp only at hO254
             obtain ⟨c269, hE270, hO271⟩ := bind_in hO254
             refine gx_part (l1 := [_, _, _, _]) (fun a w => ∃ (b268 : Bool), selfA (fun u267 => ⟨((u61 0) :: (.int .u8 p1) :: (.int .u8 p2) :: (.int .u8 p3) :: un 4 ((u132 8) :: (.slice A34 l33.length c35) :: (.slice A44 l43.length c45) :: (.slice A54 l53.length c55) :: (.int .i64 x98) :: (.int .u8 x80) :: (.int .i64 x99) :: (.bool true) :: dd u5 16 8 (dd u61 24 3 ((.int .u8 p1) :: (.int .u8 p2) :: (.int .u8 p3) :: dd u61 30 2 ((.int .u8 p1) :: dd u61 33 13 (dd u79 46 3 ((.int .i64 x99) :: (u132 50) :: (.int .i64 ((l43.length : Nat) : Int)) :: (.bool true) :: dd u97 53 2 ((u132 55) :: (.int .i64 x99) :: (.pointer (Option.map (fun (p : Addr) => p.add (Int.toNat x99 * 1)) A44)) :: (.int .u8 x111) :: (.bool true) :: (u132 60) :: (.int .i64 x99) :: (.pointer (Option.map (fun (p : Addr) => p.add (Int.toNat x99 * 1)) A44)) :: (.int .u8 x118) :: (.bool false) :: dd u97 65 5 (dd u132 70 69 ((u250 139) :: (.int .i64 x99) :: (.pointer (Option.map (fun (p : Addr) => p.add (Int.toNat x99 * 1)) A34)) :: (.int .u8 x246) :: dd u250 143 8 ((.bool b251) :: dd u267 152 3 ((.bool b268) :: dd u97 156 19 (undef :: []))))))))))))).toArray, []⟩) a ∧ b268 = c269 ∧ St [] w0 w [rowE .u8 23 A34 c35 l33, rowE .u8 23 A44 c45 l43, rowE .u8 5 A54 c55 l53]) rfl ?_ ?_
             ·refine gx_kA (.bool b251) w248 ?_
              cases b251 with
              | true =>
               try dsimp only at hE270
               refine gx_kA (.int .i64 x99) w248 ?_
               rcases if_in hE270 with ⟨h273, hE270⟩ | ⟨h273, hE270⟩
               ·refine gx_vA (.bool true) w248 (run_boolE (decide_eq_true h273) (by as_aux_lemma => kernel_rfl)) ?_
                refine gx_kA (.bool true) w248 ?_
                refine gx_nil ?_
                refine gx_thenN ?_
                exact ⟨true, selfA_i (by as_aux_lemma => kernel_rfl), (Option.some.inj hE270), hS249⟩
               ·refine gx_vA (.bool false) w248 (run_boolE (decide_eq_false h273) (by as_aux_lemma => kernel_rfl)) ?_
                refine gx_kA (.bool false) w248 ?_
                refine gx_nil ?_
                refine gx_thenN ?_
                exact ⟨false, selfA_i (by as_aux_lemma => kernel_rfl), (Option.some.inj hE270), hS249⟩
              | false =>
               try dsimp only at hE270
               refine gx_oA (gx_oA (gx_kA (.bool false) w248 ?_))
               refine gx_nil ?_
               refine gx_thenN ?_
               exact ⟨false, selfA_i (by as_aux_lemma => kernel_rfl), (Option.some.inj hE270), hS249⟩
             ·rintro _ w265 ⟨b268, hq272, rfl, hS266⟩
              obtain ⟨u267, rfl⟩ := selfA_u hq272
              try dsimp only at hO271
              obtain ⟨c278, hE279, hO280⟩ := bind_in hO271
              refine gx_part (l1 := [_, _, _, _]) (fun a w => ∃ (b277 : Bool), selfA (fun u276 => ⟨((u61 0) :: (.int .u8 p1) :: (.int .u8 p2) :: (.int .u8 p3) :: un 4 ((u132 8) :: (.slice A34 l33.length c35) :: (.slice A44 l43.length c45) :: (.slice A54 l53.length c55) :: (.int .i64 x98) :: (.int .u8 x80) :: (.int .i64 x99) :: (.bool true) :: dd u5 16 8 (dd u61 24 3 ((.int .u8 p1) :: (.int .u8 p2) :: (.int .u8 p3) :: dd u61 30 2 ((.int .u8 p1) :: dd u61 33 13 (dd u79 46 3 ((.int .i64 x99) :: (u132 50) :: (.int .i64 ((l43.length : Nat) : Int)) :: (.bool true) :: dd u97 53 2 ((u132 55) :: (.int .i64 x99) :: (.pointer (Option.map (fun (p : Addr) => p.add (Int.toNat x99 * 1)) A44)) :: (.int .u8 x111) :: (.bool true) :: (u132 60) :: (.int .i64 x99) :: (.pointer (Option.map (fun (p : Addr) => p.add (Int.toNat x99 * 1)) A44)) :: (.int .u8 x118) :: (.bool false) :: dd u97 65 5 (dd u132 70 69 ((u250 139) :: (.int .i64 x99) :: (.pointer (Option.map (fun (p : Addr) => p.add (Int.toNat x99 * 1)) A34)) :: (.int .u8 x246) :: dd u250 143 8 ((.bool b251) :: dd u267 152 3 ((.bool b268) :: dd u276 156 3 ((.bool b277) :: dd u97 160 15 (undef :: [])))))))))))))).toArray, []⟩) a ∧ b277 = c278 ∧ St [] w0 w [rowE .u8 23 A34 c35 l33, rowE .u8 23 A44 c45 l43, rowE .u8 5 A54 c55 l53]) rfl ?_ ?_
              ·refine gx_kA (.bool b268) w265 ?_
               cases b268 with
               | true =>
                try dsimp only at hE279
                refine gx_kA (.int .i64 x98) w265 ?_
                rcases if_in hE279 with ⟨h282, hE279⟩ | ⟨h282, hE279⟩
                ·refine gx_vA (.bool true) w265 (run_boolE (decide_eq_true h282) (by as_aux_lemma => kernel_rfl)) ?_
                 refine gx_kA (.bool true) w265 ?_
                 refine gx_nil ?_
                 refine gx_thenN ?_
                 exact ⟨true, selfA_i (by as_aux_lemma => kernel_rfl), (Option.some.inj hE279), hS266⟩
                ·refine gx_vA (.bool false) w265 (run_boolE (decide_eq_false h282) (by as_aux_lemma => kernel_rfl)) ?_
                 refine gx_kA (.bool false) w265 ?_
                 refine gx_nil ?_
                 refine gx_thenN ?_
                 exact ⟨false, selfA_i (by as_aux_lemma => kernel_rfl), (Option.some.inj hE279), hS266⟩
               | false =>
                try dsimp only at hE279
                refine gx_oA (gx_oA (gx_kA (.bool false) w265 ?_))
                refine gx_nil ?_
                refine gx_thenN ?_
                exact ⟨false, selfA_i (by as_aux_lemma => kernel_rfl), (Option.some.inj hE279), hS266⟩
              ·rintro _ w274 ⟨b277, hq281, rfl, hS275⟩
               obtain ⟨u276, rfl⟩ := selfA_u hq281
               try dsimp only at hO280
               refine gx_kA (.bool b277) w274 ?_
               cases b277 with
               | true =>
                try dsimp only at hO280
                refine gx_kA (.int .i64 x98) w274 ?_
                rcases if_in hO280 with ⟨h283, hO280⟩ | ⟨h283, hO280⟩
                ·refine gx_vA (.bool true) w274 (run_boolE (decide_eq_true h283) (by as_aux_lemma => kernel_rfl)) ?_
                 refine gx_kA (.slice A44 l43.length c45) w274 (gx_kA (.int .i64 x99) w274 ?_)
                 obtain ⟨x284, hx285, hO280⟩ := bind_in hO280
                 refine gx_vA (.pointer (Option.map (fun (p : Addr) => p.add (Int.toNat x99 * 1)) A44)) w274 (run_ixaddr (E := 23) (s := 1) (k := .i64) (c := c45) rfl (by as_aux_lemma => kernel_rfl) (by as_aux_lemma => kernel_rfl) (by as_aux_lemma => kernel_rfl) (fun _ => by kernel_rfl) (ix_in hx285).1 (ix_in hx285).2.1 (num_nil (hS275.row 1 rfl).1)) ?_
                 refine gx_vA (.int .u8 x284) w274 (run_loadix rfl (by as_aux_lemma => kernel_rfl) (fun _ => by kernel_rfl) (hS275.row 1 rfl).1 hx285) ?_
                 rcases if_in hO280 with ⟨h286, hO280⟩ | ⟨h286, hO280⟩
                 ·refine gx_vA (.bool true) w274 (run_boolE (decide_eq_true h286) (by as_aux_lemma => kernel_rfl)) ?_
                  refine gx_kA (.bool false) w274 (gx_kA (.bool false) w274 ?_)
                  refine gx_nil ?_
                  refine gx_thenN ?_
                  refine hK245 _ _ ?_
                  refine gx_no (by as_aux_lemma => kernel_rfl) ?_
                  refine gx_pass ?_
                  refine gx_thenN ?_
                  exact ⟨selfA_i (by as_aux_lemma => kernel_rfl), (Option.some.inj hO280), hS275⟩
                 ·refine gx_vA (.bool false) w274 (run_boolE (decide_eq_false h286) (by as_aux_lemma => kernel_rfl)) ?_
                  refine gx_kA (.bool true) w274 (gx_kA (.bool true) w274 ?_)
                  refine gx_nil ?_
                  refine gx_thenN ?_
                  refine hK245 _ _ ?_
                  refine gx_yes (by as_aux_lemma => kernel_rfl) ?_
                  refine gx_seq (fun K287 hK288 => ?_)
                  refine gx_region ?_
                  refine gx_kA (.bool false) w274 ?_
                  refine gx_nil ?_
                  refine gx_thenN ?_
                  refine hK288 _ _ ?_
                  refine gx_ret ?_
                  refine gx_thenR ?_
                  obtain rfl := Option.some.inj hO280
                  try dsimp only at hO243
                  refine gx_blkR ?_
                  refine gx_thenR ?_
                  refine gx_thenR ?_
                  refine gx_blkR ?_
                  refine gx_thenR ?_
                  obtain rfl := Option.some.inj hO243
                  try dsimp only at hO92
                  obtain rfl := Option.some.inj hO92
                  exact gx_fin (.bool false) (by as_aux_lemma => kernel_rfl) (by as_aux_lemma => kernel_rfl) ⟨_, rfl, rfl, (hS275.pick [] rfl rfl)⟩
                ·refine gx_vA (.bool false) w274 (run_boolE (decide_eq_false h283) (by as_aux_lemma => kernel_rfl)) ?_
                 refine gx_kA (.slice A44 l43.length c45) w274 (gx_kA (.int .i64 x99) w274 ?_)
                 obtain ⟨x289, hx290, hO280⟩ := bind_in hO280
                 refine gx_vA (.pointer (Option.map (fun (p : Addr) => p.add (Int.toNat x99 * 1)) A44)) w274 (run_ixaddr (E := 23) (s := 1) (k := .i64) (c := c45) rfl (by as_aux_lemma => kernel_rfl) (by as_aux_lemma => kernel_rfl) (by as_aux_lemma => kernel_rfl) (fun _ => by kernel_rfl) (ix_in hx290).1 (ix_in hx290).2.1 (num_nil (hS275.row 1 rfl).1)) ?_
                 refine gx_vA (.int .u8 x289) w274 (run_loadix rfl (by as_aux_lemma => kernel_rfl) (fun _ => by kernel_rfl) (hS275.row 1 rfl).1 hx290) ?_
                 rcases if_in hO280 with ⟨h291, hO280⟩ | ⟨h291, hO280⟩
                 ·refine gx_vA (.bool true) w274 (run_boolE (decide_eq_true h291) (by as_aux_lemma => kernel_rfl)) ?_
                  refine gx_kA (.bool true) w274 (gx_kA (.bool true) w274 ?_)
                  refine gx_nil ?_
                  refine gx_thenN ?_
                  refine hK245 _ _ ?_
                  refine gx_yes (by as_aux_lemma => kernel_rfl) ?_
                  refine gx_seq (fun K292 hK293 => ?_)
                  refine gx_region ?_
                  refine gx_kA (.bool false) w274 ?_
                  refine gx_nil ?_
                  refine gx_thenN ?_
                  refine hK293 _ _ ?_
                  refine gx_ret ?_
                  refine gx_thenR ?_
                  obtain rfl := Option.some.inj hO280
                  try dsimp only at hO243
                  refine gx_blkR ?_
                  refine gx_thenR ?_
                  refine gx_thenR ?_
                  refine gx_blkR ?_
                  refine gx_thenR ?_
                  obtain rfl := Option.some.inj hO243
                  try dsimp only at hO92
                  obtain rfl := Option.some.inj hO92
                  exact gx_fin (.bool false) (by as_aux_lemma => kernel_rfl) (by as_aux_lemma => kernel_rfl) ⟨_, rfl, rfl, (hS275.pick [] rfl rfl)⟩
                 ·refine gx_vA (.bool false) w274 (run_boolE (decide_eq_false h291) (by as_aux_lemma => kernel_rfl)) ?_
                  refine gx_kA (.bool false) w274 (gx_kA (.bool false) w274 ?_)
                  refine gx_nil ?_
                  refine gx_thenN ?_
                  refine hK245 _ _ ?_
                  refine gx_no (by as_aux_lemma => kernel_rfl) ?_
                  refine gx_pass ?_
                  refine gx_thenN ?_
                  exact ⟨selfA_i (by as_aux_lemma => kernel_rfl), (Option.some.inj hO280), hS275⟩
               | false =>
                try dsimp only at hO280
                refine gx_oA (gx_oA (gx_oA (gx_oA (gx_oA (gx_oA (gx_oA (gx_oA ?_)))))))
                refine gx_kA (.bool false) w274 ?_
                refine gx_nil ?_
                refine gx_thenN ?_
                refine hK245 _ _ ?_
                refine gx_no (by as_aux_lemma => kernel_rfl) ?_
                refine gx_pass ?_
                refine gx_thenN ?_
                exact ⟨selfA_i (by as_aux_lemma => kernel_rfl), (Option.some.inj hO280), hS275⟩
           ·rintro _ w238 ⟨hq301, rfl, hS239⟩
            obtain ⟨u240, rfl⟩ := selfA_u hq301
            try dsimp only at hO243
            refine gx_seq (fun K294 hK295 => ?_)
            refine gx_region ?_
            refine gx_kA (.int .i64 2) w238 ?_
            refine gx_nil ?_
            refine gx_thenN ?_
            refine hK295 _ _ ?_
            refine gx_seq (fun K296 hK297 => ?_)
            refine gx_region ?_
            refine gx_kA (.slice A44 l43.length c45) w238 (gx_kA (.int .i64 x99) w238 ?_)
            obtain ⟨x298, hx299, hO243⟩ := bind_in hO243
            refine gx_vA (.pointer (Option.map (fun (p : Addr) => p.add (Int.toNat x99 * 1)) A44)) w238 (run_ixaddr (E := 23) (s := 1) (k := .i64) (c := c45) rfl (by as_aux_lemma => kernel_rfl) (by as_aux_lemma => kernel_rfl) (by as_aux_lemma => kernel_rfl) (fun _ => by kernel_rfl) (ix_in hx299).1 (ix_in hx299).2.1 (num_nil (hS239.row 1 rfl).1)) ?_
            refine gx_vA (.int .u8 x298) w238 (run_loadix rfl (by as_aux_lemma => kernel_rfl) (fun _ => by kernel_rfl) (hS239.row 1 rfl).1 hx299) ?_
            rcases if_in hO243 with ⟨h300, hO243⟩ | ⟨h300, hO243⟩
            ·refine gx_vA (.bool true) w238 (run_boolE (decide_eq_true h300) (by as_aux_lemma => kernel_rfl)) ?_
             refine gx_nil ?_
             refine gx_thenN ?_
             refine hK297 _ _ ?_
             refine gx_yes (by as_aux_lemma => kernel_rfl) ?_
             refine gx_region ?_
             refine gx_kA (.int .i64 1) w238 ?_
             refine gx_nil ?_
             refine gx_blkN ?_
             refine gx_thenN ?_
             refine hK108 _ _ ?_
             refine gx_region ?_
             refine gx_kA (.int .i64 x99) w238 (gx_kA (.int .i64 (IntKind.i64.wrap (x99 + 1))) w238 (gx_kA (.int .i64 (IntKind.i64.wrap (x99 + 1))) w238 ?_))
             refine gx_nil ?_
             refine gx_thenN ?_
             exact ⟨k100, Nat.lt_succ_self k100, 1, (IntKind.i64.wrap (x99 + 1)), selfA_i (by as_aux_lemma => kernel_rfl), hO243, hS239⟩
            ·refine gx_vA (.bool false) w238 (run_boolE (decide_eq_false h300) (by as_aux_lemma => kernel_rfl)) ?_
             refine gx_nil ?_
             refine gx_thenN ?_
             refine hK297 _ _ ?_
             refine gx_no (by as_aux_lemma => kernel_rfl) ?_
             refine gx_pass ?_
             refine gx_blkN ?_
             refine gx_thenN ?_
             refine hK108 _ _ ?_
             refine gx_region ?_
             refine gx_kA (.int .i64 x99) w238 (gx_kA (.int .i64 (IntKind.i64.wrap (x99 + 1))) w238 (gx_kA (.int .i64 (IntKind.i64.wrap (x99 + 1))) w238 ?_))
             refine gx_nil ?_
             refine gx_thenN ?_
             exact ⟨k100, Nat.lt_succ_self k100, 2, (IntKind.i64.wrap (x99 + 1)), selfA_i (by as_aux_lemma => kernel_rfl), hO243, hS239⟩
        ·refine gx_vA (.bool false) w95 (run_boolE (decide_eq_false h113) (by as_aux_lemma => kernel_rfl)) ?_
         refine gx_kA (.bool false) w95 ?_
         refine gx_nil ?_
         refine gx_thenN ?_
         refine hK110 _ _ ?_
         refine gx_seq (fun K303 hK304 => ?_)
         refine gx_seq (fun K305 hK306 => ?_)
         refine gx_region ?_
         refine gx_kA (.slice A44 l43.length c45) w95 (gx_kA (.int .i64 x99) w95 ?_)
         obtain ⟨x307, hx308, hL101⟩ := bind_in hL101
         refine gx_vA (.pointer (Option.map (fun (p : Addr) => p.add (Int.toNat x99 * 1)) A44)) w95 (run_ixaddr (E := 23) (s := 1) (k := .i64) (c := c45) rfl (by as_aux_lemma => kernel_rfl) (by as_aux_lemma => kernel_rfl) (by as_aux_lemma => kernel_rfl) (fun _ => by kernel_rfl) (ix_in hx308).1 (ix_in hx308).2.1 (num_nil (hS96.row 1 rfl).1)) ?_
         refine gx_vA (.int .u8 x307) w95 (run_loadix rfl (by as_aux_lemma => kernel_rfl) (fun _ => by kernel_rfl) (hS96.row 1 rfl).1 hx308) ?_
         rcases if_in hL101 with ⟨h309, hL101⟩ | ⟨h309, hL101⟩
         ·refine gx_vA (.bool true) w95 (run_boolE (decide_eq_true h309) (by as_aux_lemma => kernel_rfl)) ?_
          refine gx_nil ?_
          refine gx_thenN ?_
          refine hK306 _ _ ?_
          refine gx_yes (by as_aux_lemma => kernel_rfl) ?_
          refine gx_seq (fun K310 hK311 => ?_)
          refine gx_seq (fun K312 hK313 => ?_)
          refine gx_region ?_
          refine gx_kA (.slice A34 l33.length c35) w95 (gx_kA (.int .i64 x99) w95 ?_)
          obtain ⟨x314, hx315, hL101⟩ := bind_in hL101
          refine gx_vA (.pointer (Option.map (fun (p : Addr) => p.add (Int.toNat x99 * 1)) A34)) w95 (run_ixaddr (E := 23) (s := 1) (k := .i64) (c := c35) rfl (by as_aux_lemma => kernel_rfl) (by as_aux_lemma => kernel_rfl) (by as_aux_lemma => kernel_rfl) (fun _ => by kernel_rfl) (ix_in hx315).1 (ix_in hx315).2.1 (num_nil (hS96.row 0 rfl).1)) ?_
          refine gx_vA (.int .u8 x314) w95 (run_loadix rfl (by as_aux_lemma => kernel_rfl) (fun _ => by kernel_rfl) (hS96.row 0 rfl).1 hx315) ?_
          rcases if_in hL101 with ⟨h316, hL101⟩ | ⟨h316, hL101⟩
          ·refine gx_vA (.bool true) w95 (run_boolE (ne_yes h316) (by as_aux_lemma => kernel_rfl)) ?_
           refine gx_nil ?_
           refine gx_thenN ?_
           refine hK313 _ _ ?_
           refine gx_yes (by as_aux_lemma => kernel_rfl) ?_
           refine gx_seq (fun K317 hK318 => ?_)
           refine gx_region ?_
           refine gx_kA (.bool false) w95 ?_
           refine gx_nil ?_
           refine gx_thenN ?_
           refine hK318 _ _ ?_
           refine gx_ret ?_
           refine gx_thenR ?_
           refine gx_thenR ?_
           refine gx_blkR ?_
           refine gx_thenR ?_
           refine gx_thenR ?_
           refine gx_blkR ?_
           refine gx_thenR ?_
           obtain rfl := Option.some.inj hL101
           try dsimp only at hO92
           obtain rfl := Option.some.inj hO92
           exact gx_fin (.bool false) (by as_aux_lemma => kernel_rfl) (by as_aux_lemma => kernel_rfl) ⟨_, rfl, rfl, (hS96.pick [] rfl rfl)⟩
          ·refine gx_vA (.bool false) w95 (run_boolE (ne_no h316) (by as_aux_lemma => kernel_rfl)) ?_
           refine gx_nil ?_
           refine gx_thenN ?_
           refine hK313 _ _ ?_
           refine gx_no (by as_aux_lemma => kernel_rfl) ?_
           refine gx_pass ?_
           refine gx_thenN ?_
           refine hK311 _ _ ?_
           refine gx_exit ?_
           refine gx_thenE ?_
           refine gx_blkE ?_
           refine gx_thenN ?_
           refine hK108 _ _ ?_
           refine gx_region ?_
           refine gx_kA (.int .i64 x99) w95 (gx_kA (.int .i64 (IntKind.i64.wrap (x99 + 1))) w95 (gx_kA (.int .i64 (IntKind.i64.wrap (x99 + 1))) w95 ?_))
           refine gx_nil ?_
           refine gx_thenN ?_
           exact ⟨k100, Nat.lt_succ_self k100, x98, (IntKind.i64.wrap (x99 + 1)), selfA_i (by as_aux_lemma => kernel_rfl), hL101, hS96⟩
         ·refine gx_vA (.bool false) w95 (run_boolE (decide_eq_false h309) (by as_aux_lemma => kernel_rfl)) ?_
          refine gx_nil ?_
          refine gx_thenN ?_
          refine hK306 _ _ ?_
          refine gx_no (by as_aux_lemma => kernel_rfl) ?_
          refine gx_pass ?_
          refine gx_thenN ?_
          refine hK304 _ _ ?_
          obtain ⟨c322, hE323, hO324⟩ := bind_in hL101
          refine gx_cut (fun a w => selfA (fun u321 => ⟨((u61 0) :: (.int .u8 p1) :: (.int .u8 p2) :: (.int .u8 p3) :: un 4 ((u321 8) :: (.slice A34 l33.length c35) :: (.slice A44 l43.length c45) :: (.slice A54 l53.length c55) :: (.int .i64 x98) :: (.int .u8 x80) :: (.int .i64 x99) :: (.bool false) :: dd u5 16 8 (dd u61 24 3 ((.int .u8 p1) :: (.int .u8 p2) :: (.int .u8 p3) :: dd u61 30 2 ((.int .u8 p1) :: dd u61 33 13 (dd u79 46 3 ((.int .i64 x99) :: (u321 50) :: (.int .i64 ((l43.length : Nat) : Int)) :: (.bool true) :: dd u97 53 2 ((u321 55) :: (.int .i64 x99) :: (.pointer (Option.map (fun (p : Addr) => p.add (Int.toNat x99 * 1)) A44)) :: (.int .u8 x111) :: (.bool false) :: (u321 60) :: (.int .i64 x99) :: (.pointer (Option.map (fun (p : Addr) => p.add (Int.toNat x99 * 1)) A44)) :: (.int .u8 x307) :: (.bool false) :: dd u97 65 5 (dd u321 70 69 (dd u97 139 36 (undef :: []))))))))))).toArray, []⟩) a ∧ Ctl.go () = c322 ∧ St [] w0 w [rowE .u8 23 A34 c35 l33, rowE .u8 23 A44 c45 l43, rowE .u8 5 A54 c55 l53]) ?_ ?_
          ·refine gx_seq (fun K325 hK326 => ?_)
           refine gd_start (fun w => St [] w0 w [rowE .u8 23 A34 c35 l33, rowE .u8 23 A44 c45 l43, rowE .u8 5 A54 c55 l53]) 69 #[false, false, false, false, false, false, false, false, false, false, false, false, false, false, false, false, false, false, false, false, false, false, false, false, false, false, false, false, false, false, false, false, false, false, false, false, false, false, false, false, false, false, false, false, false, false, false, false, false, false, false, false, false, false, false, false, false, false, false, false, false, false, false, false, false, false, false, false, false] (by as_aux_lemma => kernel_rfl) (by as_aux_lemma => kernel_rfl) ?_
           have hS328 := hS96.drew
           generalize w95.drew = w327 at hS328 ⊢
           refine gd1 0 { dst := some 70, op := _, type := _, pos := _, after := _, guard := _ } (.slice A34 l33.length c35) rfl hS328 (fun w hSw => by kernel_rfl) ?_
           refine gd1 1 { dst := some 71, op := _, type := _, pos := _, after := _, guard := _ } (.int .i64 x99) rfl hS328 (fun w hSw => by kernel_rfl) ?_
           obtain ⟨x329, hx330, hE323⟩ := bind_in hE323
           refine gd1 2 { dst := some 72, op := _, type := _, pos := _, after := _, guard := _ } (.pointer (Option.map (fun (p : Addr) => p.add (Int.toNat x99 * 1)) A34)) rfl hS328 (fun w hSw => run_ixaddr (E := 23) (s := 1) (k := .i64) (c := c35) rfl (by as_aux_lemma => kernel_rfl) (by as_aux_lemma => kernel_rfl) (by as_aux_lemma => kernel_rfl) (fun _ => by kernel_rfl) (ix_in hx330).1 (ix_in hx330).2.1 (num_nil (hS328.row 0 rfl).1)) ?_
           refine gd1 3 { dst := some 73, op := _, type := _, pos := _, after := _, guard := _ } (.int .u8 x329) rfl hS328 (fun w hSw => run_loadix rfl (by as_aux_lemma => kernel_rfl) (fun _ => by kernel_rfl) (hSw.row 0 rfl).1 hx330) ?_
           have hP331 : St _ _ w327 ([] ++ [rowE .u8 23 A34 c35 l33, rowE .u8 23 A44 c45 l43, rowE .u8 5 A54 c55 l53]) := hS328
           obtain ⟨b333, hc332, hE323⟩ := bind_in hE323
           try dsimp only at hE323
           refine gdC 4 { dst := some 74, op := _, type := _, pos := _, after := _, guard := _ } (rNeu_R b333 w327) rfl (by as_aux_lemma => kernel_rfl) (rNeu_ok N x329 _ hc332 w327 ) ?_
           rintro _ w334 ⟨rfl, hT336⟩
           have hS335 : St _ _ w334 [rowE .u8 23 A34 c35 l33, rowE .u8 23 A44 c45 l43, rowE .u8 5 A54 c55 l53] := hS328.take _ hT336
           refine ⟨hS335, ?_⟩
           obtain ⟨c341, hE342, hO343⟩ := bind_in hE323
           refine gd_mid (fun a w => ∃ (b340 : Bool), selfA (fun u339 => ⟨((u61 0) :: (.int .u8 p1) :: (.int .u8 p2) :: (.int .u8 p3) :: un 4 ((u97 8) :: (.slice A34 l33.length c35) :: (.slice A44 l43.length c45) :: (.slice A54 l53.length c55) :: (.int .i64 x98) :: (.int .u8 x80) :: (.int .i64 x99) :: (.bool false) :: dd u5 16 8 (dd u61 24 3 ((.int .u8 p1) :: (.int .u8 p2) :: (.int .u8 p3) :: dd u61 30 2 ((.int .u8 p1) :: dd u61 33 13 (dd u79 46 3 ((.int .i64 x99) :: (u339 50) :: (.int .i64 ((l43.length : Nat) : Int)) :: (.bool true) :: dd u97 53 2 ((u339 55) :: (.int .i64 x99) :: (.pointer (Option.map (fun (p : Addr) => p.add (Int.toNat x99 * 1)) A44)) :: (.int .u8 x111) :: (.bool false) :: (u339 60) :: (.int .i64 x99) :: (.pointer (Option.map (fun (p : Addr) => p.add (Int.toNat x99 * 1)) A44)) :: (.int .u8 x307) :: (.bool false) :: dd u97 65 5 ((u339 70) :: (.int .i64 x99) :: (.pointer (Option.map (fun (p : Addr) => p.add (Int.toNat x99 * 1)) A34)) :: (.int .u8 x329) :: (.bool b333) :: dd u339 75 11 ((.bool b340) :: dd u97 87 88 (undef :: []))))))))))).toArray, []⟩) a ∧ b340 = c341 ∧ St [] w0 w [rowE .u8 23 A34 c35 l33, rowE .u8 23 A44 c45 l43, rowE .u8 5 A54 c55 l53]) 52 #[true, true, true, true, true, true, true, true, true, true, true, true, true, true, true, true, true, false, false, false, false, false, false, false, false, false, false, false, false, false, false, false, false, false, false, false, false, false, false, false, false, false, false, false, false, false, false, false, false, false, false, false, false, false, false, false, false, false, false, false, false, false, false, false, false, false, false, false, false] ?_ ?_
           ·rintro _ w337 ⟨b340, hq344, rfl, hS338⟩
            obtain ⟨u339, rfl⟩ := selfA_u hq344
            try dsimp only at hO343
            obtain ⟨c355, hE356, hO357⟩ := bind_in hO343
            refine gd_mid (fun a w => ∃ (b354 : Bool), selfA (fun u353 => ⟨((u61 0) :: (.int .u8 p1) :: (.int .u8 p2) :: (.int .u8 p3) :: un 4 ((u97 8) :: (.slice A34 l33.length c35) :: (.slice A44 l43.length c45) :: (.slice A54 l53.length c55) :: (.int .i64 x98) :: (.int .u8 x80) :: (.int .i64 x99) :: (.bool false) :: dd u5 16 8 (dd u61 24 3 ((.int .u8 p1) :: (.int .u8 p2) :: (.int .u8 p3) :: dd u61 30 2 ((.int .u8 p1) :: dd u61 33 13 (dd u79 46 3 ((.int .i64 x99) :: (u339 50) :: (.int .i64 ((l43.length : Nat) : Int)) :: (.bool true) :: dd u97 53 2 ((u339 55) :: (.int .i64 x99) :: (.pointer (Option.map (fun (p : Addr) => p.add (Int.toNat x99 * 1)) A44)) :: (.int .u8 x111) :: (.bool false) :: (u339 60) :: (.int .i64 x99) :: (.pointer (Option.map (fun (p : Addr) => p.add (Int.toNat x99 * 1)) A44)) :: (.int .u8 x307) :: (.bool false) :: dd u97 65 5 ((u339 70) :: (.int .i64 x99) :: (.pointer (Option.map (fun (p : Addr) => p.add (Int.toNat x99 * 1)) A34)) :: (.int .u8 x329) :: (.bool b333) :: dd u339 75 11 ((.bool b340) :: dd u353 87 24 ((.bool b354) :: dd u97 112 63 (undef :: [])))))))))))).toArray, []⟩) a ∧ b354 = c355 ∧ St [] w0 w [rowE .u8 23 A34 c35 l33, rowE .u8 23 A44 c45 l43, rowE .u8 5 A54 c55 l53]) 27 #[true, true, true, true, true, true, true, true, true, true, true, true, true, true, true, true, true, true, true, true, true, true, true, true, true, true, true, true, true, true, true, true, true, true, true, true, true, true, true, true, true, true, false, false, false, false, false, false, false, false, false, false, false, false, false, false, false, false, false, false, false, false, false, false, false, false, false, false, false] ?_ ?_
            ·rintro _ w351 ⟨b354, hq358, rfl, hS352⟩
             obtain ⟨u353, rfl⟩ := selfA_u hq358
             try dsimp only at hO357
             obtain ⟨c400, hE401, hO402⟩ := bind_in hO357
             refine gd_mid (fun a w => ∃ (b399 : Bool), selfA (fun u398 => ⟨((u61 0) :: (.int .u8 p1) :: (.int .u8 p2) :: (.int .u8 p3) :: un 4 ((u97 8) :: (.slice A34 l33.length c35) :: (.slice A44 l43.length c45) :: (.slice A54 l53.length c55) :: (.int .i64 x98) :: (.int .u8 x80) :: (.int .i64 x99) :: (.bool false) :: dd u5 16 8 (dd u61 24 3 ((.int .u8 p1) :: (.int .u8 p2) :: (.int .u8 p3) :: dd u61 30 2 ((.int .u8 p1) :: dd u61 33 13 (dd u79 46 3 ((.int .i64 x99) :: (u339 50) :: (.int .i64 ((l43.length : Nat) : Int)) :: (.bool true) :: dd u97 53 2 ((u339 55) :: (.int .i64 x99) :: (.pointer (Option.map (fun (p : Addr) => p.add (Int.toNat x99 * 1)) A44)) :: (.int .u8 x111) :: (.bool false) :: (u339 60) :: (.int .i64 x99) :: (.pointer (Option.map (fun (p : Addr) => p.add (Int.toNat x99 * 1)) A44)) :: (.int .u8 x307) :: (.bool false) :: dd u97 65 5 ((u339 70) :: (.int .i64 x99) :: (.pointer (Option.map (fun (p : Addr) => p.add (Int.toNat x99 * 1)) A34)) :: (.int .u8 x329) :: (.bool b333) :: dd u339 75 11 ((.bool b340) :: dd u353 87 24 ((.bool b354) :: dd u398 112 7 ((.bool b399) :: dd u97 120 55 (undef :: []))))))))))))).toArray, []⟩) a ∧ b399 = c400 ∧ St [] w0 w [rowE .u8 23 A34 c35 l33, rowE .u8 23 A44 c45 l43, rowE .u8 5 A54 c55 l53]) 19 #[true, true, true, true, true, true, true, true, true, true, true, true, true, true, true, true, true, true, true, true, true, true, true, true, true, true, true, true, true, true, true, true, true, true, true, true, true, true, true, true, true, true, true, true, true, true, true, true, true, true, false, false, false, false, false, false, false, false, false, false, false, false, false, false, false, false, false, false, false] ?_ ?_
             ·rintro _ w396 ⟨b399, hq403, rfl, hS397⟩
              obtain ⟨u398, rfl⟩ := selfA_u hq403
              try dsimp only at hO402
              obtain ⟨c412, hE413, hO414⟩ := bind_in hO402
              refine gd_mid (fun a w => ∃ (b411 : Bool), selfA (fun u410 => ⟨((u61 0) :: (.int .u8 p1) :: (.int .u8 p2) :: (.int .u8 p3) :: un 4 ((u97 8) :: (.slice A34 l33.length c35) :: (.slice A44 l43.length c45) :: (.slice A54 l53.length c55) :: (.int .i64 x98) :: (.int .u8 x80) :: (.int .i64 x99) :: (.bool false) :: dd u5 16 8 (dd u61 24 3 ((.int .u8 p1) :: (.int .u8 p2) :: (.int .u8 p3) :: dd u61 30 2 ((.int .u8 p1) :: dd u61 33 13 (dd u79 46 3 ((.int .i64 x99) :: (u339 50) :: (.int .i64 ((l43.length : Nat) : Int)) :: (.bool true) :: dd u97 53 2 ((u339 55) :: (.int .i64 x99) :: (.pointer (Option.map (fun (p : Addr) => p.add (Int.toNat x99 * 1)) A44)) :: (.int .u8 x111) :: (.bool false) :: (u339 60) :: (.int .i64 x99) :: (.pointer (Option.map (fun (p : Addr) => p.add (Int.toNat x99 * 1)) A44)) :: (.int .u8 x307) :: (.bool false) :: dd u97 65 5 ((u339 70) :: (.int .i64 x99) :: (.pointer (Option.map (fun (p : Addr) => p.add (Int.toNat x99 * 1)) A34)) :: (.int .u8 x329) :: (.bool b333) :: dd u339 75 11 ((.bool b340) :: dd u353 87 24 ((.bool b354) :: dd u398 112 7 ((.bool b399) :: dd u410 120 8 ((.bool b411) :: dd u97 129 46 (undef :: [])))))))))))))).toArray, []⟩) a ∧ b411 = c412 ∧ St [] w0 w [rowE .u8 23 A34 c35 l33, rowE .u8 23 A44 c45 l43, rowE .u8 5 A54 c55 l53]) 10 #[true, true, true, true, true, true, true, true, true, true, true, true, true, true, true, true, true, true, true, true, true, true, true, true, true, true, true, true, true, true, true, true, true, true, true, true, true, true, true, true, true, true, true, true, true, true, true, true, true, true, true, true, true, true, true, true, true, true, true, false, false, false, false, false, false, false, false, false, false] ?_ ?_
              ·rintro _ w408 ⟨b411, hq415, rfl, hS409⟩
               obtain ⟨u410, rfl⟩ := selfA_u hq415
               try dsimp only at hO414
               refine gd1 59 { dst := some 129, op := _, type := _, pos := _, after := _, guard := _ } (.bool b411) rfl hS409 (fun w hSw => by kernel_rfl) ?_
               cases b411 with
               | true =>
                try dsimp only at hO414
                refine gd0 60 { dst := some 130, op := _, type := _, pos := _, after := _, guard := _ } rfl hS409 ?_
                refine gd0 61 { dst := some 131, op := _, type := _, pos := _, after := _, guard := _ } rfl hS409 ?_
                refine gd0 62 { dst := some 132, op := _, type := _, pos := _, after := _, guard := _ } rfl hS409 ?_
                refine gd0 63 { dst := some 133, op := _, type := _, pos := _, after := _, guard := _ } rfl hS409 ?_
                refine gd0 64 { dst := some 134, op := _, type := _, pos := _, after := _, guard := _ } rfl hS409 ?_
                refine gd0 65 { dst := some 135, op := _, type := _, pos := _, after := _, guard := _ } rfl hS409 ?_
                refine gd0 66 { dst := some 136, op := _, type := _, pos := _, after := _, guard := _ } rfl hS409 ?_
                refine gd0 67 { dst := some 137, op := _, type := _, pos := _, after := _, guard := _ } rfl hS409 ?_
                refine gd1 68 { dst := some 138, op := _, type := _, pos := _, after := _, guard := _ } (.bool true) rfl hS409 (fun w hSw => by kernel_rfl) ?_
                refine gd_done (by as_aux_lemma => kernel_rfl) ?_
                refine gx_thenN ?_
                refine hK326 _ _ ?_
                refine gx_yes (by as_aux_lemma => kernel_rfl) ?_
                refine gx_seq (fun K420 hK421 => ?_)
                refine gx_region ?_
                refine gx_kA (.bool false) w408 ?_
                refine gx_nil ?_
                refine gx_thenN ?_
                refine hK421 _ _ ?_
                refine gx_ret ?_
                refine gx_thenR ?_
                obtain rfl := Option.some.inj hO414
                try dsimp only at hO324
                refine gx_blkR ?_
                refine gx_thenR ?_
                refine gx_thenR ?_
                refine gx_blkR ?_
                refine gx_thenR ?_
                obtain rfl := Option.some.inj hO324
                try dsimp only at hO92
                obtain rfl := Option.some.inj hO92
                exact gx_fin (.bool false) (by as_aux_lemma => kernel_rfl) (by as_aux_lemma => kernel_rfl) ⟨_, rfl, rfl, (hS409.pick [] rfl rfl)⟩
               | false =>
                try dsimp only at hO414
                refine gd1 60 { dst := some 130, op := _, type := _, pos := _, after := _, guard := _ } (.slice A54 l53.length c55) rfl hS409 (fun w hSw => by kernel_rfl) ?_
                refine gd1 61 { dst := some 131, op := _, type := _, pos := _, after := _, guard := _ } (.int .i64 x99) rfl hS409 (fun w hSw => by kernel_rfl) ?_
                obtain ⟨x422, hx423, hO414⟩ := bind_in hO414
                refine gd1 62 { dst := some 132, op := _, type := _, pos := _, after := _, guard := _ } (.pointer (Option.map (fun (p : Addr) => p.add (Int.toNat x99 * 1)) A54)) rfl hS409 (fun w hSw => run_ixaddr (E := 5) (s := 1) (k := .i64) (c := c55) rfl (by as_aux_lemma => kernel_rfl) (by as_aux_lemma => kernel_rfl) (by as_aux_lemma => kernel_rfl) (fun _ => by kernel_rfl) (ix_in hx423).1 (ix_in hx423).2.1 (num_nil (hS409.row 2 rfl).1)) ?_
                refine gd1 63 { dst := some 133, op := _, type := _, pos := _, after := _, guard := _ } (.int .u8 x422) rfl hS409 (fun w hSw => run_loadix rfl (by as_aux_lemma => kernel_rfl) (fun _ => by kernel_rfl) (hSw.row 2 rfl).1 hx423) ?_
                refine gd1 64 { dst := some 134, op := _, type := _, pos := _, after := _, guard := _ } (.int .u8 (Int.tmod x422 2)) rfl hS409 (fun w hSw => by kernel_rfl) ?_
                rcases if_in hO414 with ⟨h424, hO414⟩ | ⟨h424, hO414⟩
                ·refine gd1 65 { dst := some 135, op := _, type := _, pos := _, after := _, guard := _ } (.bool true) rfl hS409 (fun w hSw => run_boolE (decide_eq_true h424) (by as_aux_lemma => kernel_rfl)) ?_
                 refine gd1 66 { dst := some 136, op := _, type := _, pos := _, after := _, guard := _ } (.bool false) rfl hS409 (fun w hSw => by kernel_rfl) ?_
                 refine gd1 67 { dst := some 137, op := _, type := _, pos := _, after := _, guard := _ } (.bool true) rfl hS409 (fun w hSw => by kernel_rfl) ?_
                 refine gd1 68 { dst := some 138, op := _, type := _, pos := _, after := _, guard := _ } (.bool true) rfl hS409 (fun w hSw => by kernel_rfl) ?_
                 refine gd_done (by as_aux_lemma => kernel_rfl) ?_
                 refine gx_thenN ?_
                 refine hK326 _ _ ?_
                 refine gx_yes (by as_aux_lemma => kernel_rfl) ?_
                 refine gx_seq (fun K425 hK426 => ?_)
                 refine gx_region ?_
                 refine gx_kA (.bool false) w408 ?_
                 refine gx_nil ?_
                 refine gx_thenN ?_
                 refine hK426 _ _ ?_
                 refine gx_ret ?_
                 refine gx_thenR ?_
                 obtain rfl := Option.some.inj hO414
                 try dsimp only at hO324
                 refine gx_blkR ?_
                 refine gx_thenR ?_
                 refine gx_thenR ?_
                 refine gx_blkR ?_
                 refine gx_thenR ?_
                 obtain rfl := Option.some.inj hO324
                 try dsimp only at hO92
                 obtain rfl := Option.some.inj hO92
                 exact gx_fin (.bool false) (by as_aux_lemma => kernel_rfl) (by as_aux_lemma => kernel_rfl) ⟨_, rfl, rfl, (hS409.pick [] rfl rfl)⟩
                ·refine gd1 65 { dst := some 135, op := _, type := _, pos := _, after := _, guard := _ } (.bool false) rfl hS409 (fun w hSw => run_boolE (decide_eq_false h424) (by as_aux_lemma => kernel_rfl)) ?_
                 refine gd1 66 { dst := some 136, op := _, type := _, pos := _, after := _, guard := _ } (.bool false) rfl hS409 (fun w hSw => by kernel_rfl) ?_
                 refine gd1 67 { dst := some 137, op := _, type := _, pos := _, after := _, guard := _ } (.bool false) rfl hS409 (fun w hSw => by kernel_rfl) ?_
                 refine gd1 68 { dst := some 138, op := _, type := _, pos := _, after := _, guard := _ } (.bool false) rfl hS409 (fun w hSw => by kernel_rfl) ?_
                 refine gd_done (by as_aux_lemma => kernel_rfl) ?_
                 refine gx_thenN ?_
                 refine hK326 _ _ ?_
                 refine gx_no (by as_aux_lemma => kernel_rfl) ?_
                 refine gx_pass ?_
                 refine gx_thenN ?_
                 exact ⟨selfA_i (by as_aux_lemma => kernel_rfl), (Option.some.inj hO414), hS409⟩
              ·intro hK416
               refine gd1 50 { dst := some 120, op := _, type := _, pos := _, after := _, guard := _ } (.bool b399) rfl hS397 (fun w hSw => by kernel_rfl) ?_
               cases b399 with
               | true =>
                try dsimp only at hE413
                refine gd0 51 { dst := some 121, op := _, type := _, pos := _, after := _, guard := _ } rfl hS397 ?_
                refine gd0 52 { dst := some 122, op := _, type := _, pos := _, after := _, guard := _ } rfl hS397 ?_
                refine gd0 53 { dst := some 123, op := _, type := _, pos := _, after := _, guard := _ } rfl hS397 ?_
                refine gd0 54 { dst := some 124, op := _, type := _, pos := _, after := _, guard := _ } rfl hS397 ?_
                refine gd0 55 { dst := some 125, op := _, type := _, pos := _, after := _, guard := _ } rfl hS397 ?_
                refine gd0 56 { dst := some 126, op := _, type := _, pos := _, after := _, guard := _ } rfl hS397 ?_
                refine gd0 57 { dst := some 127, op := _, type := _, pos := _, after := _, guard := _ } rfl hS397 ?_
                refine gd1 58 { dst := some 128, op := _, type := _, pos := _, after := _, guard := _ } (.bool true) rfl hS397 (fun w hSw => by kernel_rfl) ?_
                exact gd_to hK416 (by as_aux_lemma => kernel_rfl) ⟨true, selfA_i (by as_aux_lemma => kernel_rfl), (Option.some.inj hE413), hS397⟩
               | false =>
                try dsimp only at hE413
                refine gd1 51 { dst := some 121, op := _, type := _, pos := _, after := _, guard := _ } (.slice A54 l53.length c55) rfl hS397 (fun w hSw => by kernel_rfl) ?_
                refine gd1 52 { dst := some 122, op := _, type := _, pos := _, after := _, guard := _ } (.int .i64 x99) rfl hS397 (fun w hSw => by kernel_rfl) ?_
                obtain ⟨x417, hx418, hE413⟩ := bind_in hE413
                refine gd1 53 { dst := some 123, op := _, type := _, pos := _, after := _, guard := _ } (.pointer (Option.map (fun (p : Addr) => p.add (Int.toNat x99 * 1)) A54)) rfl hS397 (fun w hSw => run_ixaddr (E := 5) (s := 1) (k := .i64) (c := c55) rfl (by as_aux_lemma => kernel_rfl) (by as_aux_lemma => kernel_rfl) (by as_aux_lemma => kernel_rfl) (fun _ => by kernel_rfl) (ix_in hx418).1 (ix_in hx418).2.1 (num_nil (hS397.row 2 rfl).1)) ?_
                refine gd1 54 { dst := some 124, op := _, type := _, pos := _, after := _, guard := _ } (.int .u8 x417) rfl hS397 (fun w hSw => run_loadix rfl (by as_aux_lemma => kernel_rfl) (fun _ => by kernel_rfl) (hSw.row 2 rfl).1 hx418) ?_
                refine gd1 55 { dst := some 125, op := _, type := _, pos := _, after := _, guard := _ } (.int .u8 p1) rfl hS397 (fun w hSw => by kernel_rfl) ?_
                refine gd1 56 { dst := some 126, op := _, type := _, pos := _, after := _, guard := _ } (.int .u8 (IntKind.u8.wrap (p1 + 2))) rfl hS397 (fun w hSw => by kernel_rfl) ?_
                rcases if_in hE413 with ⟨h419, hE413⟩ | ⟨h419, hE413⟩
                ·refine gd1 57 { dst := some 127, op := _, type := _, pos := _, after := _, guard := _ } (.bool true) rfl hS397 (fun w hSw => run_boolE (decide_eq_true h419) (by as_aux_lemma => kernel_rfl)) ?_
                 refine gd1 58 { dst := some 128, op := _, type := _, pos := _, after := _, guard := _ } (.bool true) rfl hS397 (fun w hSw => by kernel_rfl) ?_
                 exact gd_to hK416 (by as_aux_lemma => kernel_rfl) ⟨true, selfA_i (by as_aux_lemma => kernel_rfl), (Option.some.inj hE413), hS397⟩
                ·refine gd1 57 { dst := some 127, op := _, type := _, pos := _, after := _, guard := _ } (.bool false) rfl hS397 (fun w hSw => run_boolE (decide_eq_false h419) (by as_aux_lemma => kernel_rfl)) ?_
                 refine gd1 58 { dst := some 128, op := _, type := _, pos := _, after := _, guard := _ } (.bool false) rfl hS397 (fun w hSw => by kernel_rfl) ?_
                 exact gd_to hK416 (by as_aux_lemma => kernel_rfl) ⟨false, selfA_i (by as_aux_lemma => kernel_rfl), (Option.some.inj hE413), hS397⟩
             ·intro hK404
              refine gd1 42 { dst := some 112, op := _, type := _, pos := _, after := _, guard := _ } (.bool b354) rfl hS352 (fun w hSw => by kernel_rfl) ?_
              cases b354 with
              | true =>
               try dsimp only at hE401
               refine gd0 43 { dst := some 113, op := _, type := _, pos := _, after := _, guard := _ } rfl hS352 ?_
               refine gd0 44 { dst := some 114, op := _, type := _, pos := _, after := _, guard := _ } rfl hS352 ?_
               refine gd0 45 { dst := some 115, op := _, type := _, pos := _, after := _, guard := _ } rfl hS352 ?_
               refine gd0 46 { dst := some 116, op := _, type := _, pos := _, after := _, guard := _ } rfl hS352 ?_
               refine gd0 47 { dst := some 117, op := _, type := _, pos := _, after := _, guard := _ } rfl hS352 ?_
               refine gd0 48 { dst := some 118, op := _, type := _, pos := _, after := _, guard := _ } rfl hS352 ?_
               refine gd1 49 { dst := some 119, op := _, type := _, pos := _, after := _, guard := _ } (.bool true) rfl hS352 (fun w hSw => by kernel_rfl) ?_
               exact gd_to hK404 (by as_aux_lemma => kernel_rfl) ⟨true, selfA_i (by as_aux_lemma => kernel_rfl), (Option.some.inj hE401), hS352⟩
              | false =>
               try dsimp only at hE401
               refine gd1 43 { dst := some 113, op := _, type := _, pos := _, after := _, guard := _ } (.slice A54 l53.length c55) rfl hS352 (fun w hSw => by kernel_rfl) ?_
               refine gd1 44 { dst := some 114, op := _, type := _, pos := _, after := _, guard := _ } (.int .i64 x99) rfl hS352 (fun w hSw => by kernel_rfl) ?_
               obtain ⟨x405, hx406, hE401⟩ := bind_in hE401
               refine gd1 45 { dst := some 115, op := _, type := _, pos := _, after := _, guard := _ } (.pointer (Option.map (fun (p : Addr) => p.add (Int.toNat x99 * 1)) A54)) rfl hS352 (fun w hSw => run_ixaddr (E := 5) (s := 1) (k := .i64) (c := c55) rfl (by as_aux_lemma => kernel_rfl) (by as_aux_lemma => kernel_rfl) (by as_aux_lemma => kernel_rfl) (fun _ => by kernel_rfl) (ix_in hx406).1 (ix_in hx406).2.1 (num_nil (hS352.row 2 rfl).1)) ?_
               refine gd1 46 { dst := some 116, op := _, type := _, pos := _, after := _, guard := _ } (.int .u8 x405) rfl hS352 (fun w hSw => run_loadix rfl (by as_aux_lemma => kernel_rfl) (fun _ => by kernel_rfl) (hSw.row 2 rfl).1 hx406) ?_
               refine gd1 47 { dst := some 117, op := _, type := _, pos := _, after := _, guard := _ } (.int .u8 p1) rfl hS352 (fun w hSw => by kernel_rfl) ?_
               rcases if_in hE401 with ⟨h407, hE401⟩ | ⟨h407, hE401⟩
               ·refine gd1 48 { dst := some 118, op := _, type := _, pos := _, after := _, guard := _ } (.bool true) rfl hS352 (fun w hSw => run_boolE (decide_eq_true h407) (by as_aux_lemma => kernel_rfl)) ?_
                refine gd1 49 { dst := some 119, op := _, type := _, pos := _, after := _, guard := _ } (.bool true) rfl hS352 (fun w hSw => by kernel_rfl) ?_
                exact gd_to hK404 (by as_aux_lemma => kernel_rfl) ⟨true, selfA_i (by as_aux_lemma => kernel_rfl), (Option.some.inj hE401), hS352⟩
               ·refine gd1 48 { dst := some 118, op := _, type := _, pos := _, after := _, guard := _ } (.bool false) rfl hS352 (fun w hSw => run_boolE (decide_eq_false h407) (by as_aux_lemma => kernel_rfl)) ?_
                refine gd1 49 { dst := some 119, op := _, type := _, pos := _, after := _, guard := _ } (.bool false) rfl hS352 (fun w hSw => by kernel_rfl) ?_
                exact gd_to hK404 (by as_aux_lemma => kernel_rfl) ⟨false, selfA_i (by as_aux_lemma => kernel_rfl), (Option.some.inj hE401), hS352⟩
            ·intro hK359
             refine gd1 17 { dst := some 87, op := _, type := _, pos := _, after := _, guard := _ } (.bool b340) rfl hS338 (fun w hSw => by kernel_rfl) ?_
             cases b340 with
             | true =>
              try dsimp only at hE356
              refine gd0 18 { dst := some 88, op := _, type := _, pos := _, after := _, guard := _ } rfl hS338 ?_
              refine gd0 19 { dst := some 89, op := _, type := _, pos := _, after := _, guard := _ } rfl hS338 ?_
              refine gd0 20 { dst := some 90, op := _, type := _, pos := _, after := _, guard := _ } rfl hS338 ?_
              refine gd0 21 { dst := some 91, op := _, type := _, pos := _, after := _, guard := _ } rfl hS338 ?_
              refine gd0 22 { dst := some 92, op := _, type := _, pos := _, after := _, guard := _ } rfl hS338 ?_
              refine gd0 23 { dst := some 93, op := _, type := _, pos := _, after := _, guard := _ } rfl hS338 ?_
              refine gd0 24 { dst := some 94, op := _, type := _, pos := _, after := _, guard := _ } rfl hS338 ?_
              refine gd0 25 { dst := some 95, op := _, type := _, pos := _, after := _, guard := _ } rfl hS338 ?_
              refine gd0 26 { dst := some 96, op := _, type := _, pos := _, after := _, guard := _ } rfl hS338 ?_
              refine gd0 27 { dst := some 97, op := _, type := _, pos := _, after := _, guard := _ } rfl hS338 ?_
              refine gd0 28 { dst := some 98, op := _, type := _, pos := _, after := _, guard := _ } rfl hS338 ?_
              refine gd0 29 { dst := some 99, op := _, type := _, pos := _, after := _, guard := _ } rfl hS338 ?_
              refine gd0 30 { dst := some 100, op := _, type := _, pos := _, after := _, guard := _ } rfl hS338 ?_
              refine gd0 31 { dst := some 101, op := _, type := _, pos := _, after := _, guard := _ } rfl hS338 ?_
              refine gd0 32 { dst := some 102, op := _, type := _, pos := _, after := _, guard := _ } rfl hS338 ?_
              refine gd0 33 { dst := some 103, op := _, type := _, pos := _, after := _, guard := _ } rfl hS338 ?_
              refine gd0 34 { dst := some 104, op := _, type := _, pos := _, after := _, guard := _ } rfl hS338 ?_
              refine gd0 35 { dst := some 105, op := _, type := _, pos := _, after := _, guard := _ } rfl hS338 ?_
              refine gd0 36 { dst := some 106, op := _, type := _, pos := _, after := _, guard := _ } rfl hS338 ?_
              refine gd0 37 { dst := some 107, op := _, type := _, pos := _, after := _, guard := _ } rfl hS338 ?_
              refine gd0 38 { dst := some 108, op := _, type := _, pos := _, after := _, guard := _ } rfl hS338 ?_
              refine gd0 39 { dst := some 109, op := _, type := _, pos := _, after := _, guard := _ } rfl hS338 ?_
              refine gd0 40 { dst := some 110, op := _, type := _, pos := _, after := _, guard := _ } rfl hS338 ?_
              refine gd1 41 { dst := some 111, op := _, type := _, pos := _, after := _, guard := _ } (.bool true) rfl hS338 (fun w hSw => by kernel_rfl) ?_
              exact gd_to hK359 (by as_aux_lemma => kernel_rfl) ⟨true, selfA_i (by as_aux_lemma => kernel_rfl), (Option.some.inj hE356), hS338⟩
             | false =>
              try dsimp only at hE356
              refine gd1 18 { dst := some 88, op := _, type := _, pos := _, after := _, guard := _ } (.slice A44 l43.length c45) rfl hS338 (fun w hSw => by kernel_rfl) ?_
              refine gd1 19 { dst := some 89, op := _, type := _, pos := _, after := _, guard := _ } (.int .i64 x99) rfl hS338 (fun w hSw => by kernel_rfl) ?_
              obtain ⟨x360, hx361, hE356⟩ := bind_in hE356
              refine gd1 20 { dst := some 90, op := _, type := _, pos := _, after := _, guard := _ } (.pointer (Option.map (fun (p : Addr) => p.add (Int.toNat x99 * 1)) A44)) rfl hS338 (fun w hSw => run_ixaddr (E := 23) (s := 1) (k := .i64) (c := c45) rfl (by as_aux_lemma => kernel_rfl) (by as_aux_lemma => kernel_rfl) (by as_aux_lemma => kernel_rfl) (fun _ => by kernel_rfl) (ix_in hx361).1 (ix_in hx361).2.1 (num_nil (hS338.row 1 rfl).1)) ?_
              refine gd1 21 { dst := some 91, op := _, type := _, pos := _, after := _, guard := _ } (.int .u8 x360) rfl hS338 (fun w hSw => run_loadix rfl (by as_aux_lemma => kernel_rfl) (fun _ => by kernel_rfl) (hSw.row 1 rfl).1 hx361) ?_
              obtain ⟨c366, hE367, hO368⟩ := bind_in hE356
              refine gd_mid (fun a w => ∃ (b365 : Bool), selfA (fun u364 => ⟨((u61 0) :: (.int .u8 p1) :: (.int .u8 p2) :: (.int .u8 p3) :: un 4 ((u97 8) :: (.slice A34 l33.length c35) :: (.slice A44 l43.length c45) :: (.slice A54 l53.length c55) :: (.int .i64 x98) :: (.int .u8 x80) :: (.int .i64 x99) :: (.bool false) :: dd u5 16 8 (dd u61 24 3 ((.int .u8 p1) :: (.int .u8 p2) :: (.int .u8 p3) :: dd u61 30 2 ((.int .u8 p1) :: dd u61 33 13 (dd u79 46 3 ((.int .i64 x99) :: (u339 50) :: (.int .i64 ((l43.length : Nat) : Int)) :: (.bool true) :: dd u97 53 2 ((u339 55) :: (.int .i64 x99) :: (.pointer (Option.map (fun (p : Addr) => p.add (Int.toNat x99 * 1)) A44)) :: (.int .u8 x111) :: (.bool false) :: (u339 60) :: (.int .i64 x99) :: (.pointer (Option.map (fun (p : Addr) => p.add (Int.toNat x99 * 1)) A44)) :: (.int .u8 x307) :: (.bool false) :: dd u97 65 5 ((u339 70) :: (.int .i64 x99) :: (.pointer (Option.map (fun (p : Addr) => p.add (Int.toNat x99 * 1)) A34)) :: (.int .u8 x329) :: (.bool b333) :: dd u339 75 11 ((.bool false) :: (.bool false) :: (u364 88) :: (.int .i64 x99) :: (.pointer (Option.map (fun (p : Addr) => p.add (Int.toNat x99 * 1)) A44)) :: (.int .u8 x360) :: dd u364 92 4 ((.bool b365) :: dd u97 97 78 (undef :: [])))))))))))).toArray, []⟩) a ∧ b365 = c366 ∧ St [] w0 w [rowE .u8 23 A34 c35 l33, rowE .u8 23 A44 c45 l43, rowE .u8 5 A54 c55 l53]) 42 #[true, true, true, true, true, true, true, true, true, true, true, true, true, true, true, true, true, true, true, true, true, true, true, true, true, true, true, false, false, false, false, false, false, false, false, false, false, false, false, false, false, false, false, false, false, false, false, false, false, false, false, false, false, false, false, false, false, false, false, false, false, false, false, false, false, false, false, false, false] ?_ ?_
              ·rintro _ w362 ⟨b365, hq369, rfl, hS363⟩
               obtain ⟨u364, rfl⟩ := selfA_u hq369
               try dsimp only at hO368
               obtain ⟨c376, hE377, hO378⟩ := bind_in hO368
               refine gd_mid (fun a w => ∃ (b375 : Bool), selfA (fun u374 => ⟨((u61 0) :: (.int .u8 p1) :: (.int .u8 p2) :: (.int .u8 p3) :: un 4 ((u97 8) :: (.slice A34 l33.length c35) :: (.slice A44 l43.length c45) :: (.slice A54 l53.length c55) :: (.int .i64 x98) :: (.int .u8 x80) :: (.int .i64 x99) :: (.bool false) :: dd u5 16 8 (dd u61 24 3 ((.int .u8 p1) :: (.int .u8 p2) :: (.int .u8 p3) :: dd u61 30 2 ((.int .u8 p1) :: dd u61 33 13 (dd u79 46 3 ((.int .i64 x99) :: (u339 50) :: (.int .i64 ((l43.length : Nat) : Int)) :: (.bool true) :: dd u97 53 2 ((u339 55) :: (.int .i64 x99) :: (.pointer (Option.map (fun (p : Addr) => p.add (Int.toNat x99 * 1)) A44)) :: (.int .u8 x111) :: (.bool false) :: (u339 60) :: (.int .i64 x99) :: (.pointer (Option.map (fun (p : Addr) => p.add (Int.toNat x99 * 1)) A44)) :: (.int .u8 x307) :: (.bool false) :: dd u97 65 5 ((u339 70) :: (.int .i64 x99) :: (.pointer (Option.map (fun (p : Addr) => p.add (Int.toNat x99 * 1)) A34)) :: (.int .u8 x329) :: (.bool b333) :: dd u339 75 11 ((.bool false) :: (.bool false) :: (u364 88) :: (.int .i64 x99) :: (.pointer (Option.map (fun (p : Addr) => p.add (Int.toNat x99 * 1)) A44)) :: (.int .u8 x360) :: dd u364 92 4 ((.bool b365) :: dd u374 97 6 ((.bool b375) :: dd u97 104 71 (undef :: []))))))))))))).toArray, []⟩) a ∧ b375 = c376 ∧ St [] w0 w [rowE .u8 23 A34 c35 l33, rowE .u8 23 A44 c45 l43, rowE .u8 5 A54 c55 l53]) 35 #[true, true, true, true, true, true, true, true, true, true, true, true, true, true, true, true, true, true, true, true, true, true, true, true, true, true, true, true, true, true, true, true, true, true, false, false, false, false, false, false, false, false, false, false, false, false, false, false, false, false, false, false, false, false, false, false, false, false, false, false, false, false, false, false, false, false, false, false, false] ?_ ?_
               ·rintro _ w372 ⟨b375, hq379, rfl, hS373⟩
                obtain ⟨u374, rfl⟩ := selfA_u hq379
                try dsimp only at hO378
                obtain ⟨c388, hE389, hO390⟩ := bind_in hO378
                refine gd_mid (fun a w => ∃ (b387 : Bool), selfA (fun u386 => ⟨((u61 0) :: (.int .u8 p1) :: (.int .u8 p2) :: (.int .u8 p3) :: un 4 ((u97 8) :: (.slice A34 l33.length c35) :: (.slice A44 l43.length c45) :: (.slice A54 l53.length c55) :: (.int .i64 x98) :: (.int .u8 x80) :: (.int .i64 x99) :: (.bool false) :: dd u5 16 8 (dd u61 24 3 ((.int .u8 p1) :: (.int .u8 p2) :: (.int .u8 p3) :: dd u61 30 2 ((.int .u8 p1) :: dd u61 33 13 (dd u79 46 3 ((.int .i64 x99) :: (u339 50) :: (.int .i64 ((l43.length : Nat) : Int)) :: (.bool true) :: dd u97 53 2 ((u339 55) :: (.int .i64 x99) :: (.pointer (Option.map (fun (p : Addr) => p.add (Int.toNat x99 * 1)) A44)) :: (.int .u8 x111) :: (.bool false) :: (u339 60) :: (.int .i64 x99) :: (.pointer (Option.map (fun (p : Addr) => p.add (Int.toNat x99 * 1)) A44)) :: (.int .u8 x307) :: (.bool false) :: dd u97 65 5 ((u339 70) :: (.int .i64 x99) :: (.pointer (Option.map (fun (p : Addr) => p.add (Int.toNat x99 * 1)) A34)) :: (.int .u8 x329) :: (.bool b333) :: dd u339 75 11 ((.bool false) :: (.bool false) :: (u364 88) :: (.int .i64 x99) :: (.pointer (Option.map (fun (p : Addr) => p.add (Int.toNat x99 * 1)) A44)) :: (.int .u8 x360) :: dd u364 92 4 ((.bool b365) :: dd u374 97 6 ((.bool b375) :: dd u386 104 6 ((.bool b387) :: dd u97 111 64 (undef :: [])))))))))))))).toArray, []⟩) a ∧ b387 = c388 ∧ St [] w0 w [rowE .u8 23 A34 c35 l33, rowE .u8 23 A44 c45 l43, rowE .u8 5 A54 c55 l53]) 28 #[true, true, true, true, true, true, true, true, true, true, true, true, true, true, true, true, true, true, true, true, true, true, true, true, true, true, true, true, true, true, true, true, true, true, true, true, true, true, true, true, true, false, false, false, false, false, false, false, false, false, false, false, false, false, false, false, false, false, false, false, false, false, false, false, false, false, false, false, false] ?_ ?_
                ·rintro _ w384 ⟨b387, hq391, rfl, hS385⟩
                 obtain ⟨u386, rfl⟩ := selfA_u hq391
                 try dsimp only at hO390
                 refine gd1 41 { dst := some 111, op := _, type := _, pos := _, after := _, guard := _ } (.bool b387) rfl hS385 (fun w hSw => by kernel_rfl) ?_
                 exact gd_to hK359 (by as_aux_lemma => kernel_rfl) ⟨b387, selfA_i (by as_aux_lemma => kernel_rfl), (Option.some.inj hO390), hS385⟩
                ·intro hK392
                 refine gd1 34 { dst := some 104, op := _, type := _, pos := _, after := _, guard := _ } (.bool b375) rfl hS373 (fun w hSw => by kernel_rfl) ?_
                 cases b375 with
                 | true =>
                  try dsimp only at hE389
                  refine gd1 35 { dst := some 105, op := _, type := _, pos := _, after := _, guard := _ } (.slice A44 l43.length c45) rfl hS373 (fun w hSw => by kernel_rfl) ?_
                  refine gd1 36 { dst := some 106, op := _, type := _, pos := _, after := _, guard := _ } (.int .i64 x99) rfl hS373 (fun w hSw => by kernel_rfl) ?_
                  obtain ⟨x393, hx394, hE389⟩ := bind_in hE389
                  refine gd1 37 { dst := some 107, op := _, type := _, pos := _, after := _, guard := _ } (.pointer (Option.map (fun (p : Addr) => p.add (Int.toNat x99 * 1)) A44)) rfl hS373 (fun w hSw => run_ixaddr (E := 23) (s := 1) (k := .i64) (c := c45) rfl (by as_aux_lemma => kernel_rfl) (by as_aux_lemma => kernel_rfl) (by as_aux_lemma => kernel_rfl) (fun _ => by kernel_rfl) (ix_in hx394).1 (ix_in hx394).2.1 (num_nil (hS373.row 1 rfl).1)) ?_
                  refine gd1 38 { dst := some 108, op := _, type := _, pos := _, after := _, guard := _ } (.int .u8 x393) rfl hS373 (fun w hSw => run_loadix rfl (by as_aux_lemma => kernel_rfl) (fun _ => by kernel_rfl) (hSw.row 1 rfl).1 hx394) ?_
                  rcases if_in hE389 with ⟨h395, hE389⟩ | ⟨h395, hE389⟩
                  ·refine gd1 39 { dst := some 109, op := _, type := _, pos := _, after := _, guard := _ } (.bool true) rfl hS373 (fun w hSw => run_boolE (ne_yes h395) (by as_aux_lemma => kernel_rfl)) ?_
                   refine gd1 40 { dst := some 110, op := _, type := _, pos := _, after := _, guard := _ } (.bool true) rfl hS373 (fun w hSw => by kernel_rfl) ?_
                   exact gd_to hK392 (by as_aux_lemma => kernel_rfl) ⟨true, selfA_i (by as_aux_lemma => kernel_rfl), (Option.some.inj hE389), hS373⟩
                  ·refine gd1 39 { dst := some 109, op := _, type := _, pos := _, after := _, guard := _ } (.bool false) rfl hS373 (fun w hSw => run_boolE (ne_no h395) (by as_aux_lemma => kernel_rfl)) ?_
                   refine gd1 40 { dst := some 110, op := _, type := _, pos := _, after := _, guard := _ } (.bool false) rfl hS373 (fun w hSw => by kernel_rfl) ?_
                   exact gd_to hK392 (by as_aux_lemma => kernel_rfl) ⟨false, selfA_i (by as_aux_lemma => kernel_rfl), (Option.some.inj hE389), hS373⟩
                 | false =>
                  try dsimp only at hE389
                  refine gd0 35 { dst := some 105, op := _, type := _, pos := _, after := _, guard := _ } rfl hS373 ?_
                  refine gd0 36 { dst := some 106, op := _, type := _, pos := _, after := _, guard := _ } rfl hS373 ?_
                  refine gd0 37 { dst := some 107, op := _, type := _, pos := _, after := _, guard := _ } rfl hS373 ?_
                  refine gd0 38 { dst := some 108, op := _, type := _, pos := _, after := _, guard := _ } rfl hS373 ?_
                  refine gd0 39 { dst := some 109, op := _, type := _, pos := _, after := _, guard := _ } rfl hS373 ?_
                  refine gd1 40 { dst := some 110, op := _, type := _, pos := _, after := _, guard := _ } (.bool false) rfl hS373 (fun w hSw => by kernel_rfl) ?_
                  exact gd_to hK392 (by as_aux_lemma => kernel_rfl) ⟨false, selfA_i (by as_aux_lemma => kernel_rfl), (Option.some.inj hE389), hS373⟩
               ·intro hK380
                refine gd1 27 { dst := some 97, op := _, type := _, pos := _, after := _, guard := _ } (.bool b365) rfl hS363 (fun w hSw => by kernel_rfl) ?_
                cases b365 with
                | true =>
                 try dsimp only at hE377
                 refine gd1 28 { dst := some 98, op := _, type := _, pos := _, after := _, guard := _ } (.slice A44 l43.length c45) rfl hS363 (fun w hSw => by kernel_rfl) ?_
                 refine gd1 29 { dst := some 99, op := _, type := _, pos := _, after := _, guard := _ } (.int .i64 x99) rfl hS363 (fun w hSw => by kernel_rfl) ?_
                 obtain ⟨x381, hx382, hE377⟩ := bind_in hE377
                 refine gd1 30 { dst := some 100, op := _, type := _, pos := _, after := _, guard := _ } (.pointer (Option.map (fun (p : Addr) => p.add (Int.toNat x99 * 1)) A44)) rfl hS363 (fun w hSw => run_ixaddr (E := 23) (s := 1) (k := .i64) (c := c45) rfl (by as_aux_lemma => kernel_rfl) (by as_aux_lemma => kernel_rfl) (by as_aux_lemma => kernel_rfl) (fun _ => by kernel_rfl) (ix_in hx382).1 (ix_in hx382).2.1 (num_nil (hS363.row 1 rfl).1)) ?_
                 refine gd1 31 { dst := some 101, op := _, type := _, pos := _, after := _, guard := _ } (.int .u8 x381) rfl hS363 (fun w hSw => run_loadix rfl (by as_aux_lemma => kernel_rfl) (fun _ => by kernel_rfl) (hSw.row 1 rfl).1 hx382) ?_
                 rcases if_in hE377 with ⟨h383, hE377⟩ | ⟨h383, hE377⟩
                 ·refine gd1 32 { dst := some 102, op := _, type := _, pos := _, after := _, guard := _ } (.bool true) rfl hS363 (fun w hSw => run_boolE (ne_yes h383) (by as_aux_lemma => kernel_rfl)) ?_
                  refine gd1 33 { dst := some 103, op := _, type := _, pos := _, after := _, guard := _ } (.bool true) rfl hS363 (fun w hSw => by kernel_rfl) ?_
                  exact gd_to hK380 (by as_aux_lemma => kernel_rfl) ⟨true, selfA_i (by as_aux_lemma => kernel_rfl), (Option.some.inj hE377), hS363⟩
                 ·refine gd1 32 { dst := some 102, op := _, type := _, pos := _, after := _, guard := _ } (.bool false) rfl hS363 (fun w hSw => run_boolE (ne_no h383) (by as_aux_lemma => kernel_rfl)) ?_
                  refine gd1 33 { dst := some 103, op := _, type := _, pos := _, after := _, guard := _ } (.bool false) rfl hS363 (fun w hSw => by kernel_rfl) ?_
                  exact gd_to hK380 (by as_aux_lemma => kernel_rfl) ⟨false, selfA_i (by as_aux_lemma => kernel_rfl), (Option.some.inj hE377), hS363⟩
                | false =>
                 try dsimp only at hE377
                 refine gd0 28 { dst := some 98, op := _, type := _, pos := _, after := _, guard := _ } rfl hS363 ?_
                 refine gd0 29 { dst := some 99, op := _, type := _, pos := _, after := _, guard := _ } rfl hS363 ?_
                 refine gd0 30 { dst := some 100, op := _, type := _, pos := _, after := _, guard := _ } rfl hS363 ?_
                 refine gd0 31 { dst := some 101, op := _, type := _, pos := _, after := _, guard := _ } rfl hS363 ?_
                 refine gd0 32 { dst := some 102, op := _, type := _, pos := _, after := _, guard := _ } rfl hS363 ?_
                 refine gd1 33 { dst := some 103, op := _, type := _, pos := _, after := _, guard := _ } (.bool false) rfl hS363 (fun w hSw => by kernel_rfl) ?_
                 exact gd_to hK380 (by as_aux_lemma => kernel_rfl) ⟨false, selfA_i (by as_aux_lemma => kernel_rfl), (Option.some.inj hE377), hS363⟩
              ·intro hK370
               rcases if_in hE367 with ⟨h371, hE367⟩ | ⟨h371, hE367⟩
               ·refine gd1 22 { dst := some 92, op := _, type := _, pos := _, after := _, guard := _ } (.bool true) rfl hS338 (fun w hSw => run_boolE (ne_yes h371) (by as_aux_lemma => kernel_rfl)) ?_
                refine gd1 23 { dst := some 93, op := _, type := _, pos := _, after := _, guard := _ } (.bool true) rfl hS338 (fun w hSw => by kernel_rfl) ?_
                refine gd1 24 { dst := some 94, op := _, type := _, pos := _, after := _, guard := _ } (.bool false) rfl hS338 (fun w hSw => by kernel_rfl) ?_
                refine gd1 25 { dst := some 95, op := _, type := _, pos := _, after := _, guard := _ } (.bool true) rfl hS338 (fun w hSw => by kernel_rfl) ?_
                refine gd1 26 { dst := some 96, op := _, type := _, pos := _, after := _, guard := _ } (.bool true) rfl hS338 (fun w hSw => by kernel_rfl) ?_
                exact gd_to hK370 (by as_aux_lemma => kernel_rfl) ⟨true, selfA_i (by as_aux_lemma => kernel_rfl), (Option.some.inj hE367), hS338⟩
               ·refine gd1 22 { dst := some 92, op := _, type := _, pos := _, after := _, guard := _ } (.bool false) rfl hS338 (fun w hSw => run_boolE (ne_no h371) (by as_aux_lemma => kernel_rfl)) ?_
                refine gd1 23 { dst := some 93, op := _, type := _, pos := _, after := _, guard := _ } (.bool false) rfl hS338 (fun w hSw => by kernel_rfl) ?_
                refine gd0 24 { dst := some 94, op := _, type := _, pos := _, after := _, guard := _ } rfl hS338 ?_
                refine gd0 25 { dst := some 95, op := _, type := _, pos := _, after := _, guard := _ } rfl hS338 ?_
                refine gd1 26 { dst := some 96, op := _, type := _, pos := _, after := _, guard := _ } (.bool false) rfl hS338 (fun w hSw => by kernel_rfl) ?_
                exact gd_to hK370 (by as_aux_lemma => kernel_rfl) ⟨false, selfA_i (by as_aux_lemma => kernel_rfl), (Option.some.inj hE367), hS338⟩
           ·intro hK345
            cases b333 with
            | true =>
             try dsimp only at hE342
             refine gd1 5 { dst := some 75, op := _, type := _, pos := _, after := _, guard := _ } (.bool false) rfl hS335 (fun w hSw => by kernel_rfl) ?_
             refine gd1 6 { dst := some 76, op := _, type := _, pos := _, after := _, guard := _ } (.bool false) rfl hS335 (fun w hSw => by kernel_rfl) ?_
             refine gd0 7 { dst := some 77, op := _, type := _, pos := _, after := _, guard := _ } rfl hS335 ?_
             refine gd0 8 { dst := some 78, op := _, type := _, pos := _, after := _, guard := _ } rfl hS335 ?_
             refine gd0 9 { dst := some 79, op := _, type := _, pos := _, after := _, guard := _ } rfl hS335 ?_
             refine gd0 10 { dst := some 80, op := _, type := _, pos := _, after := _, guard := _ } rfl hS335 ?_
             refine gd0 11 { dst := some 81, op := _, type := _, pos := _, after := _, guard := _ } rfl hS335 ?_
             refine gd0 12 { dst := some 82, op := _, type := _, pos := _, after := _, guard := _ } rfl hS335 ?_
             refine gd0 13 { dst := some 83, op := _, type := _, pos := _, after := _, guard := _ } rfl hS335 ?_
             refine gd0 14 { dst := some 84, op := _, type := _, pos := _, after := _, guard := _ } rfl hS335 ?_
             refine gd0 15 { dst := some 85, op := _, type := _, pos := _, after := _, guard := _ } rfl hS335 ?_
             refine gd1 16 { dst := some 86, op := _, type := _, pos := _, after := _, guard := _ } (.bool false) rfl hS335 (fun w hSw => by kernel_rfl) ?_
             exact gd_to hK345 (by as_aux_lemma => kernel_rfl) ⟨false, selfA_i (by as_aux_lemma => kernel_rfl), (Option.some.inj hE342), hS335⟩
            | false =>
             try dsimp only at hE342
             refine gd1 5 { dst := some 75, op := _, type := _, pos := _, after := _, guard := _ } (.bool true) rfl hS335 (fun w hSw => by kernel_rfl) ?_
             refine gd1 6 { dst := some 76, op := _, type := _, pos := _, after := _, guard := _ } (.bool true) rfl hS335 (fun w hSw => by kernel_rfl) ?_
             refine gd1 7 { dst := some 77, op := _, type := _, pos := _, after := _, guard := _ } (.slice A44 l43.length c45) rfl hS335 (fun w hSw => by kernel_rfl) ?_
             refine gd1 8 { dst := some 78, op := _, type := _, pos := _, after := _, guard := _ } (.int .i64 x99) rfl hS335 (fun w hSw => by kernel_rfl) ?_
             obtain ⟨x346, hx347, hE342⟩ := bind_in hE342
             refine gd1 9 { dst := some 79, op := _, type := _, pos := _, after := _, guard := _ } (.pointer (Option.map (fun (p : Addr) => p.add (Int.toNat x99 * 1)) A44)) rfl hS335 (fun w hSw => run_ixaddr (E := 23) (s := 1) (k := .i64) (c := c45) rfl (by as_aux_lemma => kernel_rfl) (by as_aux_lemma => kernel_rfl) (by as_aux_lemma => kernel_rfl) (fun _ => by kernel_rfl) (ix_in hx347).1 (ix_in hx347).2.1 (num_nil (hS335.row 1 rfl).1)) ?_
             refine gd1 10 { dst := some 80, op := _, type := _, pos := _, after := _, guard := _ } (.int .u8 x346) rfl hS335 (fun w hSw => run_loadix rfl (by as_aux_lemma => kernel_rfl) (fun _ => by kernel_rfl) (hSw.row 1 rfl).1 hx347) ?_
             refine gd1 11 { dst := some 81, op := _, type := _, pos := _, after := _, guard := _ } (.slice A34 l33.length c35) rfl hS335 (fun w hSw => by kernel_rfl) ?_
             refine gd1 12 { dst := some 82, op := _, type := _, pos := _, after := _, guard := _ } (.int .i64 x99) rfl hS335 (fun w hSw => by kernel_rfl) ?_
             obtain ⟨x348, hx349, hE342⟩ := bind_in hE342
             refine gd1 13 { dst := some 83, op := _, type := _, pos := _, after := _, guard := _ } (.pointer (Option.map (fun (p : Addr) => p.add (Int.toNat x99 * 1)) A34)) rfl hS335 (fun w hSw => run_ixaddr (E := 23) (s := 1) (k := .i64) (c := c35) rfl (by as_aux_lemma => kernel_rfl) (by as_aux_lemma => kernel_rfl) (by as_aux_lemma => kernel_rfl) (fun _ => by kernel_rfl) (ix_in hx349).1 (ix_in hx349).2.1 (num_nil (hS335.row 0 rfl).1)) ?_
             refine gd1 14 { dst := some 84, op := _, type := _, pos := _, after := _, guard := _ } (.int .u8 x348) rfl hS335 (fun w hSw => run_loadix rfl (by as_aux_lemma => kernel_rfl) (fun _ => by kernel_rfl) (hSw.row 0 rfl).1 hx349) ?_
             rcases if_in hE342 with ⟨h350, hE342⟩ | ⟨h350, hE342⟩
             ·refine gd1 15 { dst := some 85, op := _, type := _, pos := _, after := _, guard := _ } (.bool true) rfl hS335 (fun w hSw => run_boolE (ne_yes h350) (by as_aux_lemma => kernel_rfl)) ?_
              refine gd1 16 { dst := some 86, op := _, type := _, pos := _, after := _, guard := _ } (.bool true) rfl hS335 (fun w hSw => by kernel_rfl) ?_
              exact gd_to hK345 (by as_aux_lemma => kernel_rfl) ⟨true, selfA_i (by as_aux_lemma => kernel_rfl), (Option.some.inj hE342), hS335⟩
             ·refine gd1 15 { dst := some 85, op := _, type := _, pos := _, after := _, guard := _ } (.bool false) rfl hS335 (fun w hSw => run_boolE (ne_no h350) (by as_aux_lemma => kernel_rfl)) ?_
              refine gd1 16 { dst := some 86, op := _, type := _, pos := _, after := _, guard := _ } (.bool false) rfl hS335 (fun w hSw => by kernel_rfl) ?_
              exact gd_to hK345 (by as_aux_lemma => kernel_rfl) ⟨false, selfA_i (by as_aux_lemma => kernel_rfl), (Option.some.inj hE342), hS335⟩
          ·rintro _ w319 ⟨hq491, rfl, hS320⟩
           obtain ⟨u321, rfl⟩ := selfA_u hq491
           try dsimp only at hO324
           obtain ⟨c430, hE431, hO432⟩ := bind_in hO324
           refine gx_cut (fun a w => selfA (fun u429 => ⟨((u61 0) :: (.int .u8 p1) :: (.int .u8 p2) :: (.int .u8 p3) :: un 4 ((u429 8) :: (.slice A34 l33.length c35) :: (.slice A44 l43.length c45) :: (.slice A54 l53.length c55) :: (.int .i64 x98) :: (.int .u8 x80) :: (.int .i64 x99) :: (.bool false) :: dd u5 16 8 (dd u61 24 3 ((.int .u8 p1) :: (.int .u8 p2) :: (.int .u8 p3) :: dd u61 30 2 ((.int .u8 p1) :: dd u61 33 13 (dd u79 46 3 ((.int .i64 x99) :: (u321 50) :: (.int .i64 ((l43.length : Nat) : Int)) :: (.bool true) :: dd u97 53 2 ((u321 55) :: (.int .i64 x99) :: (.pointer (Option.map (fun (p : Addr) => p.add (Int.toNat x99 * 1)) A44)) :: (.int .u8 x111) :: (.bool false) :: (u321 60) :: (.int .i64 x99) :: (.pointer (Option.map (fun (p : Addr) => p.add (Int.toNat x99 * 1)) A44)) :: (.int .u8 x307) :: (.bool false) :: dd u97 65 5 (dd u321 70 69 (dd u429 139 31 (dd u97 170 5 (undef :: [])))))))))))).toArray, []⟩) a ∧ Ctl.go () = c430 ∧ St [] w0 w [rowE .u8 23 A34 c35 l33, rowE .u8 23 A44 c45 l43, rowE .u8 5 A54 c55 l53]) ?_ ?_
           ·refine gx_seq (fun K433 hK434 => ?_)
            refine gx_region ?_
            refine gx_kA (.slice A34 l33.length c35) w319 (gx_kA (.int .i64 x99) w319 ?_)
            obtain ⟨x435, hx436, hE431⟩ := bind_in hE431
            refine gx_vA (.pointer (Option.map (fun (p : Addr) => p.add (Int.toNat x99 * 1)) A34)) w319 (run_ixaddr (E := 23) (s := 1) (k := .i64) (c := c35) rfl (by as_aux_lemma => kernel_rfl) (by as_aux_lemma => kernel_rfl) (by as_aux_lemma => kernel_rfl) (fun _ => by kernel_rfl) (ix_in hx436).1 (ix_in hx436).2.1 (num_nil (hS320.row 0 rfl).1)) ?_
            refine gx_vA (.int .u8 x435) w319 (run_loadix rfl (by as_aux_lemma => kernel_rfl) (fun _ => by kernel_rfl) (hS320.row 0 rfl).1 hx436) ?_
            obtain ⟨c441, hE442, hO443⟩ := bind_in hE431
            refine gx_part (l1 := [_, _, _, _, _, _, _, _, _]) (fun a w => ∃ (b440 : Bool), selfA (fun u439 => ⟨((u61 0) :: (.int .u8 p1) :: (.int .u8 p2) :: (.int .u8 p3) :: un 4 ((u321 8) :: (.slice A34 l33.length c35) :: (.slice A44 l43.length c45) :: (.slice A54 l53.length c55) :: (.int .i64 x98) :: (.int .u8 x80) :: (.int .i64 x99) :: (.bool false) :: dd u5 16 8 (dd u61 24 3 ((.int .u8 p1) :: (.int .u8 p2) :: (.int .u8 p3) :: dd u61 30 2 ((.int .u8 p1) :: dd u61 33 13 (dd u79 46 3 ((.int .i64 x99) :: (u321 50) :: (.int .i64 ((l43.length : Nat) : Int)) :: (.bool true) :: dd u97 53 2 ((u321 55) :: (.int .i64 x99) :: (.pointer (Option.map (fun (p : Addr) => p.add (Int.toNat x99 * 1)) A44)) :: (.int .u8 x111) :: (.bool false) :: (u321 60) :: (.int .i64 x99) :: (.pointer (Option.map (fun (p : Addr) => p.add (Int.toNat x99 * 1)) A44)) :: (.int .u8 x307) :: (.bool false) :: dd u97 65 5 (dd u321 70 69 ((u439 139) :: (.int .i64 x99) :: (.pointer (Option.map (fun (p : Addr) => p.add (Int.toNat x99 * 1)) A34)) :: (.int .u8 x435) :: dd u439 143 8 ((.bool b440) :: dd u97 152 23 (undef :: [])))))))))))).toArray, []⟩) a ∧ b440 = c441 ∧ St [] w0 w [rowE .u8 23 A34 c35 l33, rowE .u8 23 A44 c45 l43, rowE .u8 5 A54 c55 l53]) rfl ?_ ?_
            ·have hP445 : St _ _ w319 ([] ++ [rowE .u8 23 A34 c35 l33, rowE .u8 23 A44 c45 l43, rowE .u8 5 A54 c55 l53]) := hS320
             obtain ⟨b447, hc446, hE442⟩ := bind_in hE442
             try dsimp only at hE442
             refine gx_cA (rNeu_R b447 w319) (rNeu_ok N x435 _ hc446 w319 ) ?_
             rintro _ w448 ⟨rfl, hT450⟩
             have hS449 : St _ _ w448 [rowE .u8 23 A34 c35 l33, rowE .u8 23 A44 c45 l43, rowE .u8 5 A54 c55 l53] := hS320.take _ hT450
             refine gx_kA (.bool b447) w448 ?_
             cases b447 with
             | true =>
              try dsimp only at hE442
              refine gx_kA (.slice A44 l43.length c45) w448 (gx_kA (.int .i64 x99) w448 ?_)
              obtain ⟨x451, hx452, hE442⟩ := bind_in hE442
              refine gx_vA (.pointer (Option.map (fun (p : Addr) => p.add (Int.toNat x99 * 1)) A44)) w448 (run_ixaddr (E := 23) (s := 1) (k := .i64) (c := c45) rfl (by as_aux_lemma => kernel_rfl) (by as_aux_lemma => kernel_rfl) (by as_aux_lemma => kernel_rfl) (fun _ => by kernel_rfl) (ix_in hx452).1 (ix_in hx452).2.1 (num_nil (hS449.row 1 rfl).1)) ?_
              refine gx_vA (.int .u8 x451) w448 (run_loadix rfl (by as_aux_lemma => kernel_rfl) (fun _ => by kernel_rfl) (hS449.row 1 rfl).1 hx452) ?_
              refine gx_kA (.int .u8 x80) w448 ?_
              rcases if_in hE442 with ⟨h453, hE442⟩ | ⟨h453, hE442⟩
              ·refine gx_vA (.bool true) w448 (run_boolE (ne_yes h453) (by as_aux_lemma => kernel_rfl)) ?_
               refine gx_kA (.bool true) w448 ?_
               refine gx_nil ?_
               refine gx_thenN ?_
               exact ⟨true, selfA_i (by as_aux_lemma => kernel_rfl), (Option.some.inj hE442), hS449⟩
              ·refine gx_vA (.bool false) w448 (run_boolE (ne_no h453) (by as_aux_lemma => kernel_rfl)) ?_
               refine gx_kA (.bool false) w448 ?_
               refine gx_nil ?_
               refine gx_thenN ?_
               exact ⟨false, selfA_i (by as_aux_lemma => kernel_rfl), (Option.some.inj hE442), hS449⟩
             | false =>
              try dsimp only at hE442
              refine gx_oA (gx_oA (gx_oA (gx_oA (gx_oA (gx_oA (gx_kA (.bool false) w448 ?_))))))
              refine gx_nil ?_
              refine gx_thenN ?_
              exact ⟨false, selfA_i (by as_aux_lemma => kernel_rfl), (Option.some.inj hE442), hS449⟩
            ·rintro _ w437 ⟨b440, hq444, rfl, hS438⟩
             obtain ⟨u439, rfl⟩ := selfA_u hq444
             try dsimp only at hO443
             obtain ⟨c458, hE459, hO460⟩ := bind_in hO443
             refine gx_part (l1 := [_, _, _, _]) (fun a w => ∃ (b457 : Bool), selfA (fun u456 => ⟨((u61 0) :: (.int .u8 p1) :: (.int .u8 p2) :: (.int .u8 p3) :: un 4 ((u321 8) :: (.slice A34 l33.length c35) :: (.slice A44 l43.length c45) :: (.slice A54 l53.length c55) :: (.int .i64 x98) :: (.int .u8 x80) :: (.int .i64 x99) :: (.bool false) :: dd u5 16 8 (dd u61 24 3 ((.int .u8 p1) :: (.int .u8 p2) :: (.int .u8 p3) :: dd u61 30 2 ((.int .u8 p1) :: dd u61 33 13 (dd u79 46 3 ((.int .i64 x99) :: (u321 50) :: (.int .i64 ((l43.length : Nat) : Int)) :: (.bool true) :: dd u97 53 2 ((u321 55) :: (.int .i64 x99) :: (.pointer (Option.map (fun (p : Addr) => p.add (Int.toNat x99 * 1)) A44)) :: (.int .u8 x111) :: (.bool false) :: (u321 60) :: (.int .i64 x99) :: (.pointer (Option.map (fun (p : Addr) => p.add (Int.toNat x99 * 1)) A44)) :: (.int .u8 x307) :: (.bool false) :: dd u97 65 5 (dd u321 70 69 ((u439 139) :: (.int .i64 x99) :: (.pointer (Option.map (fun (p : Addr) => p.add (Int.toNat x99 * 1)) A34)) :: (.int .u8 x435) :: dd u439 143 8 ((.bool b440) :: dd u456 152 3 ((.bool b457) :: dd u97 156 19 (undef :: []))))))))))))).toArray, []⟩) a ∧ b457 = c458 ∧ St [] w0 w [rowE .u8 23 A34 c35 l33, rowE .u8 23 A44 c45 l43, rowE .u8 5 A54 c55 l53]) rfl ?_ ?_
             ·refine gx_kA (.bool b440) w437 ?_
              cases b440 with
              | true =>
               try dsimp only at hE459
               refine gx_kA (.int .i64 x99) w437 ?_
               rcases if_in hE459 with ⟨h462, hE459⟩ | ⟨h462, hE459⟩
               ·refine gx_vA (.bool true) w437 (run_boolE (decide_eq_true h462) (by as_aux_lemma => kernel_rfl)) ?_
                refine gx_kA (.bool true) w437 ?_
                refine gx_nil ?_
                refine gx_thenN ?_
                exact ⟨true, selfA_i (by as_aux_lemma => kernel_rfl), (Option.some.inj hE459), hS438⟩
               ·refine gx_vA (.bool false) w437 (run_boolE (decide_eq_false h462) (by as_aux_lemma => kernel_rfl)) ?_
                refine gx_kA (.bool false) w437 ?_
                refine gx_nil ?_
                refine gx_thenN ?_
                exact ⟨false, selfA_i (by as_aux_lemma => kernel_rfl), (Option.some.inj hE459), hS438⟩
              | false =>
               try dsimp only at hE459
               refine gx_oA (gx_oA (gx_kA (.bool false) w437 ?_))
               refine gx_nil ?_
               refine gx_thenN ?_
               exact ⟨false, selfA_i (by as_aux_lemma => kernel_rfl), (Option.some.inj hE459), hS438⟩
             ·rintro _ w454 ⟨b457, hq461, rfl, hS455⟩
              obtain ⟨u456, rfl⟩ := selfA_u hq461
              try dsimp only at hO460
              obtain ⟨c467, hE468, hO469⟩ := bind_in hO460
              refine gx_part (l1 := [_, _, _, _]) (fun a w => ∃ (b466 : Bool), selfA (fun u465 => ⟨((u61 0) :: (.int .u8 p1) :: (.int .u8 p2) :: (.int .u8 p3) :: un 4 ((u321 8) :: (.slice A34 l33.length c35) :: (.slice A44 l43.length c45) :: (.slice A54 l53.length c55) :: (.int .i64 x98) :: (.int .u8 x80) :: (.int .i64 x99) :: (.bool false) :: dd u5 16 8 (dd u61 24 3 ((.int .u8 p1) :: (.int .u8 p2) :: (.int .u8 p3) :: dd u61 30 2 ((.int .u8 p1) :: dd u61 33 13 (dd u79 46 3 ((.int .i64 x99) :: (u321 50) :: (.int .i64 ((l43.length : Nat) : Int)) :: (.bool true) :: dd u97 53 2 ((u321 55) :: (.int .i64 x99) :: (.pointer (Option.map (fun (p : Addr) => p.add (Int.toNat x99 * 1)) A44)) :: (.int .u8 x111) :: (.bool false) :: (u321 60) :: (.int .i64 x99) :: (.pointer (Option.map (fun (p : Addr) => p.add (Int.toNat x99 * 1)) A44)) :: (.int .u8 x307) :: (.bool false) :: dd u97 65 5 (dd u321 70 69 ((u439 139) :: (.int .i64 x99) :: (.pointer (Option.map (fun (p : Addr) => p.add (Int.toNat x99 * 1)) A34)) :: (.int .u8 x435) :: dd u439 143 8 ((.bool b440) :: dd u456 152 3 ((.bool b457) :: dd u465 156 3 ((.bool b466) :: dd u97 160 15 (undef :: [])))))))))))))).toArray, []⟩) a ∧ b466 = c467 ∧ St [] w0 w [rowE .u8 23 A34 c35 l33, rowE .u8 23 A44 c45 l43, rowE .u8 5 A54 c55 l53]) rfl ?_ ?_
              ·refine gx_kA (.bool b457) w454 ?_
               cases b457 with
               | true =>
                try dsimp only at hE468
                refine gx_kA (.int .i64 x98) w454 ?_
                rcases if_in hE468 with ⟨h471, hE468⟩ | ⟨h471, hE468⟩
                ·refine gx_vA (.bool true) w454 (run_boolE (decide_eq_true h471) (by as_aux_lemma => kernel_rfl)) ?_
                 refine gx_kA (.bool true) w454 ?_
                 refine gx_nil ?_
                 refine gx_thenN ?_
                 exact ⟨true, selfA_i (by as_aux_lemma => kernel_rfl), (Option.some.inj hE468), hS455⟩
                ·refine gx_vA (.bool false) w454 (run_boolE (decide_eq_false h471) (by as_aux_lemma => kernel_rfl)) ?_
                 refine gx_kA (.bool false) w454 ?_
                 refine gx_nil ?_
                 refine gx_thenN ?_
                 exact ⟨false, selfA_i (by as_aux_lemma => kernel_rfl), (Option.some.inj hE468), hS455⟩
               | false =>
                try dsimp only at hE468
                refine gx_oA (gx_oA (gx_kA (.bool false) w454 ?_))
                refine gx_nil ?_
                refine gx_thenN ?_
                exact ⟨false, selfA_i (by as_aux_lemma => kernel_rfl), (Option.some.inj hE468), hS455⟩
              ·rintro _ w463 ⟨b466, hq470, rfl, hS464⟩
               obtain ⟨u465, rfl⟩ := selfA_u hq470
               try dsimp only at hO469
               refine gx_kA (.bool b466) w463 ?_
               cases b466 with
               | true =>
                try dsimp only at hO469
                refine gx_kA (.int .i64 x98) w463 ?_
                rcases if_in hO469 with ⟨h472, hO469⟩ | ⟨h472, hO469⟩
                ·refine gx_vA (.bool true) w463 (run_boolE (decide_eq_true h472) (by as_aux_lemma => kernel_rfl)) ?_
                 refine gx_kA (.slice A44 l43.length c45) w463 (gx_kA (.int .i64 x99) w463 ?_)
                 obtain ⟨x473, hx474, hO469⟩ := bind_in hO469
                 refine gx_vA (.pointer (Option.map (fun (p : Addr) => p.add (Int.toNat x99 * 1)) A44)) w463 (run_ixaddr (E := 23) (s := 1) (k := .i64) (c := c45) rfl (by as_aux_lemma => kernel_rfl) (by as_aux_lemma => kernel_rfl) (by as_aux_lemma => kernel_rfl) (fun _ => by kernel_rfl) (ix_in hx474).1 (ix_in hx474).2.1 (num_nil (hS464.row 1 rfl).1)) ?_
                 refine gx_vA (.int .u8 x473) w463 (run_loadix rfl (by as_aux_lemma => kernel_rfl) (fun _ => by kernel_rfl) (hS464.row 1 rfl).1 hx474) ?_
                 rcases if_in hO469 with ⟨h475, hO469⟩ | ⟨h475, hO469⟩
                 ·refine gx_vA (.bool true) w463 (run_boolE (decide_eq_true h475) (by as_aux_lemma => kernel_rfl)) ?_
                  refine gx_kA (.bool false) w463 (gx_kA (.bool false) w463 ?_)
                  refine gx_nil ?_
                  refine gx_thenN ?_
                  refine hK434 _ _ ?_
                  refine gx_no (by as_aux_lemma => kernel_rfl) ?_
                  refine gx_pass ?_
                  refine gx_thenN ?_
                  exact ⟨selfA_i (by as_aux_lemma => kernel_rfl), (Option.some.inj hO469), hS464⟩
                 ·refine gx_vA (.bool false) w463 (run_boolE (decide_eq_false h475) (by as_aux_lemma => kernel_rfl)) ?_
                  refine gx_kA (.bool true) w463 (gx_kA (.bool true) w463 ?_)
                  refine gx_nil ?_
                  refine gx_thenN ?_
                  refine hK434 _ _ ?_
                  refine gx_yes (by as_aux_lemma => kernel_rfl) ?_
                  refine gx_seq (fun K476 hK477 => ?_)
                  refine gx_region ?_
                  refine gx_kA (.bool false) w463 ?_
                  refine gx_nil ?_
                  refine gx_thenN ?_
                  refine hK477 _ _ ?_
                  refine gx_ret ?_
                  refine gx_thenR ?_
                  obtain rfl := Option.some.inj hO469
                  try dsimp only at hO432
                  refine gx_blkR ?_
                  refine gx_thenR ?_
                  refine gx_thenR ?_
                  refine gx_blkR ?_
                  refine gx_thenR ?_
                  obtain rfl := Option.some.inj hO432
                  try dsimp only at hO92
                  obtain rfl := Option.some.inj hO92
                  exact gx_fin (.bool false) (by as_aux_lemma => kernel_rfl) (by as_aux_lemma => kernel_rfl) ⟨_, rfl, rfl, (hS464.pick [] rfl rfl)⟩
                ·refine gx_vA (.bool false) w463 (run_boolE (decide_eq_false h472) (by as_aux_lemma => kernel_rfl)) ?_
                 refine gx_kA (.slice A44 l43.length c45) w463 (gx_kA (.int .i64 x99) w463 ?_)
                 obtain ⟨x478, hx479, hO469⟩ := bind_in hO469
                 refine gx_vA (.pointer (Option.map (fun (p : Addr) => p.add (Int.toNat x99 * 1)) A44)) w463 (run_ixaddr (E := 23) (s := 1) (k := .i64) (c := c45) rfl (by as_aux_lemma => kernel_rfl) (by as_aux_lemma => kernel_rfl) (by as_aux_lemma => kernel_rfl) (fun _ => by kernel_rfl) (ix_in hx479).1 (ix_in hx479).2.1 (num_nil (hS464.row 1 rfl).1)) ?_
                 refine gx_vA (.int .u8 x478) w463 (run_loadix rfl (by as_aux_lemma => kernel_rfl) (fun _ => by kernel_rfl) (hS464.row 1 rfl).1 hx479) ?_
                 rcases if_in hO469 with ⟨h480, hO469⟩ | ⟨h480, hO469⟩
                 ·refine gx_vA (.bool true) w463 (run_boolE (decide_eq_true h480) (by as_aux_lemma => kernel_rfl)) ?_
                  refine gx_kA (.bool true) w463 (gx_kA (.bool true) w463 ?_)
                  refine gx_nil ?_
                  refine gx_thenN ?_
                  refine hK434 _ _ ?_
                  refine gx_yes (by as_aux_lemma => kernel_rfl) ?_
                  refine gx_seq (fun K481 hK482 => ?_)
                  refine gx_region ?_
                  refine gx_kA (.bool false) w463 ?_
                  refine gx_nil ?_
                  refine gx_thenN ?_
                  refine hK482 _ _ ?_
                  refine gx_ret ?_
                  refine gx_thenR ?_
                  obtain rfl := Option.some.inj hO469
                  try dsimp only at hO432
                  refine gx_blkR ?_
                  refine gx_thenR ?_
                  refine gx_thenR ?_
                  refine gx_blkR ?_
                  refine gx_thenR ?_
                  obtain rfl := Option.some.inj hO432
                  try dsimp only at hO92
                  obtain rfl := Option.some.inj hO92
                  exact gx_fin (.bool false) (by as_aux_lemma => kernel_rfl) (by as_aux_lemma => kernel_rfl) ⟨_, rfl, rfl, (hS464.pick [] rfl rfl)⟩
                 ·refine gx_vA (.bool false) w463 (run_boolE (decide_eq_false h480) (by as_aux_lemma => kernel_rfl)) ?_
                  refine gx_kA (.bool false) w463 (gx_kA (.bool false) w463 ?_)
                  refine gx_nil ?_
                  refine gx_thenN ?_
                  refine hK434 _ _ ?_
                  refine gx_no (by as_aux_lemma => kernel_rfl) ?_
                  refine gx_pass ?_
                  refine gx_thenN ?_
                  exact ⟨selfA_i (by as_aux_lemma => kernel_rfl), (Option.some.inj hO469), hS464⟩
               | false =>
                try dsimp only at hO469
                refine gx_oA (gx_oA (gx_oA (gx_oA (gx_oA (gx_oA (gx_oA (gx_oA ?_)))))))
                refine gx_kA (.bool false) w463 ?_
                refine gx_nil ?_
                refine gx_thenN ?_
                refine hK434 _ _ ?_
                refine gx_no (by as_aux_lemma => kernel_rfl) ?_
                refine gx_pass ?_
                refine gx_thenN ?_
                exact ⟨selfA_i (by as_aux_lemma => kernel_rfl), (Option.some.inj hO469), hS464⟩
           ·rintro _ w427 ⟨hq490, rfl, hS428⟩
            obtain ⟨u429, rfl⟩ := selfA_u hq490
            try dsimp only at hO432
            refine gx_seq (fun K483 hK484 => ?_)
            refine gx_region ?_
            refine gx_kA (.int .i64 2) w427 ?_
            refine gx_nil ?_
            refine gx_thenN ?_
            refine hK484 _ _ ?_
            refine gx_seq (fun K485 hK486 => ?_)
            refine gx_region ?_
            refine gx_kA (.slice A44 l43.length c45) w427 (gx_kA (.int .i64 x99) w427 ?_)
            obtain ⟨x487, hx488, hO432⟩ := bind_in hO432
            refine gx_vA (.pointer (Option.map (fun (p : Addr) => p.add (Int.toNat x99 * 1)) A44)) w427 (run_ixaddr (E := 23) (s := 1) (k := .i64) (c := c45) rfl (by as_aux_lemma => kernel_rfl) (by as_aux_lemma => kernel_rfl) (by as_aux_lemma => kernel_rfl) (fun _ => by kernel_rfl) (ix_in hx488).1 (ix_in hx488).2.1 (num_nil (hS428.row 1 rfl).1)) ?_
            refine gx_vA (.int .u8 x487) w427 (run_loadix rfl (by as_aux_lemma => kernel_rfl) (fun _ => by kernel_rfl) (hS428.row 1 rfl).1 hx488) ?_
            rcases if_in hO432 with ⟨h489, hO432⟩ | ⟨h489, hO432⟩
            ·refine gx_vA (.bool true) w427 (run_boolE (decide_eq_true h489) (by as_aux_lemma => kernel_rfl)) ?_
             refine gx_nil ?_
             refine gx_thenN ?_
             refine hK486 _ _ ?_
             refine gx_yes (by as_aux_lemma => kernel_rfl) ?_
             refine gx_region ?_
             refine gx_kA (.int .i64 1) w427 ?_
             refine gx_nil ?_
             refine gx_blkN ?_
             refine gx_thenN ?_
             refine hK108 _ _ ?_
             refine gx_region ?_
             refine gx_kA (.int .i64 x99) w427 (gx_kA (.int .i64 (IntKind.i64.wrap (x99 + 1))) w427 (gx_kA (.int .i64 (IntKind.i64.wrap (x99 + 1))) w427 ?_))
             refine gx_nil ?_
             refine gx_thenN ?_
             exact ⟨k100, Nat.lt_succ_self k100, 1, (IntKind.i64.wrap (x99 + 1)), selfA_i (by as_aux_lemma => kernel_rfl), hO432, hS428⟩
            ·refine gx_vA (.bool false) w427 (run_boolE (decide_eq_false h489) (by as_aux_lemma => kernel_rfl)) ?_
             refine gx_nil ?_
             refine gx_thenN ?_
             refine hK486 _ _ ?_
             refine gx_no (by as_aux_lemma => kernel_rfl) ?_
             refine gx_pass ?_
             refine gx_blkN ?_
             refine gx_thenN ?_
             refine hK108 _ _ ?_
             refine gx_region ?_
             refine gx_kA (.int .i64 x99) w427 (gx_kA (.int .i64 (IntKind.i64.wrap (x99 + 1))) w427 (gx_kA (.int .i64 (IntKind.i64.wrap (x99 + 1))) w427 ?_))
             refine gx_nil ?_
             refine gx_thenN ?_
             exact ⟨k100, Nat.lt_succ_self k100, 2, (IntKind.i64.wrap (x99 + 1)), selfA_i (by as_aux_lemma => kernel_rfl), hO432, hS428⟩
       ·refine gx_vA (.bool false) w95 (run_boolE (decide_eq_false h106) (by as_aux_lemma => kernel_rfl)) ?_
        refine gx_nil ?_
        refine gx_thenN ?_
        refine hK105 _ _ ?_
        refine gx_no (by as_aux_lemma => kernel_rfl) ?_
        refine gx_exit ?_
        refine gx_thenE ?_
        refine gx_thenE ?_
        refine gx_blkE ?_
        refine gx_thenN ?_
        exact ⟨selfA_i (by as_aux_lemma => kernel_rfl), (Option.some.inj hL101), (hS96.pick [] rfl rfl)⟩
    ·rintro _ w87 ⟨hq501, rfl, hS88⟩
     obtain ⟨u89, rfl⟩ := selfA_u hq501
     try dsimp only at hO92
     refine gx_seq (fun K493 hK494 => ?_)
     refine gx_region ?_
     have hP495 : St _ _ w87 ([] ++ []) := hS88
     obtain ⟨b497, hc496, hO92⟩ := bind_in hO92
     try dsimp only at hO92
     refine gx_cA (kWorks_R b497 w87) (kWorks_ok N  _ hc496 w87 ) ?_
     rintro _ w498 ⟨rfl, hT500⟩
     have hS499 : St _ _ w498 [] := hS88.take _ hT500
     refine gx_kA (.bool b497) w498 ?_
     refine gx_nil ?_
     refine gx_thenN ?_
     refine hK494 _ _ ?_
     refine gx_ret ?_
     obtain rfl := Option.some.inj hO92
     exact gx_fin (.bool b497) (by as_aux_lemma => kernel_rfl) (by as_aux_lemma => kernel_rfl) ⟨_, rfl, rfl, hS499⟩

end Go.Proofs.Ytdpcaidhpccaiaa

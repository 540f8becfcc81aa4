/-
  EmbedPlain, walked.
-/
import Derived.Test.YtapfdafmhiilkaaF0
namespace Go.Proofs.Ytapfdafmhiilkaa
open Go Go.RowKit
set_option linter.unusedVariables false

def fPlain_L1 (N : Nat) (p0 : List Int) : Nat → (List Int) → Int → Option (List Int)
  | 0, _, _ => none
  | k50+1, l48, x49 => (if x49 < ((p0.length : Nat) : Int) then ((((ix p0 x49).bind fun x66 => (((if x66 ≥ 1 then ((ix p0 x49).bind fun x77 => (if x77 ≤ 14 then some (true) else some (false))) else some (false)) : Option (Bool)).bind fun b71 => (((match b71 with | true => some (true) | false => ((ix p0 x49).bind fun x88 => (if x88 = 23 then some (true) else some (false)))) : Option (Bool)).bind fun b83 => (match b83 with | true => some (true) | false => ((ix p0 x49).bind fun x91 => (if x91 = 19 then some (true) else some (false))))))) : Option (Bool)).bind fun b62 => (match b62 with | true => ((ix p0 x49).bind fun x94 => ((apx l48 ([x94])).bind fun l98 => fPlain_L1 N p0 k50 l98 (IntKind.i64.wrap (x49 + 1)))) | false => fPlain_L1 N p0 k50 l48 (IntKind.i64.wrap (x49 + 1)))) else some (l48))
def fPlain_L2 (N : Nat) (l36 : List Int) (l111 : List Int) (l114 : List Int) (x117 : Int) : Nat → Int → Option (Ctl (Unit) (Bool))
  | 0, _ => none
  | k191+1, x190 => (if x190 < ((l36.length : Nat) : Int) then ((ix l111 x190).bind fun x204 => (((if x204 ≠ x117 then some (true) else ((ix l36 x190).bind fun x216 => (((if x216 = 19 then ((ix l114 x190).bind fun x228 => (if x228 ≠ 10 then some (true) else some (false))) else some (false)) : Option (Bool)).bind fun b221 => some (b221)))) : Option (Bool)).bind fun b209 => (match b209 with | true => some (Ctl.ret false) | false => ((ix l36 x190).bind fun x233 => (if x233 ≠ 19 then ((ix l114 x190).bind fun x236 => ((ix l36 x190).bind fun x238 => (if x236 ≠ x238 then some (Ctl.ret false) else fPlain_L2 N l36 l111 l114 x117 k191 (IntKind.i64.wrap (x190 + 1))))) else fPlain_L2 N l36 l111 l114 x117 k191 (IntKind.i64.wrap (x190 + 1))))))) else some (Ctl.go ()))
def fPlain (N : Nat) (p0 : List Int) (p1 : Int) : Option (Bool) :=
  (((if ((p0.length : Nat) : Int) > 2000 then ((kWorks N ).bind fun b16 => some (Ctl.ret b16)) else (if p1 > 2 then ((kWorks N ).bind fun b25 => some (Ctl.ret b25)) else some (Ctl.go ()))) : Option (Ctl (Unit) (Bool))).bind fun | Ctl.go () => ((fPlain_L1 N p0 N ([]) 0 : Option (List Int)).bind fun l36 => ((pLevels N l36 p1).bind fun (l111, l114, x117, x118) => (((((if x118 ≠ 0 then some (true) else (if ((l111.length : Nat) : Int) ≠ ((l36.length : Nat) : Int) then some (true) else some (false))) : Option (Bool)).bind fun b133 => (((match b133 with | true => some (true) | false => (if ((l114.length : Nat) : Int) ≠ ((l36.length : Nat) : Int) then some (true) else some (false))) : Option (Bool)).bind fun b143 => (((match b143 with | true => some (true) | false => (((if p1 < 2 then (if x117 ≠ p1 then some (true) else some (false)) else some (false)) : Option (Bool)).bind fun b160 => some (b160))) : Option (Bool)).bind fun b152 => (match b152 with | true => some (Ctl.ret false) | false => (if p1 = 2 then ((pBase N l36).bind fun x172 => (if x117 ≠ x172 then some (Ctl.ret false) else some (Ctl.go ()))) else some (Ctl.go ())))))) : Option (Ctl (Unit) (Bool))).bind fun | Ctl.go () => ((fPlain_L2 N l36 l111 l114 x117 N 0 : Option (Ctl (Unit) (Bool))).bind fun | Ctl.go () => ((kWorks N ).bind fun b248 => some b248) | Ctl.ret r => some r) | Ctl.ret r => some r))) | Ctl.ret r => some r)

set_option linter.unusedVariables false in
def fPlain_R (r : Bool) (w0 : World) (v : Value) (w : World) : Prop := v = .bool r ∧ St [] w0 w []

set_option maxRecDepth 100000 in
set_option maxHeartbeats 4000000 in
theorem fPlain_ok (N : Nat) (p0 : List Int) (p1 : Int) (A0 : Option Addr) (c0 : Nat) (r : Bool) (hF : fPlain N p0 p1 = some r) (w0 : World) (hv0 : Vw [] .u8 w0 A0 c0 p0) :
    Calls Try.prog 8 #[.slice A0 p0.length c0, .int .u8 p1] w0 fun e w => ∃ v, e = .returned v ∧ fPlain_R r w0 v w := by
  have hS0 := St.start w0
  unfold fPlain at hF
  refine calls_of Try.func8 rfl ⟨((.slice A0 p0.length c0) :: (.int .u8 p1) :: un 145 ([])).toArray, []⟩ (by kernel_rfl) ?_
  refine gx_seq (fun K1 hK2 => ?_)
  refine gx_region ?_
  refine gx_val (.bool false) w0 (by kernel_rfl) (by kernel_rfl) ?_
  refine gx_nil ?_
  refine gx_thenN ?_
  refine hK2 _ _ ?_
  obtain ⟨c6, hE7, hO8⟩ := bind_in hF
  refine gx_cut (fun a w => selfA (fun u5 => ⟨((.slice A0 p0.length c0) :: (.int .u8 p1) :: undef :: undef :: (u5 4) :: un 7 (dd u5 12 8 (un 127 ([])))).toArray, []⟩) a ∧ Ctl.go () = c6 ∧ St [] w0 w []) ?_ ?_
  · refine gx_seq (fun K9 hK10 => ?_)
    refine gx_region ?_
    refine gx_val (.slice A0 p0.length c0) w0 (by kernel_rfl) (by kernel_rfl) ?_
    refine gx_val (.int .i64 ((p0.length : Nat) : Int)) w0 (by kernel_rfl) (by kernel_rfl) ?_
    rcases if_in hE7 with ⟨h11, hE7⟩ | ⟨h11, hE7⟩
    · refine gx_val (.bool true) w0 (by kernel_rfl) (run_boolE (decide_eq_true h11) (by kernel_rfl)) ?_
      refine gx_val (.bool true) w0 (by kernel_rfl) (by kernel_rfl) ?_
      refine gx_off (by kernel_rfl) ?_
      refine gx_off (by kernel_rfl) ?_
      refine gx_val (.bool true) w0 (by kernel_rfl) (by kernel_rfl) ?_
      refine gx_nil ?_
      refine gx_thenN ?_
      refine hK10 _ _ ?_
      refine gx_yes (by kernel_rfl) ?_
      refine gx_seq (fun K12 hK13 => ?_)
      refine gx_region ?_
      have hP14 : St _ _ w0 ([] ++ []) := hS0
      obtain ⟨b16, hc15, hE7⟩ := bind_in hE7
      try dsimp only at hE7
      refine gx_call (kWorks_R b16 w0) (by kernel_rfl) (by kernel_rfl) (kWorks_ok N  _ hc15 w0 ) ?_
      rintro _ w17 ⟨rfl, hT19⟩
      have hS18 : St _ _ w17 [] := hS0.take _ hT19
      refine gx_val (.bool b16) w17 (by kernel_rfl) (by kernel_rfl) ?_
      refine gx_nil ?_
      refine gx_thenN ?_
      refine hK13 _ _ ?_
      refine gx_ret ?_
      refine gx_thenR ?_
      obtain rfl := Option.some.inj hE7
      try dsimp only at hO8
      obtain rfl := Option.some.inj hO8
      exact gx_fin (.bool b16) (by kernel_rfl) (by kernel_rfl) ⟨_, rfl, rfl, hS18⟩
    · refine gx_val (.bool false) w0 (by kernel_rfl) (run_boolE (decide_eq_false h11) (by kernel_rfl)) ?_
      refine gx_val (.bool false) w0 (by kernel_rfl) (by kernel_rfl) ?_
      refine gx_val (.int .u8 p1) w0 (by kernel_rfl) (by kernel_rfl) ?_
      rcases if_in hE7 with ⟨h20, hE7⟩ | ⟨h20, hE7⟩
      · refine gx_val (.bool true) w0 (by kernel_rfl) (run_boolE (decide_eq_true h20) (by kernel_rfl)) ?_
        refine gx_val (.bool true) w0 (by kernel_rfl) (by kernel_rfl) ?_
        refine gx_nil ?_
        refine gx_thenN ?_
        refine hK10 _ _ ?_
        refine gx_yes (by kernel_rfl) ?_
        refine gx_seq (fun K21 hK22 => ?_)
        refine gx_region ?_
        have hP23 : St _ _ w0 ([] ++ []) := hS0
        obtain ⟨b25, hc24, hE7⟩ := bind_in hE7
        try dsimp only at hE7
        refine gx_call (kWorks_R b25 w0) (by kernel_rfl) (by kernel_rfl) (kWorks_ok N  _ hc24 w0 ) ?_
        rintro _ w26 ⟨rfl, hT28⟩
        have hS27 : St _ _ w26 [] := hS0.take _ hT28
        refine gx_val (.bool b25) w26 (by kernel_rfl) (by kernel_rfl) ?_
        refine gx_nil ?_
        refine gx_thenN ?_
        refine hK22 _ _ ?_
        refine gx_ret ?_
        refine gx_thenR ?_
        obtain rfl := Option.some.inj hE7
        try dsimp only at hO8
        obtain rfl := Option.some.inj hO8
        exact gx_fin (.bool b25) (by kernel_rfl) (by kernel_rfl) ⟨_, rfl, rfl, hS27⟩
      · refine gx_val (.bool false) w0 (by kernel_rfl) (run_boolE (decide_eq_false h20) (by kernel_rfl)) ?_
        refine gx_val (.bool false) w0 (by kernel_rfl) (by kernel_rfl) ?_
        refine gx_nil ?_
        refine gx_thenN ?_
        refine hK10 _ _ ?_
        refine gx_no (by kernel_rfl) ?_
        refine gx_pass ?_
        refine gx_thenN ?_
        exact ⟨selfA_i (by kernel_rfl), (Option.some.inj hE7), hS0⟩
  · rintro _ w3 ⟨hq255, rfl, hS4⟩
    obtain ⟨u5, rfl⟩ := selfA_u hq255
    try dsimp only at hO8
    refine gx_seq (fun K29 hK30 => ?_)
    refine gx_region ?_
    refine gx_val (.slice none 0 0) w3 (by kernel_rfl) (by kernel_rfl) ?_
    refine gx_nil ?_
    refine gx_thenN ?_
    refine hK30 _ _ ?_
    obtain ⟨c37, hE38, hO39⟩ := bind_in hO8
    refine gx_cut (fun a w => ∃ (l36 : List Int) (A34 : Option Addr) (c35 : Nat), selfA (fun u33 => ⟨((u33 0) :: (.int .u8 p1) :: undef :: undef :: (u5 4) :: (.slice A34 l36.length c35) :: (u33 6) :: un 5 (dd u5 12 8 (dd u33 20 39 (un 88 ([]))))).toArray, []⟩) a ∧ l36 = c37 ∧ St [] w0 w [rowE .u8 26 A34 c35 l36]) ?_ ?_
    · refine gx_seq (fun K40 hK41 => ?_)
      refine gx_region ?_
      refine gx_val (.int .i64 0) w3 (by kernel_rfl) (by kernel_rfl) ?_
      refine gx_nil ?_
      refine gx_thenN ?_
      refine hK41 _ _ ?_
      refine gx_block ?_
      have hS42 : St _ _ w3 [rowE .u8 26 none 0 ([])] := hS4.nilrow .u8 26
      refine gx_loop (fun k a w => ∃ (l48 : List Int) (x49 : Int) (A46 : Option Addr) (c47 : Nat), selfA (fun u45 => ⟨((.slice A0 p0.length c0) :: (.int .u8 p1) :: undef :: undef :: (u5 4) :: (.slice A46 l48.length c47) :: (.int .i64 x49) :: un 5 (dd u5 12 8 (dd u45 20 39 (un 88 ([]))))).toArray, []⟩) a ∧ fPlain_L1 N p0 k l48 x49 = some c37 ∧ St [] w0 w [rowE .u8 26 A46 c47 l48]) N ?_ ?_
      · exact ⟨([]), 0, none, 0, selfA_i (by kernel_rfl), hE38, hS42⟩
      · rintro k50 _ w43 ⟨l48, x49, A46, c47, hq106, hL51, hS44⟩
        obtain ⟨u45, rfl⟩ := selfA_u hq106
        cases k50 with
        | zero => cases hL51
        | succ k50 =>
          rw [fPlain_L1] at hL51
          refine gx_seq (fun K52 hK53 => ?_)
          refine gx_seq (fun K54 hK55 => ?_)
          refine gx_region ?_
          refine gx_val (.int .i64 x49) w43 (by kernel_rfl) (by kernel_rfl) ?_
          refine gx_val (.slice A0 p0.length c0) w43 (by kernel_rfl) (by kernel_rfl) ?_
          refine gx_val (.int .i64 ((p0.length : Nat) : Int)) w43 (by kernel_rfl) (by kernel_rfl) ?_
          rcases if_in hL51 with ⟨h56, hL51⟩ | ⟨h56, hL51⟩
          · refine gx_val (.bool true) w43 (by kernel_rfl) (run_boolE (decide_eq_true h56) (by kernel_rfl)) ?_
            refine gx_nil ?_
            refine gx_thenN ?_
            refine hK55 _ _ ?_
            refine gx_yes (by kernel_rfl) ?_
            refine gx_pass ?_
            refine gx_thenN ?_
            refine hK53 _ _ ?_
            refine gx_seq (fun K57 hK58 => ?_)
            refine gx_block ?_
            obtain ⟨c63, hE64, hO65⟩ := bind_in hL51
            refine gx_cut (fun a w => ∃ (b62 : Bool), selfA (fun u61 => ⟨((.slice A0 p0.length c0) :: (.int .u8 p1) :: undef :: undef :: (u5 4) :: (.slice A46 l48.length c47) :: (.int .i64 x49) :: un 5 (dd u5 12 8 ((.int .i64 x49) :: (u61 21) :: (.int .i64 ((p0.length : Nat) : Int)) :: (.bool true) :: dd u45 24 2 (dd u61 26 25 ((.bool b62) :: dd u45 52 7 (un 88 ([]))))))).toArray, []⟩) a ∧ b62 = c63 ∧ St [] w0 w [rowE .u8 26 A46 c47 l48]) ?_ ?_
            · refine gx_region ?_
              refine gx_val (.slice A0 p0.length c0) w43 (by kernel_rfl) (by kernel_rfl) ?_
              refine gx_val (.int .i64 x49) w43 (by kernel_rfl) (by kernel_rfl) ?_
              obtain ⟨x66, hx67, hE64⟩ := bind_in hE64
              refine gx_val (.pointer (Option.map (fun (p : Addr) => p.add (Int.toNat x49 * 1)) A0)) w43 (by kernel_rfl) (run_ixaddr (E := 26) (s := 1) (k := .i64) (c := c0) rfl (by kernel_rfl) (by kernel_rfl) (by kernel_rfl) (fun _ => by kernel_rfl) (ix_in hx67).1 (ix_in hx67).2.1 (num_nil (hS44.view hv0))) ?_
              refine gx_val (.int .u8 x66) w43 (by kernel_rfl) (run_loadix rfl (by kernel_rfl) (fun _ => by kernel_rfl) (hS44.view hv0) hx67) ?_
              obtain ⟨c72, hE73, hO74⟩ := bind_in hE64
              refine gx_part (l1 := [_, _, _, _, _, _, _, _]) (fun a w => ∃ (b71 : Bool), selfA (fun u70 => ⟨((.slice A0 p0.length c0) :: (.int .u8 p1) :: undef :: undef :: (u5 4) :: (.slice A46 l48.length c47) :: (.int .i64 x49) :: un 5 (dd u5 12 8 ((.int .i64 x49) :: (u70 21) :: (.int .i64 ((p0.length : Nat) : Int)) :: (.bool true) :: dd u45 24 2 ((u70 26) :: (.int .i64 x49) :: (.pointer (Option.map (fun (p : Addr) => p.add (Int.toNat x49 * 1)) A0)) :: (.int .u8 x66) :: dd u70 30 7 ((.bool b71) :: dd u45 38 21 (un 88 ([]))))))).toArray, []⟩) a ∧ b71 = c72 ∧ St [] w0 w [rowE .u8 26 A46 c47 l48]) rfl ?_ ?_
              · rcases if_in hE73 with ⟨h76, hE73⟩ | ⟨h76, hE73⟩
                · refine gx_val (.bool true) w43 (by kernel_rfl) (run_boolE (decide_eq_true h76) (by kernel_rfl)) ?_
                  refine gx_val (.bool true) w43 (by kernel_rfl) (by kernel_rfl) ?_
                  refine gx_val (.slice A0 p0.length c0) w43 (by kernel_rfl) (by kernel_rfl) ?_
                  refine gx_val (.int .i64 x49) w43 (by kernel_rfl) (by kernel_rfl) ?_
                  obtain ⟨x77, hx78, hE73⟩ := bind_in hE73
                  refine gx_val (.pointer (Option.map (fun (p : Addr) => p.add (Int.toNat x49 * 1)) A0)) w43 (by kernel_rfl) (run_ixaddr (E := 26) (s := 1) (k := .i64) (c := c0) rfl (by kernel_rfl) (by kernel_rfl) (by kernel_rfl) (fun _ => by kernel_rfl) (ix_in hx78).1 (ix_in hx78).2.1 (num_nil (hS44.view hv0))) ?_
                  refine gx_val (.int .u8 x77) w43 (by kernel_rfl) (run_loadix rfl (by kernel_rfl) (fun _ => by kernel_rfl) (hS44.view hv0) hx78) ?_
                  rcases if_in hE73 with ⟨h79, hE73⟩ | ⟨h79, hE73⟩
                  · refine gx_val (.bool true) w43 (by kernel_rfl) (run_boolE (decide_eq_true h79) (by kernel_rfl)) ?_
                    refine gx_val (.bool true) w43 (by kernel_rfl) (by kernel_rfl) ?_
                    refine gx_nil ?_
                    refine gx_thenN ?_
                    exact ⟨true, selfA_i (by kernel_rfl), (Option.some.inj hE73), hS44⟩
                  · refine gx_val (.bool false) w43 (by kernel_rfl) (run_boolE (decide_eq_false h79) (by kernel_rfl)) ?_
                    refine gx_val (.bool false) w43 (by kernel_rfl) (by kernel_rfl) ?_
                    refine gx_nil ?_
                    refine gx_thenN ?_
                    exact ⟨false, selfA_i (by kernel_rfl), (Option.some.inj hE73), hS44⟩
                · refine gx_val (.bool false) w43 (by kernel_rfl) (run_boolE (decide_eq_false h76) (by kernel_rfl)) ?_
                  refine gx_val (.bool false) w43 (by kernel_rfl) (by kernel_rfl) ?_
                  refine gx_off (by kernel_rfl) ?_
                  refine gx_off (by kernel_rfl) ?_
                  refine gx_off (by kernel_rfl) ?_
                  refine gx_off (by kernel_rfl) ?_
                  refine gx_off (by kernel_rfl) ?_
                  refine gx_val (.bool false) w43 (by kernel_rfl) (by kernel_rfl) ?_
                  refine gx_nil ?_
                  refine gx_thenN ?_
                  exact ⟨false, selfA_i (by kernel_rfl), (Option.some.inj hE73), hS44⟩
              · rintro _ w68 ⟨b71, hq75, rfl, hS69⟩
                obtain ⟨u70, rfl⟩ := selfA_u hq75
                try dsimp only at hO74
                obtain ⟨c84, hE85, hO86⟩ := bind_in hO74
                refine gx_part (l1 := [_, _, _, _, _, _, _]) (fun a w => ∃ (b83 : Bool), selfA (fun u82 => ⟨((.slice A0 p0.length c0) :: (.int .u8 p1) :: undef :: undef :: (u5 4) :: (.slice A46 l48.length c47) :: (.int .i64 x49) :: un 5 (dd u5 12 8 ((.int .i64 x49) :: (u70 21) :: (.int .i64 ((p0.length : Nat) : Int)) :: (.bool true) :: dd u45 24 2 ((u70 26) :: (.int .i64 x49) :: (.pointer (Option.map (fun (p : Addr) => p.add (Int.toNat x49 * 1)) A0)) :: (.int .u8 x66) :: dd u70 30 7 ((.bool b71) :: dd u82 38 6 ((.bool b83) :: dd u45 45 14 (un 88 ([])))))))).toArray, []⟩) a ∧ b83 = c84 ∧ St [] w0 w [rowE .u8 26 A46 c47 l48]) rfl ?_ ?_
                · refine gx_val (.bool b71) w68 (by kernel_rfl) (by kernel_rfl) ?_
                  cases b71 with
                  | true =>
                    try dsimp only at hE85
                    refine gx_off (by kernel_rfl) ?_
                    refine gx_off (by kernel_rfl) ?_
                    refine gx_off (by kernel_rfl) ?_
                    refine gx_off (by kernel_rfl) ?_
                    refine gx_off (by kernel_rfl) ?_
                    refine gx_val (.bool true) w68 (by kernel_rfl) (by kernel_rfl) ?_
                    refine gx_nil ?_
                    refine gx_thenN ?_
                    exact ⟨true, selfA_i (by kernel_rfl), (Option.some.inj hE85), hS69⟩
                  | false =>
                    try dsimp only at hE85
                    refine gx_val (.slice A0 p0.length c0) w68 (by kernel_rfl) (by kernel_rfl) ?_
                    refine gx_val (.int .i64 x49) w68 (by kernel_rfl) (by kernel_rfl) ?_
                    obtain ⟨x88, hx89, hE85⟩ := bind_in hE85
                    refine gx_val (.pointer (Option.map (fun (p : Addr) => p.add (Int.toNat x49 * 1)) A0)) w68 (by kernel_rfl) (run_ixaddr (E := 26) (s := 1) (k := .i64) (c := c0) rfl (by kernel_rfl) (by kernel_rfl) (by kernel_rfl) (fun _ => by kernel_rfl) (ix_in hx89).1 (ix_in hx89).2.1 (num_nil (hS69.view hv0))) ?_
                    refine gx_val (.int .u8 x88) w68 (by kernel_rfl) (run_loadix rfl (by kernel_rfl) (fun _ => by kernel_rfl) (hS69.view hv0) hx89) ?_
                    rcases if_in hE85 with ⟨h90, hE85⟩ | ⟨h90, hE85⟩
                    · refine gx_val (.bool true) w68 (by kernel_rfl) (run_boolE (decide_eq_true h90) (by kernel_rfl)) ?_
                      refine gx_val (.bool true) w68 (by kernel_rfl) (by kernel_rfl) ?_
                      refine gx_nil ?_
                      refine gx_thenN ?_
                      exact ⟨true, selfA_i (by kernel_rfl), (Option.some.inj hE85), hS69⟩
                    · refine gx_val (.bool false) w68 (by kernel_rfl) (run_boolE (decide_eq_false h90) (by kernel_rfl)) ?_
                      refine gx_val (.bool false) w68 (by kernel_rfl) (by kernel_rfl) ?_
                      refine gx_nil ?_
                      refine gx_thenN ?_
                      exact ⟨false, selfA_i (by kernel_rfl), (Option.some.inj hE85), hS69⟩
                · rintro _ w80 ⟨b83, hq87, rfl, hS81⟩
                  obtain ⟨u82, rfl⟩ := selfA_u hq87
                  try dsimp only at hO86
                  refine gx_val (.bool b83) w80 (by kernel_rfl) (by kernel_rfl) ?_
                  cases b83 with
                  | true =>
                    try dsimp only at hO86
                    refine gx_off (by kernel_rfl) ?_
                    refine gx_off (by kernel_rfl) ?_
                    refine gx_off (by kernel_rfl) ?_
                    refine gx_off (by kernel_rfl) ?_
                    refine gx_off (by kernel_rfl) ?_
                    refine gx_val (.bool true) w80 (by kernel_rfl) (by kernel_rfl) ?_
                    refine gx_nil ?_
                    refine gx_thenN ?_
                    exact ⟨true, selfA_i (by kernel_rfl), (Option.some.inj hO86), hS81⟩
                  | false =>
                    try dsimp only at hO86
                    refine gx_val (.slice A0 p0.length c0) w80 (by kernel_rfl) (by kernel_rfl) ?_
                    refine gx_val (.int .i64 x49) w80 (by kernel_rfl) (by kernel_rfl) ?_
                    obtain ⟨x91, hx92, hO86⟩ := bind_in hO86
                    refine gx_val (.pointer (Option.map (fun (p : Addr) => p.add (Int.toNat x49 * 1)) A0)) w80 (by kernel_rfl) (run_ixaddr (E := 26) (s := 1) (k := .i64) (c := c0) rfl (by kernel_rfl) (by kernel_rfl) (by kernel_rfl) (fun _ => by kernel_rfl) (ix_in hx92).1 (ix_in hx92).2.1 (num_nil (hS81.view hv0))) ?_
                    refine gx_val (.int .u8 x91) w80 (by kernel_rfl) (run_loadix rfl (by kernel_rfl) (fun _ => by kernel_rfl) (hS81.view hv0) hx92) ?_
                    rcases if_in hO86 with ⟨h93, hO86⟩ | ⟨h93, hO86⟩
                    · refine gx_val (.bool true) w80 (by kernel_rfl) (run_boolE (decide_eq_true h93) (by kernel_rfl)) ?_
                      refine gx_val (.bool true) w80 (by kernel_rfl) (by kernel_rfl) ?_
                      refine gx_nil ?_
                      refine gx_thenN ?_
                      exact ⟨true, selfA_i (by kernel_rfl), (Option.some.inj hO86), hS81⟩
                    · refine gx_val (.bool false) w80 (by kernel_rfl) (run_boolE (decide_eq_false h93) (by kernel_rfl)) ?_
                      refine gx_val (.bool false) w80 (by kernel_rfl) (by kernel_rfl) ?_
                      refine gx_nil ?_
                      refine gx_thenN ?_
                      exact ⟨false, selfA_i (by kernel_rfl), (Option.some.inj hO86), hS81⟩
            · rintro _ w59 ⟨b62, hq105, rfl, hS60⟩
              obtain ⟨u61, rfl⟩ := selfA_u hq105
              try dsimp only at hO65
              cases b62 with
              | true =>
                try dsimp only at hO65
                refine gx_yes (by kernel_rfl) ?_
                refine gx_region ?_
                refine gx_val (.slice A46 l48.length c47) w59 (by kernel_rfl) (by kernel_rfl) ?_
                refine gx_val (.slice A0 p0.length c0) w59 (by kernel_rfl) (by kernel_rfl) ?_
                refine gx_val (.int .i64 x49) w59 (by kernel_rfl) (by kernel_rfl) ?_
                obtain ⟨x94, hx95, hO65⟩ := bind_in hO65
                refine gx_val (.pointer (Option.map (fun (p : Addr) => p.add (Int.toNat x49 * 1)) A0)) w59 (by kernel_rfl) (run_ixaddr (E := 26) (s := 1) (k := .i64) (c := c0) rfl (by kernel_rfl) (by kernel_rfl) (by kernel_rfl) (fun _ => by kernel_rfl) (ix_in hx95).1 (ix_in hx95).2.1 (num_nil (hS60.view hv0))) ?_
                refine gx_val (.int .u8 x94) w59 (by kernel_rfl) (run_loadix rfl (by kernel_rfl) (fun _ => by kernel_rfl) (hS60.view hv0) hx95) ?_
                refine gx_R (by kernel_rfl) (st_made .u8 26 [x94] hS60 (by show 1 ≤ 1000000000; decide) (by kernel_rfl)) ?_
                rintro _ w96 ⟨rfl, hS97⟩
                have hS97 : St _ _ w96 [rowE .u8 26 A46 c47 l48, rowE .u8 26 (some ⟨w59.heap.size, 0, none⟩) 1 ([x94])] := hS97
                obtain ⟨l98, ha99, hO65⟩ := bind_in hO65
                obtain ⟨ha99, hq100⟩ := apx_in ha99
                refine gx_R (by kernel_rfl) (st_append rfl (by kernel_rfl) (by kernel_rfl) hS97 0 rfl (hS97.row 1 rfl).1 (hS97.row 1 rfl).2 ha99 (by kernel_rfl) (by kernel_rfl)) ?_
                rintro _ w103 ⟨A101, c102, rfl, hS104⟩
                rw [← hq100] at hS104 ⊢
                have hS104 : St _ _ w103 [rowE .u8 26 A101 c102 l98, rowE .u8 26 (some ⟨w59.heap.size, 0, none⟩) 1 ([x94])] := hS104
                refine gx_val (.slice A101 l98.length c102) w103 (by kernel_rfl) (by kernel_rfl) ?_
                refine gx_nil ?_
                refine gx_blkN ?_
                refine gx_thenN ?_
                refine hK58 _ _ ?_
                refine gx_region ?_
                refine gx_val (.int .i64 x49) w103 (by kernel_rfl) (by kernel_rfl) ?_
                refine gx_val (.int .i64 (IntKind.i64.wrap (x49 + 1))) w103 (by kernel_rfl) (by kernel_rfl) ?_
                refine gx_val (.int .i64 (IntKind.i64.wrap (x49 + 1))) w103 (by kernel_rfl) (by kernel_rfl) ?_
                refine gx_nil ?_
                refine gx_thenN ?_
                exact ⟨k50, Nat.lt_succ_self k50, l98, (IntKind.i64.wrap (x49 + 1)), A101, c102, selfA_i (by kernel_rfl), hO65, (hS104.pick [0] rfl rfl)⟩
              | false =>
                try dsimp only at hO65
                refine gx_no (by kernel_rfl) ?_
                refine gx_pass ?_
                refine gx_blkN ?_
                refine gx_thenN ?_
                refine hK58 _ _ ?_
                refine gx_region ?_
                refine gx_val (.int .i64 x49) w59 (by kernel_rfl) (by kernel_rfl) ?_
                refine gx_val (.int .i64 (IntKind.i64.wrap (x49 + 1))) w59 (by kernel_rfl) (by kernel_rfl) ?_
                refine gx_val (.int .i64 (IntKind.i64.wrap (x49 + 1))) w59 (by kernel_rfl) (by kernel_rfl) ?_
                refine gx_nil ?_
                refine gx_thenN ?_
                exact ⟨k50, Nat.lt_succ_self k50, l48, (IntKind.i64.wrap (x49 + 1)), A46, c47, selfA_i (by kernel_rfl), hO65, hS60⟩
          · refine gx_val (.bool false) w43 (by kernel_rfl) (run_boolE (decide_eq_false h56) (by kernel_rfl)) ?_
            refine gx_nil ?_
            refine gx_thenN ?_
            refine hK55 _ _ ?_
            refine gx_no (by kernel_rfl) ?_
            refine gx_exit ?_
            refine gx_thenE ?_
            refine gx_thenE ?_
            refine gx_blkE ?_
            refine gx_thenN ?_
            exact ⟨l48, A46, c47, selfA_i (by kernel_rfl), (Option.some.inj hL51), hS44⟩
    · rintro _ w31 ⟨l36, A34, c35, hq254, rfl, hS32⟩
      obtain ⟨u33, rfl⟩ := selfA_u hq254
      try dsimp only at hO39
      refine gx_seq (fun K107 hK108 => ?_)
      refine gx_region ?_
      refine gx_val (.slice A34 l36.length c35) w31 (by kernel_rfl) (by kernel_rfl) ?_
      refine gx_val (.int .u8 p1) w31 (by kernel_rfl) (by kernel_rfl) ?_
      have hP109 : St _ _ w31 ([] ++ [rowE .u8 26 A34 c35 l36]) := hS32
      obtain ⟨⟨l111, l114, x117, x118⟩, hc110, hO39⟩ := bind_in hO39
      try dsimp only at hO39
      refine gx_call (pLevels_R (l111, l114, x117, x118) w31) (by kernel_rfl) (by kernel_rfl) (pLevels_ok N l36 p1 A34 c35 _ hc110 w31 (hP109.vwB 0 rfl)) ?_
      rintro _ w119 ⟨A112, c113, A115, c116, rfl, hT121⟩
      have hS120 : St _ _ w119 [rowE .u8 26 A34 c35 l36, rowE .u8 5 A112 c113 l111, rowE .u8 26 A115 c116 l114] := hS32.take _ hT121
      refine gx_val (.tuple #[.slice A112 l111.length c113, .slice A115 l114.length c116, .int .u8 x117, .int .i64 x118]) w119 (by kernel_rfl) (by kernel_rfl) ?_
      refine gx_val (.slice A112 l111.length c113) w119 (by kernel_rfl) (by kernel_rfl) ?_
      refine gx_val (.slice A115 l114.length c116) w119 (by kernel_rfl) (by kernel_rfl) ?_
      refine gx_val (.int .u8 x117) w119 (by kernel_rfl) (by kernel_rfl) ?_
      refine gx_val (.int .i64 x118) w119 (by kernel_rfl) (by kernel_rfl) ?_
      refine gx_val (.slice A112 l111.length c113) w119 (by kernel_rfl) (by kernel_rfl) ?_
      refine gx_val (.slice A115 l114.length c116) w119 (by kernel_rfl) (by kernel_rfl) ?_
      refine gx_val (.int .u8 x117) w119 (by kernel_rfl) (by kernel_rfl) ?_
      refine gx_val (.int .i64 x118) w119 (by kernel_rfl) (by kernel_rfl) ?_
      refine gx_nil ?_
      refine gx_thenN ?_
      refine hK108 _ _ ?_
      obtain ⟨c125, hE126, hO127⟩ := bind_in hO39
      refine gx_cut (fun a w => selfA (fun u124 => ⟨((u33 0) :: (.int .u8 p1) :: undef :: undef :: (u124 4) :: (.slice A34 l36.length c35) :: (u33 6) :: (.slice A112 l111.length c113) :: (.slice A115 l114.length c116) :: (.int .u8 x117) :: (.int .i64 x118) :: undef :: dd u5 12 8 (dd u33 20 39 (dd u124 59 2 ((.int .u8 p1) :: dd u124 62 3 ((.int .u8 x117) :: (.int .i64 x118) :: dd u124 67 35 (un 45 ([]))))))).toArray, []⟩) a ∧ Ctl.go () = c125 ∧ St [] w0 w [rowE .u8 26 A34 c35 l36, rowE .u8 5 A112 c113 l111, rowE .u8 26 A115 c116 l114]) ?_ ?_
      · refine gx_seq (fun K128 hK129 => ?_)
        refine gx_region ?_
        refine gx_val (.int .i64 x118) w119 (by kernel_rfl) (by kernel_rfl) ?_
        obtain ⟨c134, hE135, hO136⟩ := bind_in hE126
        refine gx_part (l1 := [_, _, _, _, _, _, _, _]) (fun a w => ∃ (b133 : Bool), selfA (fun u132 => ⟨((u33 0) :: (.int .u8 p1) :: undef :: undef :: (u5 4) :: (.slice A34 l36.length c35) :: (u33 6) :: (.slice A112 l111.length c113) :: (.slice A115 l114.length c116) :: (.int .u8 x117) :: (.int .i64 x118) :: undef :: dd u5 12 8 (dd u33 20 39 (dd u132 59 2 ((.int .u8 p1) :: dd u132 62 3 ((.int .u8 x117) :: (.int .i64 x118) :: (.int .i64 x118) :: dd u132 68 7 ((.bool b133) :: un 71 ([]))))))).toArray, []⟩) a ∧ b133 = c134 ∧ St [] w0 w [rowE .u8 26 A34 c35 l36, rowE .u8 5 A112 c113 l111, rowE .u8 26 A115 c116 l114]) rfl ?_ ?_
        · rcases if_in hE135 with ⟨h138, hE135⟩ | ⟨h138, hE135⟩
          · refine gx_val (.bool true) w119 (by kernel_rfl) (run_boolE (ne_yes h138) (by kernel_rfl)) ?_
            refine gx_val (.bool true) w119 (by kernel_rfl) (by kernel_rfl) ?_
            refine gx_off (by kernel_rfl) ?_
            refine gx_off (by kernel_rfl) ?_
            refine gx_off (by kernel_rfl) ?_
            refine gx_off (by kernel_rfl) ?_
            refine gx_off (by kernel_rfl) ?_
            refine gx_val (.bool true) w119 (by kernel_rfl) (by kernel_rfl) ?_
            refine gx_nil ?_
            refine gx_thenN ?_
            exact ⟨true, selfA_i (by kernel_rfl), (Option.some.inj hE135), hS120⟩
          · refine gx_val (.bool false) w119 (by kernel_rfl) (run_boolE (ne_no h138) (by kernel_rfl)) ?_
            refine gx_val (.bool false) w119 (by kernel_rfl) (by kernel_rfl) ?_
            refine gx_val (.slice A112 l111.length c113) w119 (by kernel_rfl) (by kernel_rfl) ?_
            refine gx_val (.int .i64 ((l111.length : Nat) : Int)) w119 (by kernel_rfl) (by kernel_rfl) ?_
            refine gx_val (.slice A34 l36.length c35) w119 (by kernel_rfl) (by kernel_rfl) ?_
            refine gx_val (.int .i64 ((l36.length : Nat) : Int)) w119 (by kernel_rfl) (by kernel_rfl) ?_
            rcases if_in hE135 with ⟨h139, hE135⟩ | ⟨h139, hE135⟩
            · refine gx_val (.bool true) w119 (by kernel_rfl) (run_boolE (ne_yes h139) (by kernel_rfl)) ?_
              refine gx_val (.bool true) w119 (by kernel_rfl) (by kernel_rfl) ?_
              refine gx_nil ?_
              refine gx_thenN ?_
              exact ⟨true, selfA_i (by kernel_rfl), (Option.some.inj hE135), hS120⟩
            · refine gx_val (.bool false) w119 (by kernel_rfl) (run_boolE (ne_no h139) (by kernel_rfl)) ?_
              refine gx_val (.bool false) w119 (by kernel_rfl) (by kernel_rfl) ?_
              refine gx_nil ?_
              refine gx_thenN ?_
              exact ⟨false, selfA_i (by kernel_rfl), (Option.some.inj hE135), hS120⟩
        · rintro _ w130 ⟨b133, hq137, rfl, hS131⟩
          obtain ⟨u132, rfl⟩ := selfA_u hq137
          try dsimp only at hO136
          obtain ⟨c144, hE145, hO146⟩ := bind_in hO136
          refine gx_part (l1 := [_, _, _, _, _, _, _]) (fun a w => ∃ (b143 : Bool), selfA (fun u142 => ⟨((u33 0) :: (.int .u8 p1) :: undef :: undef :: (u5 4) :: (.slice A34 l36.length c35) :: (u33 6) :: (.slice A112 l111.length c113) :: (.slice A115 l114.length c116) :: (.int .u8 x117) :: (.int .i64 x118) :: undef :: dd u5 12 8 (dd u33 20 39 (dd u132 59 2 ((.int .u8 p1) :: dd u132 62 3 ((.int .u8 x117) :: (.int .i64 x118) :: (.int .i64 x118) :: dd u132 68 7 ((.bool b133) :: dd u142 76 6 ((.bool b143) :: un 64 ([])))))))).toArray, []⟩) a ∧ b143 = c144 ∧ St [] w0 w [rowE .u8 26 A34 c35 l36, rowE .u8 5 A112 c113 l111, rowE .u8 26 A115 c116 l114]) rfl ?_ ?_
          · refine gx_val (.bool b133) w130 (by kernel_rfl) (by kernel_rfl) ?_
            cases b133 with
            | true =>
              try dsimp only at hE145
              refine gx_off (by kernel_rfl) ?_
              refine gx_off (by kernel_rfl) ?_
              refine gx_off (by kernel_rfl) ?_
              refine gx_off (by kernel_rfl) ?_
              refine gx_off (by kernel_rfl) ?_
              refine gx_val (.bool true) w130 (by kernel_rfl) (by kernel_rfl) ?_
              refine gx_nil ?_
              refine gx_thenN ?_
              exact ⟨true, selfA_i (by kernel_rfl), (Option.some.inj hE145), hS131⟩
            | false =>
              try dsimp only at hE145
              refine gx_val (.slice A115 l114.length c116) w130 (by kernel_rfl) (by kernel_rfl) ?_
              refine gx_val (.int .i64 ((l114.length : Nat) : Int)) w130 (by kernel_rfl) (by kernel_rfl) ?_
              refine gx_val (.slice A34 l36.length c35) w130 (by kernel_rfl) (by kernel_rfl) ?_
              refine gx_val (.int .i64 ((l36.length : Nat) : Int)) w130 (by kernel_rfl) (by kernel_rfl) ?_
              rcases if_in hE145 with ⟨h148, hE145⟩ | ⟨h148, hE145⟩
              · refine gx_val (.bool true) w130 (by kernel_rfl) (run_boolE (ne_yes h148) (by kernel_rfl)) ?_
                refine gx_val (.bool true) w130 (by kernel_rfl) (by kernel_rfl) ?_
                refine gx_nil ?_
                refine gx_thenN ?_
                exact ⟨true, selfA_i (by kernel_rfl), (Option.some.inj hE145), hS131⟩
              · refine gx_val (.bool false) w130 (by kernel_rfl) (run_boolE (ne_no h148) (by kernel_rfl)) ?_
                refine gx_val (.bool false) w130 (by kernel_rfl) (by kernel_rfl) ?_
                refine gx_nil ?_
                refine gx_thenN ?_
                exact ⟨false, selfA_i (by kernel_rfl), (Option.some.inj hE145), hS131⟩
          · rintro _ w140 ⟨b143, hq147, rfl, hS141⟩
            obtain ⟨u142, rfl⟩ := selfA_u hq147
            try dsimp only at hO146
            obtain ⟨c153, hE154, hO155⟩ := bind_in hO146
            refine gx_part (l1 := [_, _, _, _, _, _, _, _, _]) (fun a w => ∃ (b152 : Bool), selfA (fun u151 => ⟨((u33 0) :: (.int .u8 p1) :: undef :: undef :: (u5 4) :: (.slice A34 l36.length c35) :: (u33 6) :: (.slice A112 l111.length c113) :: (.slice A115 l114.length c116) :: (.int .u8 x117) :: (.int .i64 x118) :: undef :: dd u5 12 8 (dd u33 20 39 (dd u132 59 2 ((.int .u8 p1) :: dd u132 62 3 ((.int .u8 x117) :: (.int .i64 x118) :: (.int .i64 x118) :: dd u132 68 7 ((.bool b133) :: dd u142 76 6 ((.bool b143) :: dd u151 83 8 ((.bool b152) :: un 55 ([]))))))))).toArray, []⟩) a ∧ b152 = c153 ∧ St [] w0 w [rowE .u8 26 A34 c35 l36, rowE .u8 5 A112 c113 l111, rowE .u8 26 A115 c116 l114]) rfl ?_ ?_
            · refine gx_val (.bool b143) w140 (by kernel_rfl) (by kernel_rfl) ?_
              cases b143 with
              | true =>
                try dsimp only at hE154
                refine gx_off (by kernel_rfl) ?_
                refine gx_off (by kernel_rfl) ?_
                refine gx_off (by kernel_rfl) ?_
                refine gx_off (by kernel_rfl) ?_
                refine gx_off (by kernel_rfl) ?_
                refine gx_off (by kernel_rfl) ?_
                refine gx_off (by kernel_rfl) ?_
                refine gx_val (.bool true) w140 (by kernel_rfl) (by kernel_rfl) ?_
                refine gx_nil ?_
                refine gx_thenN ?_
                exact ⟨true, selfA_i (by kernel_rfl), (Option.some.inj hE154), hS141⟩
              | false =>
                try dsimp only at hE154
                refine gx_val (.int .u8 p1) w140 (by kernel_rfl) (by kernel_rfl) ?_
                obtain ⟨c161, hE162, hO163⟩ := bind_in hE154
                refine gx_part (l1 := [_, _, _, _, _, _]) (fun a w => ∃ (b160 : Bool), selfA (fun u159 => ⟨((u33 0) :: (.int .u8 p1) :: undef :: undef :: (u5 4) :: (.slice A34 l36.length c35) :: (u33 6) :: (.slice A112 l111.length c113) :: (.slice A115 l114.length c116) :: (.int .u8 x117) :: (.int .i64 x118) :: undef :: dd u5 12 8 (dd u33 20 39 (dd u132 59 2 ((.int .u8 p1) :: dd u132 62 3 ((.int .u8 x117) :: (.int .i64 x118) :: (.int .i64 x118) :: dd u132 68 7 ((.bool b133) :: dd u142 76 6 ((.bool false) :: (.bool false) :: (.int .u8 p1) :: dd u159 85 5 ((.bool b160) :: un 56 ([]))))))))).toArray, []⟩) a ∧ b160 = c161 ∧ St [] w0 w [rowE .u8 26 A34 c35 l36, rowE .u8 5 A112 c113 l111, rowE .u8 26 A115 c116 l114]) rfl ?_ ?_
                · rcases if_in hE162 with ⟨h165, hE162⟩ | ⟨h165, hE162⟩
                  · refine gx_val (.bool true) w140 (by kernel_rfl) (run_boolE (decide_eq_true h165) (by kernel_rfl)) ?_
                    refine gx_val (.bool true) w140 (by kernel_rfl) (by kernel_rfl) ?_
                    refine gx_val (.int .u8 x117) w140 (by kernel_rfl) (by kernel_rfl) ?_
                    refine gx_val (.int .u8 p1) w140 (by kernel_rfl) (by kernel_rfl) ?_
                    rcases if_in hE162 with ⟨h166, hE162⟩ | ⟨h166, hE162⟩
                    · refine gx_val (.bool true) w140 (by kernel_rfl) (run_boolE (ne_yes h166) (by kernel_rfl)) ?_
                      refine gx_val (.bool true) w140 (by kernel_rfl) (by kernel_rfl) ?_
                      refine gx_nil ?_
                      refine gx_thenN ?_
                      exact ⟨true, selfA_i (by kernel_rfl), (Option.some.inj hE162), hS141⟩
                    · refine gx_val (.bool false) w140 (by kernel_rfl) (run_boolE (ne_no h166) (by kernel_rfl)) ?_
                      refine gx_val (.bool false) w140 (by kernel_rfl) (by kernel_rfl) ?_
                      refine gx_nil ?_
                      refine gx_thenN ?_
                      exact ⟨false, selfA_i (by kernel_rfl), (Option.some.inj hE162), hS141⟩
                  · refine gx_val (.bool false) w140 (by kernel_rfl) (run_boolE (decide_eq_false h165) (by kernel_rfl)) ?_
                    refine gx_val (.bool false) w140 (by kernel_rfl) (by kernel_rfl) ?_
                    refine gx_off (by kernel_rfl) ?_
                    refine gx_off (by kernel_rfl) ?_
                    refine gx_off (by kernel_rfl) ?_
                    refine gx_val (.bool false) w140 (by kernel_rfl) (by kernel_rfl) ?_
                    refine gx_nil ?_
                    refine gx_thenN ?_
                    exact ⟨false, selfA_i (by kernel_rfl), (Option.some.inj hE162), hS141⟩
                · rintro _ w157 ⟨b160, hq164, rfl, hS158⟩
                  obtain ⟨u159, rfl⟩ := selfA_u hq164
                  try dsimp only at hO163
                  refine gx_val (.bool b160) w157 (by kernel_rfl) (by kernel_rfl) ?_
                  refine gx_nil ?_
                  refine gx_thenN ?_
                  exact ⟨b160, selfA_i (by kernel_rfl), (Option.some.inj hO163), hS158⟩
            · rintro _ w149 ⟨b152, hq156, rfl, hS150⟩
              obtain ⟨u151, rfl⟩ := selfA_u hq156
              try dsimp only at hO155
              refine gx_val (.bool b152) w149 (by kernel_rfl) (by kernel_rfl) ?_
              cases b152 with
              | true =>
                try dsimp only at hO155
                refine gx_off (by kernel_rfl) ?_
                refine gx_off (by kernel_rfl) ?_
                refine gx_off (by kernel_rfl) ?_
                refine gx_off (by kernel_rfl) ?_
                refine gx_off (by kernel_rfl) ?_
                refine gx_off (by kernel_rfl) ?_
                refine gx_off (by kernel_rfl) ?_
                refine gx_off (by kernel_rfl) ?_
                refine gx_val (.bool true) w149 (by kernel_rfl) (by kernel_rfl) ?_
                refine gx_nil ?_
                refine gx_thenN ?_
                refine hK129 _ _ ?_
                refine gx_yes (by kernel_rfl) ?_
                refine gx_seq (fun K167 hK168 => ?_)
                refine gx_region ?_
                refine gx_val (.bool false) w149 (by kernel_rfl) (by kernel_rfl) ?_
                refine gx_nil ?_
                refine gx_thenN ?_
                refine hK168 _ _ ?_
                refine gx_ret ?_
                refine gx_thenR ?_
                obtain rfl := Option.some.inj hO155
                try dsimp only at hO127
                obtain rfl := Option.some.inj hO127
                exact gx_fin (.bool false) (by kernel_rfl) (by kernel_rfl) ⟨_, rfl, rfl, (hS150.pick [] rfl rfl)⟩
              | false =>
                try dsimp only at hO155
                refine gx_val (.int .u8 p1) w149 (by kernel_rfl) (by kernel_rfl) ?_
                rcases if_in hO155 with ⟨h169, hO155⟩ | ⟨h169, hO155⟩
                · refine gx_val (.bool true) w149 (by kernel_rfl) (run_boolE (decide_eq_true h169) (by kernel_rfl)) ?_
                  refine gx_val (.bool true) w149 (by kernel_rfl) (by kernel_rfl) ?_
                  refine gx_val (.int .u8 x117) w149 (by kernel_rfl) (by kernel_rfl) ?_
                  refine gx_val (.slice A34 l36.length c35) w149 (by kernel_rfl) (by kernel_rfl) ?_
                  have hP170 : St _ _ w149 ([] ++ [rowE .u8 26 A34 c35 l36, rowE .u8 5 A112 c113 l111, rowE .u8 26 A115 c116 l114]) := hS150
                  obtain ⟨x172, hc171, hO155⟩ := bind_in hO155
                  try dsimp only at hO155
                  refine gx_call (pBase_R x172 w149) (by kernel_rfl) (by kernel_rfl) (pBase_ok N l36 A34 c35 _ hc171 w149 (hP170.vwB 0 rfl)) ?_
                  rintro _ w173 ⟨rfl, hT175⟩
                  have hS174 : St _ _ w173 [rowE .u8 26 A34 c35 l36, rowE .u8 5 A112 c113 l111, rowE .u8 26 A115 c116 l114] := hS150.take _ hT175
                  rcases if_in hO155 with ⟨h176, hO155⟩ | ⟨h176, hO155⟩
                  · refine gx_val (.bool true) w173 (by kernel_rfl) (run_boolE (ne_yes h176) (by kernel_rfl)) ?_
                    refine gx_val (.bool true) w173 (by kernel_rfl) (by kernel_rfl) ?_
                    refine gx_val (.bool true) w173 (by kernel_rfl) (by kernel_rfl) ?_
                    refine gx_nil ?_
                    refine gx_thenN ?_
                    refine hK129 _ _ ?_
                    refine gx_yes (by kernel_rfl) ?_
                    refine gx_seq (fun K177 hK178 => ?_)
                    refine gx_region ?_
                    refine gx_val (.bool false) w173 (by kernel_rfl) (by kernel_rfl) ?_
                    refine gx_nil ?_
                    refine gx_thenN ?_
                    refine hK178 _ _ ?_
                    refine gx_ret ?_
                    refine gx_thenR ?_
                    obtain rfl := Option.some.inj hO155
                    try dsimp only at hO127
                    obtain rfl := Option.some.inj hO127
                    exact gx_fin (.bool false) (by kernel_rfl) (by kernel_rfl) ⟨_, rfl, rfl, (hS174.pick [] rfl rfl)⟩
                  · refine gx_val (.bool false) w173 (by kernel_rfl) (run_boolE (ne_no h176) (by kernel_rfl)) ?_
                    refine gx_val (.bool false) w173 (by kernel_rfl) (by kernel_rfl) ?_
                    refine gx_val (.bool false) w173 (by kernel_rfl) (by kernel_rfl) ?_
                    refine gx_nil ?_
                    refine gx_thenN ?_
                    refine hK129 _ _ ?_
                    refine gx_no (by kernel_rfl) ?_
                    refine gx_pass ?_
                    refine gx_thenN ?_
                    exact ⟨selfA_i (by kernel_rfl), (Option.some.inj hO155), hS174⟩
                · refine gx_val (.bool false) w149 (by kernel_rfl) (run_boolE (decide_eq_false h169) (by kernel_rfl)) ?_
                  refine gx_val (.bool false) w149 (by kernel_rfl) (by kernel_rfl) ?_
                  refine gx_off (by kernel_rfl) ?_
                  refine gx_off (by kernel_rfl) ?_
                  refine gx_off (by kernel_rfl) ?_
                  refine gx_off (by kernel_rfl) ?_
                  refine gx_val (.bool false) w149 (by kernel_rfl) (by kernel_rfl) ?_
                  refine gx_val (.bool false) w149 (by kernel_rfl) (by kernel_rfl) ?_
                  refine gx_nil ?_
                  refine gx_thenN ?_
                  refine hK129 _ _ ?_
                  refine gx_no (by kernel_rfl) ?_
                  refine gx_pass ?_
                  refine gx_thenN ?_
                  exact ⟨selfA_i (by kernel_rfl), (Option.some.inj hO155), hS150⟩
      · rintro _ w122 ⟨hq253, rfl, hS123⟩
        obtain ⟨u124, rfl⟩ := selfA_u hq253
        try dsimp only at hO127
        obtain ⟨c182, hE183, hO184⟩ := bind_in hO127
        refine gx_cut (fun a w => selfA (fun u181 => ⟨((u33 0) :: (.int .u8 p1) :: undef :: undef :: dd u181 4 2 ((u33 6) :: dd u181 7 2 ((.int .u8 x117) :: (.int .i64 x118) :: (u181 11) :: dd u5 12 8 (dd u33 20 39 (dd u124 59 2 ((.int .u8 p1) :: dd u124 62 3 ((.int .u8 x117) :: (.int .i64 x118) :: dd u124 67 35 (dd u181 102 44 (undef :: []))))))))).toArray, []⟩) a ∧ Ctl.go () = c182 ∧ St [] w0 w []) ?_ ?_
        · refine gx_seq (fun K185 hK186 => ?_)
          refine gx_region ?_
          refine gx_val (.int .i64 0) w122 (by kernel_rfl) (by kernel_rfl) ?_
          refine gx_nil ?_
          refine gx_thenN ?_
          refine hK186 _ _ ?_
          refine gx_block ?_
          refine gx_loop (fun k a w => ∃ (x190 : Int), selfA (fun u189 => ⟨((u33 0) :: (.int .u8 p1) :: undef :: undef :: (u189 4) :: (.slice A34 l36.length c35) :: (u33 6) :: (.slice A112 l111.length c113) :: (.slice A115 l114.length c116) :: (.int .u8 x117) :: (.int .i64 x118) :: (.int .i64 x190) :: dd u5 12 8 (dd u33 20 39 (dd u124 59 2 ((.int .u8 p1) :: dd u124 62 3 ((.int .u8 x117) :: (.int .i64 x118) :: dd u124 67 35 (dd u189 102 44 (undef :: []))))))).toArray, []⟩) a ∧ fPlain_L2 N l36 l111 l114 x117 k x190 = some c182 ∧ St [] w0 w [rowE .u8 26 A34 c35 l36, rowE .u8 5 A112 c113 l111, rowE .u8 26 A115 c116 l114]) N ?_ ?_
          · exact ⟨0, selfA_i (by kernel_rfl), hE183, hS123⟩
          · rintro k191 _ w187 ⟨x190, hq243, hL192, hS188⟩
            obtain ⟨u189, rfl⟩ := selfA_u hq243
            cases k191 with
            | zero => cases hL192
            | succ k191 =>
              rw [fPlain_L2] at hL192
              refine gx_seq (fun K193 hK194 => ?_)
              refine gx_seq (fun K195 hK196 => ?_)
              refine gx_region ?_
              refine gx_val (.int .i64 x190) w187 (by kernel_rfl) (by kernel_rfl) ?_
              refine gx_val (.slice A34 l36.length c35) w187 (by kernel_rfl) (by kernel_rfl) ?_
              refine gx_val (.int .i64 ((l36.length : Nat) : Int)) w187 (by kernel_rfl) (by kernel_rfl) ?_
              rcases if_in hL192 with ⟨h197, hL192⟩ | ⟨h197, hL192⟩
              · refine gx_val (.bool true) w187 (by kernel_rfl) (run_boolE (decide_eq_true h197) (by kernel_rfl)) ?_
                refine gx_nil ?_
                refine gx_thenN ?_
                refine hK196 _ _ ?_
                refine gx_yes (by kernel_rfl) ?_
                refine gx_pass ?_
                refine gx_thenN ?_
                refine hK194 _ _ ?_
                refine gx_seq (fun K198 hK199 => ?_)
                refine gx_block ?_
                refine gx_seq (fun K200 hK201 => ?_)
                refine gd_start (fun w => St [] w0 w [rowE .u8 26 A34 c35 l36, rowE .u8 5 A112 c113 l111, rowE .u8 26 A115 c116 l114]) 38 #[false, false, false, false, false, false, false, false, false, false, false, false, false, false, false, false, false, false, false, false, false, false, false, false, false, false, false, false, false, false, false, false, false, false, false, false, false, false] (by kernel_rfl) (by kernel_rfl) ?_
                have hS203 := hS188.drew
                generalize w187.drew = w202 at hS203 ⊢
                refine gd1 0 { dst := some 108, op := _, type := _, pos := _, after := _, guard := _ } (.slice A112 l111.length c113) rfl hS203 (fun w hSw => by kernel_rfl) ?_
                refine gd1 1 { dst := some 109, op := _, type := _, pos := _, after := _, guard := _ } (.int .i64 x190) rfl hS203 (fun w hSw => by kernel_rfl) ?_
                obtain ⟨x204, hx205, hL192⟩ := bind_in hL192
                refine gd1 2 { dst := some 110, op := _, type := _, pos := _, after := _, guard := _ } (.pointer (Option.map (fun (p : Addr) => p.add (Int.toNat x190 * 1)) A112)) rfl hS203 (fun w hSw => run_ixaddr (E := 5) (s := 1) (k := .i64) (c := c113) rfl (by kernel_rfl) (by kernel_rfl) (by kernel_rfl) (fun _ => by kernel_rfl) (ix_in hx205).1 (ix_in hx205).2.1 (num_nil (hS203.row 1 rfl).1)) ?_
                refine gd1 3 { dst := some 111, op := _, type := _, pos := _, after := _, guard := _ } (.int .u8 x204) rfl hS203 (fun w hSw => run_loadix rfl (by kernel_rfl) (fun _ => by kernel_rfl) (hSw.row 1 rfl).1 hx205) ?_
                refine gd1 4 { dst := some 112, op := _, type := _, pos := _, after := _, guard := _ } (.int .u8 x117) rfl hS203 (fun w hSw => by kernel_rfl) ?_
                obtain ⟨c210, hE211, hO212⟩ := bind_in hL192
                refine gd_mid (fun a w => ∃ (b209 : Bool), selfA (fun u208 => ⟨((u33 0) :: (.int .u8 p1) :: undef :: undef :: (u189 4) :: (.slice A34 l36.length c35) :: (u33 6) :: (.slice A112 l111.length c113) :: (.slice A115 l114.length c116) :: (.int .u8 x117) :: (.int .i64 x118) :: (.int .i64 x190) :: dd u5 12 8 (dd u33 20 39 (dd u124 59 2 ((.int .u8 p1) :: dd u124 62 3 ((.int .u8 x117) :: (.int .i64 x118) :: dd u124 67 35 ((.int .i64 x190) :: (u208 103) :: (.int .i64 ((l36.length : Nat) : Int)) :: (.bool true) :: dd u189 106 2 ((u208 108) :: (.int .i64 x190) :: (.pointer (Option.map (fun (p : Addr) => p.add (Int.toNat x190 * 1)) A112)) :: (.int .u8 x204) :: (.int .u8 x117) :: dd u208 113 14 ((.bool b209) :: dd u189 128 18 (undef :: []))))))))).toArray, []⟩) a ∧ b209 = c210 ∧ St [] w0 w [rowE .u8 26 A34 c35 l36, rowE .u8 5 A112 c113 l111, rowE .u8 26 A115 c116 l114]) 18 #[true, true, true, true, true, true, true, true, true, true, true, true, true, true, true, true, true, true, true, true, false, false, false, false, false, false, false, false, false, false, false, false, false, false, false, false, false, false] ?_ ?_
                · rintro _ w206 ⟨b209, hq213, rfl, hS207⟩
                  obtain ⟨u208, rfl⟩ := selfA_u hq213
                  try dsimp only at hO212
                  refine gd1 20 { dst := some 128, op := _, type := _, pos := _, after := _, guard := _ } (.bool b209) rfl hS207 (fun w hSw => by kernel_rfl) ?_
                  cases b209 with
                  | true =>
                    try dsimp only at hO212
                    refine gd0 21 { dst := some 129, op := _, type := _, pos := _, after := _, guard := _ } rfl hS207 ?_
                    refine gd0 22 { dst := some 130, op := _, type := _, pos := _, after := _, guard := _ } rfl hS207 ?_
                    refine gd0 23 { dst := some 131, op := _, type := _, pos := _, after := _, guard := _ } rfl hS207 ?_
                    refine gd0 24 { dst := some 132, op := _, type := _, pos := _, after := _, guard := _ } rfl hS207 ?_
                    refine gd0 25 { dst := some 133, op := _, type := _, pos := _, after := _, guard := _ } rfl hS207 ?_
                    refine gd0 26 { dst := some 134, op := _, type := _, pos := _, after := _, guard := _ } rfl hS207 ?_
                    refine gd0 27 { dst := some 135, op := _, type := _, pos := _, after := _, guard := _ } rfl hS207 ?_
                    refine gd0 28 { dst := some 136, op := _, type := _, pos := _, after := _, guard := _ } rfl hS207 ?_
                    refine gd0 29 { dst := some 137, op := _, type := _, pos := _, after := _, guard := _ } rfl hS207 ?_
                    refine gd0 30 { dst := some 138, op := _, type := _, pos := _, after := _, guard := _ } rfl hS207 ?_
                    refine gd0 31 { dst := some 139, op := _, type := _, pos := _, after := _, guard := _ } rfl hS207 ?_
                    refine gd0 32 { dst := some 140, op := _, type := _, pos := _, after := _, guard := _ } rfl hS207 ?_
                    refine gd0 33 { dst := some 141, op := _, type := _, pos := _, after := _, guard := _ } rfl hS207 ?_
                    refine gd0 34 { dst := some 142, op := _, type := _, pos := _, after := _, guard := _ } rfl hS207 ?_
                    refine gd0 35 { dst := some 143, op := _, type := _, pos := _, after := _, guard := _ } rfl hS207 ?_
                    refine gd0 36 { dst := some 144, op := _, type := _, pos := _, after := _, guard := _ } rfl hS207 ?_
                    refine gd1 37 { dst := some 145, op := _, type := _, pos := _, after := _, guard := _ } (.bool true) rfl hS207 (fun w hSw => by kernel_rfl) ?_
                    refine gd_done (by kernel_rfl) ?_
                    refine gx_thenN ?_
                    refine hK201 _ _ ?_
                    refine gx_yes (by kernel_rfl) ?_
                    refine gx_seq (fun K231 hK232 => ?_)
                    refine gx_region ?_
                    refine gx_val (.bool false) w206 (by kernel_rfl) (by kernel_rfl) ?_
                    refine gx_nil ?_
                    refine gx_thenN ?_
                    refine hK232 _ _ ?_
                    refine gx_ret ?_
                    refine gx_blkR ?_
                    refine gx_thenR ?_
                    refine gx_thenR ?_
                    refine gx_blkR ?_
                    refine gx_thenR ?_
                    obtain rfl := Option.some.inj hO212
                    try dsimp only at hO184
                    obtain rfl := Option.some.inj hO184
                    exact gx_fin (.bool false) (by kernel_rfl) (by kernel_rfl) ⟨_, rfl, rfl, (hS207.pick [] rfl rfl)⟩
                  | false =>
                    try dsimp only at hO212
                    refine gd1 21 { dst := some 129, op := _, type := _, pos := _, after := _, guard := _ } (.slice A34 l36.length c35) rfl hS207 (fun w hSw => by kernel_rfl) ?_
                    refine gd1 22 { dst := some 130, op := _, type := _, pos := _, after := _, guard := _ } (.int .i64 x190) rfl hS207 (fun w hSw => by kernel_rfl) ?_
                    obtain ⟨x233, hx234, hO212⟩ := bind_in hO212
                    refine gd1 23 { dst := some 131, op := _, type := _, pos := _, after := _, guard := _ } (.pointer (Option.map (fun (p : Addr) => p.add (Int.toNat x190 * 1)) A34)) rfl hS207 (fun w hSw => run_ixaddr (E := 26) (s := 1) (k := .i64) (c := c35) rfl (by kernel_rfl) (by kernel_rfl) (by kernel_rfl) (fun _ => by kernel_rfl) (ix_in hx234).1 (ix_in hx234).2.1 (num_nil (hS207.row 0 rfl).1)) ?_
                    refine gd1 24 { dst := some 132, op := _, type := _, pos := _, after := _, guard := _ } (.int .u8 x233) rfl hS207 (fun w hSw => run_loadix rfl (by kernel_rfl) (fun _ => by kernel_rfl) (hSw.row 0 rfl).1 hx234) ?_
                    rcases if_in hO212 with ⟨h235, hO212⟩ | ⟨h235, hO212⟩
                    · refine gd1 25 { dst := some 133, op := _, type := _, pos := _, after := _, guard := _ } (.bool true) rfl hS207 (fun w hSw => run_boolE (ne_yes h235) (by kernel_rfl)) ?_
                      refine gd1 26 { dst := some 134, op := _, type := _, pos := _, after := _, guard := _ } (.bool true) rfl hS207 (fun w hSw => by kernel_rfl) ?_
                      refine gd1 27 { dst := some 135, op := _, type := _, pos := _, after := _, guard := _ } (.slice A115 l114.length c116) rfl hS207 (fun w hSw => by kernel_rfl) ?_
                      refine gd1 28 { dst := some 136, op := _, type := _, pos := _, after := _, guard := _ } (.int .i64 x190) rfl hS207 (fun w hSw => by kernel_rfl) ?_
                      obtain ⟨x236, hx237, hO212⟩ := bind_in hO212
                      refine gd1 29 { dst := some 137, op := _, type := _, pos := _, after := _, guard := _ } (.pointer (Option.map (fun (p : Addr) => p.add (Int.toNat x190 * 1)) A115)) rfl hS207 (fun w hSw => run_ixaddr (E := 26) (s := 1) (k := .i64) (c := c116) rfl (by kernel_rfl) (by kernel_rfl) (by kernel_rfl) (fun _ => by kernel_rfl) (ix_in hx237).1 (ix_in hx237).2.1 (num_nil (hS207.row 2 rfl).1)) ?_
                      refine gd1 30 { dst := some 138, op := _, type := _, pos := _, after := _, guard := _ } (.int .u8 x236) rfl hS207 (fun w hSw => run_loadix rfl (by kernel_rfl) (fun _ => by kernel_rfl) (hSw.row 2 rfl).1 hx237) ?_
                      refine gd1 31 { dst := some 139, op := _, type := _, pos := _, after := _, guard := _ } (.slice A34 l36.length c35) rfl hS207 (fun w hSw => by kernel_rfl) ?_
                      refine gd1 32 { dst := some 140, op := _, type := _, pos := _, after := _, guard := _ } (.int .i64 x190) rfl hS207 (fun w hSw => by kernel_rfl) ?_
                      obtain ⟨x238, hx239, hO212⟩ := bind_in hO212
                      refine gd1 33 { dst := some 141, op := _, type := _, pos := _, after := _, guard := _ } (.pointer (Option.map (fun (p : Addr) => p.add (Int.toNat x190 * 1)) A34)) rfl hS207 (fun w hSw => run_ixaddr (E := 26) (s := 1) (k := .i64) (c := c35) rfl (by kernel_rfl) (by kernel_rfl) (by kernel_rfl) (fun _ => by kernel_rfl) (ix_in hx239).1 (ix_in hx239).2.1 (num_nil (hS207.row 0 rfl).1)) ?_
                      refine gd1 34 { dst := some 142, op := _, type := _, pos := _, after := _, guard := _ } (.int .u8 x238) rfl hS207 (fun w hSw => run_loadix rfl (by kernel_rfl) (fun _ => by kernel_rfl) (hSw.row 0 rfl).1 hx239) ?_
                      rcases if_in hO212 with ⟨h240, hO212⟩ | ⟨h240, hO212⟩
                      · refine gd1 35 { dst := some 143, op := _, type := _, pos := _, after := _, guard := _ } (.bool true) rfl hS207 (fun w hSw => run_boolE (ne_yes h240) (by kernel_rfl)) ?_
                        refine gd1 36 { dst := some 144, op := _, type := _, pos := _, after := _, guard := _ } (.bool true) rfl hS207 (fun w hSw => by kernel_rfl) ?_
                        refine gd1 37 { dst := some 145, op := _, type := _, pos := _, after := _, guard := _ } (.bool true) rfl hS207 (fun w hSw => by kernel_rfl) ?_
                        refine gd_done (by kernel_rfl) ?_
                        refine gx_thenN ?_
                        refine hK201 _ _ ?_
                        refine gx_yes (by kernel_rfl) ?_
                        refine gx_seq (fun K241 hK242 => ?_)
                        refine gx_region ?_
                        refine gx_val (.bool false) w206 (by kernel_rfl) (by kernel_rfl) ?_
                        refine gx_nil ?_
                        refine gx_thenN ?_
                        refine hK242 _ _ ?_
                        refine gx_ret ?_
                        refine gx_blkR ?_
                        refine gx_thenR ?_
                        refine gx_thenR ?_
                        refine gx_blkR ?_
                        refine gx_thenR ?_
                        obtain rfl := Option.some.inj hO212
                        try dsimp only at hO184
                        obtain rfl := Option.some.inj hO184
                        exact gx_fin (.bool false) (by kernel_rfl) (by kernel_rfl) ⟨_, rfl, rfl, (hS207.pick [] rfl rfl)⟩
                      · refine gd1 35 { dst := some 143, op := _, type := _, pos := _, after := _, guard := _ } (.bool false) rfl hS207 (fun w hSw => run_boolE (ne_no h240) (by kernel_rfl)) ?_
                        refine gd1 36 { dst := some 144, op := _, type := _, pos := _, after := _, guard := _ } (.bool false) rfl hS207 (fun w hSw => by kernel_rfl) ?_
                        refine gd1 37 { dst := some 145, op := _, type := _, pos := _, after := _, guard := _ } (.bool false) rfl hS207 (fun w hSw => by kernel_rfl) ?_
                        refine gd_done (by kernel_rfl) ?_
                        refine gx_thenN ?_
                        refine hK201 _ _ ?_
                        refine gx_no (by kernel_rfl) ?_
                        refine gx_pass ?_
                        refine gx_blkN ?_
                        refine gx_thenN ?_
                        refine hK199 _ _ ?_
                        refine gx_region ?_
                        refine gx_val (.int .i64 x190) w206 (by kernel_rfl) (by kernel_rfl) ?_
                        refine gx_val (.int .i64 (IntKind.i64.wrap (x190 + 1))) w206 (by kernel_rfl) (by kernel_rfl) ?_
                        refine gx_val (.int .i64 (IntKind.i64.wrap (x190 + 1))) w206 (by kernel_rfl) (by kernel_rfl) ?_
                        refine gx_nil ?_
                        refine gx_thenN ?_
                        exact ⟨k191, Nat.lt_succ_self k191, (IntKind.i64.wrap (x190 + 1)), selfA_i (by kernel_rfl), hO212, hS207⟩
                    · refine gd1 25 { dst := some 133, op := _, type := _, pos := _, after := _, guard := _ } (.bool false) rfl hS207 (fun w hSw => run_boolE (ne_no h235) (by kernel_rfl)) ?_
                      refine gd1 26 { dst := some 134, op := _, type := _, pos := _, after := _, guard := _ } (.bool false) rfl hS207 (fun w hSw => by kernel_rfl) ?_
                      refine gd0 27 { dst := some 135, op := _, type := _, pos := _, after := _, guard := _ } rfl hS207 ?_
                      refine gd0 28 { dst := some 136, op := _, type := _, pos := _, after := _, guard := _ } rfl hS207 ?_
                      refine gd0 29 { dst := some 137, op := _, type := _, pos := _, after := _, guard := _ } rfl hS207 ?_
                      refine gd0 30 { dst := some 138, op := _, type := _, pos := _, after := _, guard := _ } rfl hS207 ?_
                      refine gd0 31 { dst := some 139, op := _, type := _, pos := _, after := _, guard := _ } rfl hS207 ?_
                      refine gd0 32 { dst := some 140, op := _, type := _, pos := _, after := _, guard := _ } rfl hS207 ?_
                      refine gd0 33 { dst := some 141, op := _, type := _, pos := _, after := _, guard := _ } rfl hS207 ?_
                      refine gd0 34 { dst := some 142, op := _, type := _, pos := _, after := _, guard := _ } rfl hS207 ?_
                      refine gd0 35 { dst := some 143, op := _, type := _, pos := _, after := _, guard := _ } rfl hS207 ?_
                      refine gd1 36 { dst := some 144, op := _, type := _, pos := _, after := _, guard := _ } (.bool false) rfl hS207 (fun w hSw => by kernel_rfl) ?_
                      refine gd1 37 { dst := some 145, op := _, type := _, pos := _, after := _, guard := _ } (.bool false) rfl hS207 (fun w hSw => by kernel_rfl) ?_
                      refine gd_done (by kernel_rfl) ?_
                      refine gx_thenN ?_
                      refine hK201 _ _ ?_
                      refine gx_no (by kernel_rfl) ?_
                      refine gx_pass ?_
                      refine gx_blkN ?_
                      refine gx_thenN ?_
                      refine hK199 _ _ ?_
                      refine gx_region ?_
                      refine gx_val (.int .i64 x190) w206 (by kernel_rfl) (by kernel_rfl) ?_
                      refine gx_val (.int .i64 (IntKind.i64.wrap (x190 + 1))) w206 (by kernel_rfl) (by kernel_rfl) ?_
                      refine gx_val (.int .i64 (IntKind.i64.wrap (x190 + 1))) w206 (by kernel_rfl) (by kernel_rfl) ?_
                      refine gx_nil ?_
                      refine gx_thenN ?_
                      exact ⟨k191, Nat.lt_succ_self k191, (IntKind.i64.wrap (x190 + 1)), selfA_i (by kernel_rfl), hO212, hS207⟩
                · intro hK214
                  rcases if_in hE211 with ⟨h215, hE211⟩ | ⟨h215, hE211⟩
                  · refine gd1 5 { dst := some 113, op := _, type := _, pos := _, after := _, guard := _ } (.bool true) rfl hS203 (fun w hSw => run_boolE (ne_yes h215) (by kernel_rfl)) ?_
                    refine gd1 6 { dst := some 114, op := _, type := _, pos := _, after := _, guard := _ } (.bool true) rfl hS203 (fun w hSw => by kernel_rfl) ?_
                    refine gd0 7 { dst := some 115, op := _, type := _, pos := _, after := _, guard := _ } rfl hS203 ?_
                    refine gd0 8 { dst := some 116, op := _, type := _, pos := _, after := _, guard := _ } rfl hS203 ?_
                    refine gd0 9 { dst := some 117, op := _, type := _, pos := _, after := _, guard := _ } rfl hS203 ?_
                    refine gd0 10 { dst := some 118, op := _, type := _, pos := _, after := _, guard := _ } rfl hS203 ?_
                    refine gd0 11 { dst := some 119, op := _, type := _, pos := _, after := _, guard := _ } rfl hS203 ?_
                    refine gd0 12 { dst := some 120, op := _, type := _, pos := _, after := _, guard := _ } rfl hS203 ?_
                    refine gd0 13 { dst := some 121, op := _, type := _, pos := _, after := _, guard := _ } rfl hS203 ?_
                    refine gd0 14 { dst := some 122, op := _, type := _, pos := _, after := _, guard := _ } rfl hS203 ?_
                    refine gd0 15 { dst := some 123, op := _, type := _, pos := _, after := _, guard := _ } rfl hS203 ?_
                    refine gd0 16 { dst := some 124, op := _, type := _, pos := _, after := _, guard := _ } rfl hS203 ?_
                    refine gd0 17 { dst := some 125, op := _, type := _, pos := _, after := _, guard := _ } rfl hS203 ?_
                    refine gd0 18 { dst := some 126, op := _, type := _, pos := _, after := _, guard := _ } rfl hS203 ?_
                    refine gd1 19 { dst := some 127, op := _, type := _, pos := _, after := _, guard := _ } (.bool true) rfl hS203 (fun w hSw => by kernel_rfl) ?_
                    exact gd_to hK214 (by kernel_rfl) ⟨true, selfA_i (by kernel_rfl), (Option.some.inj hE211), hS203⟩
                  · refine gd1 5 { dst := some 113, op := _, type := _, pos := _, after := _, guard := _ } (.bool false) rfl hS203 (fun w hSw => run_boolE (ne_no h215) (by kernel_rfl)) ?_
                    refine gd1 6 { dst := some 114, op := _, type := _, pos := _, after := _, guard := _ } (.bool false) rfl hS203 (fun w hSw => by kernel_rfl) ?_
                    refine gd1 7 { dst := some 115, op := _, type := _, pos := _, after := _, guard := _ } (.slice A34 l36.length c35) rfl hS203 (fun w hSw => by kernel_rfl) ?_
                    refine gd1 8 { dst := some 116, op := _, type := _, pos := _, after := _, guard := _ } (.int .i64 x190) rfl hS203 (fun w hSw => by kernel_rfl) ?_
                    obtain ⟨x216, hx217, hE211⟩ := bind_in hE211
                    refine gd1 9 { dst := some 117, op := _, type := _, pos := _, after := _, guard := _ } (.pointer (Option.map (fun (p : Addr) => p.add (Int.toNat x190 * 1)) A34)) rfl hS203 (fun w hSw => run_ixaddr (E := 26) (s := 1) (k := .i64) (c := c35) rfl (by kernel_rfl) (by kernel_rfl) (by kernel_rfl) (fun _ => by kernel_rfl) (ix_in hx217).1 (ix_in hx217).2.1 (num_nil (hS203.row 0 rfl).1)) ?_
                    refine gd1 10 { dst := some 118, op := _, type := _, pos := _, after := _, guard := _ } (.int .u8 x216) rfl hS203 (fun w hSw => run_loadix rfl (by kernel_rfl) (fun _ => by kernel_rfl) (hSw.row 0 rfl).1 hx217) ?_
                    obtain ⟨c222, hE223, hO224⟩ := bind_in hE211
                    refine gd_mid (fun a w => ∃ (b221 : Bool), selfA (fun u220 => ⟨((u33 0) :: (.int .u8 p1) :: undef :: undef :: (u189 4) :: (.slice A34 l36.length c35) :: (u33 6) :: (.slice A112 l111.length c113) :: (.slice A115 l114.length c116) :: (.int .u8 x117) :: (.int .i64 x118) :: (.int .i64 x190) :: dd u5 12 8 (dd u33 20 39 (dd u124 59 2 ((.int .u8 p1) :: dd u124 62 3 ((.int .u8 x117) :: (.int .i64 x118) :: dd u124 67 35 ((.int .i64 x190) :: (u220 103) :: (.int .i64 ((l36.length : Nat) : Int)) :: (.bool true) :: dd u189 106 2 ((u220 108) :: (.int .i64 x190) :: (.pointer (Option.map (fun (p : Addr) => p.add (Int.toNat x190 * 1)) A112)) :: (.int .u8 x204) :: (.int .u8 x117) :: (.bool false) :: (.bool false) :: (u220 115) :: (.int .i64 x190) :: (.pointer (Option.map (fun (p : Addr) => p.add (Int.toNat x190 * 1)) A34)) :: (.int .u8 x216) :: dd u220 119 7 ((.bool b221) :: dd u189 127 19 (undef :: []))))))))).toArray, []⟩) a ∧ b221 = c222 ∧ St [] w0 w [rowE .u8 26 A34 c35 l36, rowE .u8 5 A112 c113 l111, rowE .u8 26 A115 c116 l114]) 19 #[true, true, true, true, true, true, true, true, true, true, true, true, true, true, true, true, true, true, true, false, false, false, false, false, false, false, false, false, false, false, false, false, false, false, false, false, false, false] ?_ ?_
                    · rintro _ w218 ⟨b221, hq225, rfl, hS219⟩
                      obtain ⟨u220, rfl⟩ := selfA_u hq225
                      try dsimp only at hO224
                      refine gd1 19 { dst := some 127, op := _, type := _, pos := _, after := _, guard := _ } (.bool b221) rfl hS219 (fun w hSw => by kernel_rfl) ?_
                      exact gd_to hK214 (by kernel_rfl) ⟨b221, selfA_i (by kernel_rfl), (Option.some.inj hO224), hS219⟩
                    · intro hK226
                      rcases if_in hE223 with ⟨h227, hE223⟩ | ⟨h227, hE223⟩
                      · refine gd1 11 { dst := some 119, op := _, type := _, pos := _, after := _, guard := _ } (.bool true) rfl hS203 (fun w hSw => run_boolE (decide_eq_true h227) (by kernel_rfl)) ?_
                        refine gd1 12 { dst := some 120, op := _, type := _, pos := _, after := _, guard := _ } (.bool true) rfl hS203 (fun w hSw => by kernel_rfl) ?_
                        refine gd1 13 { dst := some 121, op := _, type := _, pos := _, after := _, guard := _ } (.slice A115 l114.length c116) rfl hS203 (fun w hSw => by kernel_rfl) ?_
                        refine gd1 14 { dst := some 122, op := _, type := _, pos := _, after := _, guard := _ } (.int .i64 x190) rfl hS203 (fun w hSw => by kernel_rfl) ?_
                        obtain ⟨x228, hx229, hE223⟩ := bind_in hE223
                        refine gd1 15 { dst := some 123, op := _, type := _, pos := _, after := _, guard := _ } (.pointer (Option.map (fun (p : Addr) => p.add (Int.toNat x190 * 1)) A115)) rfl hS203 (fun w hSw => run_ixaddr (E := 26) (s := 1) (k := .i64) (c := c116) rfl (by kernel_rfl) (by kernel_rfl) (by kernel_rfl) (fun _ => by kernel_rfl) (ix_in hx229).1 (ix_in hx229).2.1 (num_nil (hS203.row 2 rfl).1)) ?_
                        refine gd1 16 { dst := some 124, op := _, type := _, pos := _, after := _, guard := _ } (.int .u8 x228) rfl hS203 (fun w hSw => run_loadix rfl (by kernel_rfl) (fun _ => by kernel_rfl) (hSw.row 2 rfl).1 hx229) ?_
                        rcases if_in hE223 with ⟨h230, hE223⟩ | ⟨h230, hE223⟩
                        · refine gd1 17 { dst := some 125, op := _, type := _, pos := _, after := _, guard := _ } (.bool true) rfl hS203 (fun w hSw => run_boolE (ne_yes h230) (by kernel_rfl)) ?_
                          refine gd1 18 { dst := some 126, op := _, type := _, pos := _, after := _, guard := _ } (.bool true) rfl hS203 (fun w hSw => by kernel_rfl) ?_
                          exact gd_to hK226 (by kernel_rfl) ⟨true, selfA_i (by kernel_rfl), (Option.some.inj hE223), hS203⟩
                        · refine gd1 17 { dst := some 125, op := _, type := _, pos := _, after := _, guard := _ } (.bool false) rfl hS203 (fun w hSw => run_boolE (ne_no h230) (by kernel_rfl)) ?_
                          refine gd1 18 { dst := some 126, op := _, type := _, pos := _, after := _, guard := _ } (.bool false) rfl hS203 (fun w hSw => by kernel_rfl) ?_
                          exact gd_to hK226 (by kernel_rfl) ⟨false, selfA_i (by kernel_rfl), (Option.some.inj hE223), hS203⟩
                      · refine gd1 11 { dst := some 119, op := _, type := _, pos := _, after := _, guard := _ } (.bool false) rfl hS203 (fun w hSw => run_boolE (decide_eq_false h227) (by kernel_rfl)) ?_
                        refine gd1 12 { dst := some 120, op := _, type := _, pos := _, after := _, guard := _ } (.bool false) rfl hS203 (fun w hSw => by kernel_rfl) ?_
                        refine gd0 13 { dst := some 121, op := _, type := _, pos := _, after := _, guard := _ } rfl hS203 ?_
                        refine gd0 14 { dst := some 122, op := _, type := _, pos := _, after := _, guard := _ } rfl hS203 ?_
                        refine gd0 15 { dst := some 123, op := _, type := _, pos := _, after := _, guard := _ } rfl hS203 ?_
                        refine gd0 16 { dst := some 124, op := _, type := _, pos := _, after := _, guard := _ } rfl hS203 ?_
                        refine gd0 17 { dst := some 125, op := _, type := _, pos := _, after := _, guard := _ } rfl hS203 ?_
                        refine gd1 18 { dst := some 126, op := _, type := _, pos := _, after := _, guard := _ } (.bool false) rfl hS203 (fun w hSw => by kernel_rfl) ?_
                        exact gd_to hK226 (by kernel_rfl) ⟨false, selfA_i (by kernel_rfl), (Option.some.inj hE223), hS203⟩
              · refine gx_val (.bool false) w187 (by kernel_rfl) (run_boolE (decide_eq_false h197) (by kernel_rfl)) ?_
                refine gx_nil ?_
                refine gx_thenN ?_
                refine hK196 _ _ ?_
                refine gx_no (by kernel_rfl) ?_
                refine gx_exit ?_
                refine gx_thenE ?_
                refine gx_thenE ?_
                refine gx_blkE ?_
                refine gx_thenN ?_
                exact ⟨selfA_i (by kernel_rfl), (Option.some.inj hL192), (hS188.pick [] rfl rfl)⟩
        · rintro _ w179 ⟨hq252, rfl, hS180⟩
          obtain ⟨u181, rfl⟩ := selfA_u hq252
          try dsimp only at hO184
          refine gx_seq (fun K244 hK245 => ?_)
          refine gx_region ?_
          have hP246 : St _ _ w179 ([] ++ []) := hS180
          obtain ⟨b248, hc247, hO184⟩ := bind_in hO184
          try dsimp only at hO184
          refine gx_call (kWorks_R b248 w179) (by kernel_rfl) (by kernel_rfl) (kWorks_ok N  _ hc247 w179 ) ?_
          rintro _ w249 ⟨rfl, hT251⟩
          have hS250 : St _ _ w249 [] := hS180.take _ hT251
          refine gx_val (.bool b248) w249 (by kernel_rfl) (by kernel_rfl) ?_
          refine gx_nil ?_
          refine gx_thenN ?_
          refine hK245 _ _ ?_
          refine gx_ret ?_
          obtain rfl := Option.some.inj hO184
          exact gx_fin (.bool b248) (by kernel_rfl) (by kernel_rfl) ⟨_, rfl, rfl, hS250⟩

end Go.Proofs.Ytapfdafmhiilkaa

/-
  EmbedMatches, walked.
-/
import Derived.Test.YtapfdafmhiilkaaF0
namespace Go.Proofs.Ytapfdafmhiilkaa
open Go Go.RowKit
set_option linter.unusedVariables false

def fMatches_L2 (N : Nat) (p0 : List Int) (l21 : List Int) (l32 : List Int) (l67 : List Int) : Nat → (List Int) → Int → Option (Ctl (Unit) (Bool))
  | 0, _, _ => none
  | k88+1, l86, x87 => (if x87 < ((l67.length : Nat) : Int) then ((ix l86 x87).bind fun x103 => ((ix l32 x87).bind fun x105 => (if x103 ≠ x105 then some (Ctl.ret false) else ((ix l21 x87).bind fun x110 => ((ix p0 x87).bind fun x112 => (if x110 ≠ x112 then some (Ctl.ret false) else ((ix l86 x87).bind fun _x117 => ((setx l86 x87 0).bind fun l121 => fMatches_L2 N p0 l21 l32 l67 k88 l121 (IntKind.i64.wrap (x87 + 1)))))))))) else some (Ctl.go ()))
def fMatches_L1 (N : Nat) (p0 : List Int) (l21 : List Int) (l32 : List Int) : Nat → Int → Option (Ctl (Unit) (Bool))
  | 0, _ => none
  | k50+1, x49 => (if x49 < 2 then ((((pMatch N l21).bind fun l67 => (if ((l67.length : Nat) : Int) ≠ ((l32.length : Nat) : Int) then some (Ctl.ret false) else fMatches_L2 N p0 l21 l32 l67 N l67 0)) : Option (Ctl (Unit) (Bool))).bind fun | Ctl.go () => fMatches_L1 N p0 l21 l32 k50 (IntKind.i64.wrap (x49 + 1)) | Ctl.ret r => some (Ctl.ret r)) else some (Ctl.go ()))
def fMatches (N : Nat) (p0 : List Int) : Option (Bool) :=
  (if ((p0.length : Nat) : Int) > 2000 then ((kWorks N ).bind fun b12 => some b12) else ((apx ([]) p0).bind fun l21 => ((rMatch N p0).bind fun l32 => ((fMatches_L1 N p0 l21 l32 N 0 : Option (Ctl (Unit) (Bool))).bind fun | Ctl.go () => ((pBase N l21).bind fun x130 => ((rBase N p0).bind fun x136 => (if x130 = x136 then ((kWorks N ).bind fun b143 => some b143) else some false))) | Ctl.ret r => some r))))

set_option linter.unusedVariables false in
def fMatches_R (r : Bool) (w0 : World) (v : Value) (w : World) : Prop := v = .bool r ∧ St [] w0 w []

set_option maxRecDepth 100000 in
set_option maxHeartbeats 4000000 in
theorem fMatches_ok (N : Nat) (p0 : List Int) (A0 : Option Addr) (c0 : Nat) (r : Bool) (hF : fMatches N p0 = some r) (w0 : World) (hv0 : Vw [] .u8 w0 A0 c0 p0) :
    Calls Try.prog 3 #[.slice A0 p0.length c0] w0 fun e w => ∃ v, e = .returned v ∧ fMatches_R r w0 v w := by
  have hS0 := St.start w0
  unfold fMatches at hF
  refine calls_of Try.func3 rfl ⟨((.slice A0 p0.length c0) :: un 64 ([])).toArray, []⟩ (by kernel_rfl) ?_
  refine gx_seq (fun K1 hK2 => ?_)
  refine gx_region ?_
  refine gx_val (.bool false) w0 (by kernel_rfl) (by kernel_rfl) ?_
  refine gx_nil ?_
  refine gx_thenN ?_
  refine hK2 _ _ ?_
  refine gx_seq (fun K3 hK4 => ?_)
  refine gx_seq (fun K5 hK6 => ?_)
  refine gx_region ?_
  refine gx_val (.slice A0 p0.length c0) w0 (by kernel_rfl) (by kernel_rfl) ?_
  refine gx_val (.int .i64 ((p0.length : Nat) : Int)) w0 (by kernel_rfl) (by kernel_rfl) ?_
  rcases if_in hF with ⟨h7, hF⟩ | ⟨h7, hF⟩
  · refine gx_val (.bool true) w0 (by kernel_rfl) (run_boolE (decide_eq_true h7) (by kernel_rfl)) ?_
    refine gx_nil ?_
    refine gx_thenN ?_
    refine hK6 _ _ ?_
    refine gx_yes (by kernel_rfl) ?_
    refine gx_seq (fun K8 hK9 => ?_)
    refine gx_region ?_
    have hP10 : St _ _ w0 ([] ++ []) := hS0
    obtain ⟨b12, hc11, hF⟩ := bind_in hF
    try dsimp only at hF
    refine gx_call (kWorks_R b12 w0) (by kernel_rfl) (by kernel_rfl) (kWorks_ok N  _ hc11 w0 ) ?_
    rintro _ w13 ⟨rfl, hT15⟩
    have hS14 : St _ _ w13 [] := hS0.take _ hT15
    refine gx_val (.bool b12) w13 (by kernel_rfl) (by kernel_rfl) ?_
    refine gx_nil ?_
    refine gx_thenN ?_
    refine hK9 _ _ ?_
    refine gx_ret ?_
    refine gx_thenR ?_
    obtain rfl := Option.some.inj hF
    exact gx_fin (.bool b12) (by kernel_rfl) (by kernel_rfl) ⟨_, rfl, rfl, hS14⟩
  · refine gx_val (.bool false) w0 (by kernel_rfl) (run_boolE (decide_eq_false h7) (by kernel_rfl)) ?_
    refine gx_nil ?_
    refine gx_thenN ?_
    refine hK6 _ _ ?_
    refine gx_no (by kernel_rfl) ?_
    refine gx_pass ?_
    refine gx_thenN ?_
    refine hK4 _ _ ?_
    refine gx_seq (fun K16 hK17 => ?_)
    refine gx_region ?_
    refine gx_val (.slice none 0 0) w0 (by kernel_rfl) (by kernel_rfl) ?_
    refine gx_nil ?_
    refine gx_thenN ?_
    refine hK17 _ _ ?_
    refine gx_seq (fun K18 hK19 => ?_)
    refine gx_region ?_
    refine gx_val (.slice none 0 0) w0 (by kernel_rfl) (by kernel_rfl) ?_
    refine gx_val (.slice A0 p0.length c0) w0 (by kernel_rfl) (by kernel_rfl) ?_
    have hS20 : St _ _ w0 [rowE .u8 26 none 0 ([])] := hS0.nilrow .u8 26
    obtain ⟨l21, ha22, hF⟩ := bind_in hF
    obtain ⟨ha22, hq23⟩ := apx_in ha22
    refine gx_R (by kernel_rfl) (st_append rfl (by kernel_rfl) (by kernel_rfl) hS20 0 rfl (hS20.view hv0) hv0.nn ha22 (by kernel_rfl) (by kernel_rfl)) ?_
    rintro _ w26 ⟨A24, c25, rfl, hS27⟩
    rw [← hq23] at hS27 ⊢
    have hS27 : St _ _ w26 [rowE .u8 26 A24 c25 l21] := hS27
    refine gx_val (.slice A24 l21.length c25) w26 (by kernel_rfl) (by kernel_rfl) ?_
    refine gx_nil ?_
    refine gx_thenN ?_
    refine hK19 _ _ ?_
    refine gx_seq (fun K28 hK29 => ?_)
    refine gx_region ?_
    refine gx_val (.slice A0 p0.length c0) w26 (by kernel_rfl) (by kernel_rfl) ?_
    have hP30 : St _ _ w26 ([] ++ [rowE .u8 26 A24 c25 l21]) := hS27
    obtain ⟨l32, hc31, hF⟩ := bind_in hF
    try dsimp only at hF
    refine gx_call (rMatch_R l32 w26) (by kernel_rfl) (by kernel_rfl) (rMatch_ok N p0 A0 c0 _ hc31 w26 (hP30.vwA hv0)) ?_
    rintro _ w35 ⟨A33, c34, rfl, hT37⟩
    have hS36 : St _ _ w35 [rowE .u8 26 A24 c25 l21, rowE .i64 3 A33 c34 l32] := hS27.take _ hT37
    refine gx_val (.slice A33 l32.length c34) w35 (by kernel_rfl) (by kernel_rfl) ?_
    refine gx_nil ?_
    refine gx_thenN ?_
    refine hK29 _ _ ?_
    obtain ⟨c41, hE42, hO43⟩ := bind_in hF
    refine gx_cut (fun a w => selfA (fun u40 => ⟨((.slice A0 p0.length c0) :: undef :: (u40 2) :: (.slice A24 l21.length c25) :: dd u40 4 5 ((.int .i64 ((p0.length : Nat) : Int)) :: (.bool false) :: undef :: (.slice none 0 0) :: dd u40 13 44 (un 8 ([])))).toArray, []⟩) a ∧ Ctl.go () = c41 ∧ St [] w0 w [rowE .u8 26 A24 c25 l21]) ?_ ?_
    · refine gx_seq (fun K44 hK45 => ?_)
      refine gx_region ?_
      refine gx_val (.int .i64 0) w35 (by kernel_rfl) (by kernel_rfl) ?_
      refine gx_nil ?_
      refine gx_thenN ?_
      refine hK45 _ _ ?_
      refine gx_block ?_
      refine gx_loop (fun k a w => ∃ (x49 : Int), selfA (fun u48 => ⟨((.slice A0 p0.length c0) :: undef :: (u48 2) :: (.slice A24 l21.length c25) :: (.slice A33 l32.length c34) :: (.int .i64 x49) :: dd u48 6 3 ((.int .i64 ((p0.length : Nat) : Int)) :: (.bool false) :: undef :: (.slice none 0 0) :: dd u48 13 44 (un 8 ([])))).toArray, []⟩) a ∧ fMatches_L1 N p0 l21 l32 k x49 = some c41 ∧ St [] w0 w [rowE .u8 26 A24 c25 l21, rowE .i64 3 A33 c34 l32]) N ?_ ?_
      · exact ⟨0, selfA_i (by kernel_rfl), hE42, hS36⟩
      · rintro k50 _ w46 ⟨x49, hq125, hL51, hS47⟩
        obtain ⟨u48, rfl⟩ := selfA_u hq125
        cases k50 with
        | zero => cases hL51
        | succ k50 =>
          rw [fMatches_L1] at hL51
          refine gx_seq (fun K52 hK53 => ?_)
          refine gx_seq (fun K54 hK55 => ?_)
          refine gx_region ?_
          refine gx_val (.int .i64 x49) w46 (by kernel_rfl) (by kernel_rfl) ?_
          rcases if_in hL51 with ⟨h56, hL51⟩ | ⟨h56, hL51⟩
          · refine gx_val (.bool true) w46 (by kernel_rfl) (run_boolE (decide_eq_true h56) (by kernel_rfl)) ?_
            refine gx_nil ?_
            refine gx_thenN ?_
            refine hK55 _ _ ?_
            refine gx_yes (by kernel_rfl) ?_
            refine gx_pass ?_
            refine gx_thenN ?_
            refine hK53 _ _ ?_
            obtain ⟨c60, hE61, hO62⟩ := bind_in hL51
            refine gx_cut (fun a w => selfA (fun u59 => ⟨((.slice A0 p0.length c0) :: undef :: (u59 2) :: (.slice A24 l21.length c25) :: (.slice A33 l32.length c34) :: (.int .i64 x49) :: dd u59 6 2 ((u48 8) :: (.int .i64 ((p0.length : Nat) : Int)) :: (.bool false) :: undef :: (.slice none 0 0) :: dd u48 13 4 ((.int .i64 x49) :: (.bool true) :: dd u48 19 2 (dd u59 21 36 (un 8 ([])))))).toArray, []⟩) a ∧ Ctl.go () = c60 ∧ St [] w0 w [rowE .u8 26 A24 c25 l21, rowE .i64 3 A33 c34 l32]) ?_ ?_
            · refine gx_block ?_
              refine gx_seq (fun K63 hK64 => ?_)
              refine gx_region ?_
              refine gx_val (.slice A24 l21.length c25) w46 (by kernel_rfl) (by kernel_rfl) ?_
              have hP65 : St _ _ w46 ([] ++ [rowE .u8 26 A24 c25 l21, rowE .i64 3 A33 c34 l32]) := hS47
              obtain ⟨l67, hc66, hE61⟩ := bind_in hE61
              try dsimp only at hE61
              refine gx_call (pMatch_R l67 w46) (by kernel_rfl) (by kernel_rfl) (pMatch_ok N l21 A24 c25 _ hc66 w46 (hP65.vwB 0 rfl)) ?_
              rintro _ w70 ⟨A68, c69, rfl, hT72⟩
              have hS71 : St _ _ w70 [rowE .u8 26 A24 c25 l21, rowE .i64 3 A33 c34 l32, rowE .i64 3 A68 c69 l67] := hS47.take _ hT72
              refine gx_val (.slice A68 l67.length c69) w70 (by kernel_rfl) (by kernel_rfl) ?_
              refine gx_nil ?_
              refine gx_thenN ?_
              refine hK64 _ _ ?_
              refine gx_seq (fun K73 hK74 => ?_)
              refine gx_seq (fun K75 hK76 => ?_)
              refine gx_region ?_
              refine gx_val (.slice A68 l67.length c69) w70 (by kernel_rfl) (by kernel_rfl) ?_
              refine gx_val (.int .i64 ((l67.length : Nat) : Int)) w70 (by kernel_rfl) (by kernel_rfl) ?_
              refine gx_val (.slice A33 l32.length c34) w70 (by kernel_rfl) (by kernel_rfl) ?_
              refine gx_val (.int .i64 ((l32.length : Nat) : Int)) w70 (by kernel_rfl) (by kernel_rfl) ?_
              rcases if_in hE61 with ⟨h77, hE61⟩ | ⟨h77, hE61⟩
              · refine gx_val (.bool true) w70 (by kernel_rfl) (run_boolE (ne_yes h77) (by kernel_rfl)) ?_
                refine gx_nil ?_
                refine gx_thenN ?_
                refine hK76 _ _ ?_
                refine gx_yes (by kernel_rfl) ?_
                refine gx_seq (fun K78 hK79 => ?_)
                refine gx_region ?_
                refine gx_val (.bool false) w70 (by kernel_rfl) (by kernel_rfl) ?_
                refine gx_nil ?_
                refine gx_thenN ?_
                refine hK79 _ _ ?_
                refine gx_ret ?_
                refine gx_thenR ?_
                refine gx_blkR ?_
                refine gx_thenR ?_
                obtain rfl := Option.some.inj hE61
                try dsimp only at hO62
                refine gx_thenR ?_
                refine gx_blkR ?_
                refine gx_thenR ?_
                obtain rfl := Option.some.inj hO62
                try dsimp only at hO43
                obtain rfl := Option.some.inj hO43
                exact gx_fin (.bool false) (by kernel_rfl) (by kernel_rfl) ⟨_, rfl, rfl, (hS71.pick [] rfl rfl)⟩
              · refine gx_val (.bool false) w70 (by kernel_rfl) (run_boolE (ne_no h77) (by kernel_rfl)) ?_
                refine gx_nil ?_
                refine gx_thenN ?_
                refine hK76 _ _ ?_
                refine gx_no (by kernel_rfl) ?_
                refine gx_pass ?_
                refine gx_thenN ?_
                refine hK74 _ _ ?_
                refine gx_seq (fun K80 hK81 => ?_)
                refine gx_region ?_
                refine gx_val (.int .i64 0) w70 (by kernel_rfl) (by kernel_rfl) ?_
                refine gx_nil ?_
                refine gx_thenN ?_
                refine hK81 _ _ ?_
                refine gx_block ?_
                refine gx_loop (fun k a w => ∃ (l86 : List Int) (x87 : Int), selfA (fun u84 => ⟨((.slice A0 p0.length c0) :: undef :: (u84 2) :: (.slice A24 l21.length c25) :: (.slice A33 l32.length c34) :: (.int .i64 x49) :: (.slice A68 l67.length c69) :: (.int .i64 x87) :: (u48 8) :: (.int .i64 ((p0.length : Nat) : Int)) :: (.bool false) :: undef :: (.slice none 0 0) :: dd u48 13 4 ((.int .i64 x49) :: (.bool true) :: dd u48 19 2 (dd u84 21 3 ((.int .i64 ((l67.length : Nat) : Int)) :: (u84 25) :: (.int .i64 ((l32.length : Nat) : Int)) :: (.bool false) :: dd u84 28 29 (un 8 ([])))))).toArray, []⟩) a ∧ fMatches_L2 N p0 l21 l32 l67 k l86 x87 = some c60 ∧ St [] w0 w [rowE .u8 26 A24 c25 l21, rowE .i64 3 A33 c34 l32, rowE .i64 3 A68 c69 l86] ∧ l67.length = l86.length) N ?_ ?_
                · exact ⟨l67, 0, selfA_i (by kernel_rfl), hE61, hS71, rfl⟩
                · rintro k88 _ w82 ⟨l86, x87, hq123, hL89, hS83, hn85⟩
                  obtain ⟨u84, rfl⟩ := selfA_u hq123
                  cases k88 with
                  | zero => cases hL89
                  | succ k88 =>
                    rw [fMatches_L2] at hL89
                    refine gx_seq (fun K90 hK91 => ?_)
                    refine gx_seq (fun K92 hK93 => ?_)
                    refine gx_region ?_
                    refine gx_val (.int .i64 x87) w82 (by kernel_rfl) (by kernel_rfl) ?_
                    refine gx_val (.slice A68 l67.length c69) w82 (by kernel_rfl) (by kernel_rfl) ?_
                    refine gx_val (.int .i64 ((l67.length : Nat) : Int)) w82 (by kernel_rfl) (by kernel_rfl) ?_
                    rcases if_in hL89 with ⟨h94, hL89⟩ | ⟨h94, hL89⟩
                    · refine gx_val (.bool true) w82 (by kernel_rfl) (run_boolE (decide_eq_true h94) (by kernel_rfl)) ?_
                      refine gx_nil ?_
                      refine gx_thenN ?_
                      refine hK93 _ _ ?_
                      refine gx_yes (by kernel_rfl) ?_
                      refine gx_pass ?_
                      refine gx_thenN ?_
                      refine hK91 _ _ ?_
                      refine gx_seq (fun K95 hK96 => ?_)
                      refine gx_block ?_
                      refine gx_seq (fun K97 hK98 => ?_)
                      refine gx_seq (fun K99 hK100 => ?_)
                      refine gd_start (fun w => St [] w0 w [rowE .u8 26 A24 c25 l21, rowE .i64 3 A33 c34 l32, rowE .i64 3 A68 c69 l86]) 20 #[false, false, false, false, false, false, false, false, false, false, false, false, false, false, false, false, false, false, false, false] (by kernel_rfl) (by kernel_rfl) ?_
                      have hS102 := hS83.drew
                      generalize w82.drew = w101 at hS102 ⊢
                      refine gd1 0 { dst := some 34, op := _, type := _, pos := _, after := _, guard := _ } (.slice A68 l67.length c69) rfl hS102 (fun w hSw => by kernel_rfl) ?_
                      refine gd1 1 { dst := some 35, op := _, type := _, pos := _, after := _, guard := _ } (.int .i64 x87) rfl hS102 (fun w hSw => by kernel_rfl) ?_
                      obtain ⟨x103, hx104, hL89⟩ := bind_in hL89
                      refine gd1 2 { dst := some 36, op := _, type := _, pos := _, after := _, guard := _ } (.pointer (Option.map (fun (p : Addr) => p.add (Int.toNat x87 * 1)) A68)) rfl hS102 (fun w hSw => run_ixaddr (E := 3) (s := 1) (k := .i64) (c := c69) rfl (by kernel_rfl) (by kernel_rfl) (by kernel_rfl) (fun _ => by kernel_rfl) (ix_in hx104).1 (lt_len hn85 (ix_in hx104).2.1) (nil_len hn85 (num_nil (hS102.row 2 rfl).1))) ?_
                      refine gd1 3 { dst := some 37, op := _, type := _, pos := _, after := _, guard := _ } (.int .i64 x103) rfl hS102 (fun w hSw => run_loadix rfl (by kernel_rfl) (fun _ => by kernel_rfl) (hSw.row 2 rfl).1 hx104) ?_
                      refine gd1 4 { dst := some 38, op := _, type := _, pos := _, after := _, guard := _ } (.slice A33 l32.length c34) rfl hS102 (fun w hSw => by kernel_rfl) ?_
                      refine gd1 5 { dst := some 39, op := _, type := _, pos := _, after := _, guard := _ } (.int .i64 x87) rfl hS102 (fun w hSw => by kernel_rfl) ?_
                      obtain ⟨x105, hx106, hL89⟩ := bind_in hL89
                      refine gd1 6 { dst := some 40, op := _, type := _, pos := _, after := _, guard := _ } (.pointer (Option.map (fun (p : Addr) => p.add (Int.toNat x87 * 1)) A33)) rfl hS102 (fun w hSw => run_ixaddr (E := 3) (s := 1) (k := .i64) (c := c34) rfl (by kernel_rfl) (by kernel_rfl) (by kernel_rfl) (fun _ => by kernel_rfl) (ix_in hx106).1 (ix_in hx106).2.1 (num_nil (hS102.row 1 rfl).1)) ?_
                      refine gd1 7 { dst := some 41, op := _, type := _, pos := _, after := _, guard := _ } (.int .i64 x105) rfl hS102 (fun w hSw => run_loadix rfl (by kernel_rfl) (fun _ => by kernel_rfl) (hSw.row 1 rfl).1 hx106) ?_
                      rcases if_in hL89 with ⟨h107, hL89⟩ | ⟨h107, hL89⟩
                      · refine gd1 8 { dst := some 42, op := _, type := _, pos := _, after := _, guard := _ } (.bool true) rfl hS102 (fun w hSw => run_boolE (ne_yes h107) (by kernel_rfl)) ?_
                        refine gd1 9 { dst := some 43, op := _, type := _, pos := _, after := _, guard := _ } (.bool true) rfl hS102 (fun w hSw => by kernel_rfl) ?_
                        refine gd0 10 { dst := some 44, op := _, type := _, pos := _, after := _, guard := _ } rfl hS102 ?_
                        refine gd0 11 { dst := some 45, op := _, type := _, pos := _, after := _, guard := _ } rfl hS102 ?_
                        refine gd0 12 { dst := some 46, op := _, type := _, pos := _, after := _, guard := _ } rfl hS102 ?_
                        refine gd0 13 { dst := some 47, op := _, type := _, pos := _, after := _, guard := _ } rfl hS102 ?_
                        refine gd0 14 { dst := some 48, op := _, type := _, pos := _, after := _, guard := _ } rfl hS102 ?_
                        refine gd0 15 { dst := some 49, op := _, type := _, pos := _, after := _, guard := _ } rfl hS102 ?_
                        refine gd0 16 { dst := some 50, op := _, type := _, pos := _, after := _, guard := _ } rfl hS102 ?_
                        refine gd0 17 { dst := some 51, op := _, type := _, pos := _, after := _, guard := _ } rfl hS102 ?_
                        refine gd0 18 { dst := some 52, op := _, type := _, pos := _, after := _, guard := _ } rfl hS102 ?_
                        refine gd1 19 { dst := some 53, op := _, type := _, pos := _, after := _, guard := _ } (.bool true) rfl hS102 (fun w hSw => by kernel_rfl) ?_
                        refine gd_done (by kernel_rfl) ?_
                        refine gx_thenN ?_
                        refine hK100 _ _ ?_
                        refine gx_yes (by kernel_rfl) ?_
                        refine gx_seq (fun K108 hK109 => ?_)
                        refine gx_region ?_
                        refine gx_val (.bool false) w101 (by kernel_rfl) (by kernel_rfl) ?_
                        refine gx_nil ?_
                        refine gx_thenN ?_
                        refine hK109 _ _ ?_
                        refine gx_ret ?_
                        refine gx_thenR ?_
                        refine gx_blkR ?_
                        refine gx_thenR ?_
                        refine gx_thenR ?_
                        refine gx_blkR ?_
                        refine gx_blkR ?_
                        refine gx_thenR ?_
                        obtain rfl := Option.some.inj hL89
                        try dsimp only at hO62
                        refine gx_thenR ?_
                        refine gx_blkR ?_
                        refine gx_thenR ?_
                        obtain rfl := Option.some.inj hO62
                        try dsimp only at hO43
                        obtain rfl := Option.some.inj hO43
                        exact gx_fin (.bool false) (by kernel_rfl) (by kernel_rfl) ⟨_, rfl, rfl, (hS102.pick [] rfl rfl)⟩
                      · refine gd1 8 { dst := some 42, op := _, type := _, pos := _, after := _, guard := _ } (.bool false) rfl hS102 (fun w hSw => run_boolE (ne_no h107) (by kernel_rfl)) ?_
                        refine gd1 9 { dst := some 43, op := _, type := _, pos := _, after := _, guard := _ } (.bool false) rfl hS102 (fun w hSw => by kernel_rfl) ?_
                        refine gd1 10 { dst := some 44, op := _, type := _, pos := _, after := _, guard := _ } (.slice A24 l21.length c25) rfl hS102 (fun w hSw => by kernel_rfl) ?_
                        refine gd1 11 { dst := some 45, op := _, type := _, pos := _, after := _, guard := _ } (.int .i64 x87) rfl hS102 (fun w hSw => by kernel_rfl) ?_
                        obtain ⟨x110, hx111, hL89⟩ := bind_in hL89
                        refine gd1 12 { dst := some 46, op := _, type := _, pos := _, after := _, guard := _ } (.pointer (Option.map (fun (p : Addr) => p.add (Int.toNat x87 * 1)) A24)) rfl hS102 (fun w hSw => run_ixaddr (E := 26) (s := 1) (k := .i64) (c := c25) rfl (by kernel_rfl) (by kernel_rfl) (by kernel_rfl) (fun _ => by kernel_rfl) (ix_in hx111).1 (ix_in hx111).2.1 (num_nil (hS102.row 0 rfl).1)) ?_
                        refine gd1 13 { dst := some 47, op := _, type := _, pos := _, after := _, guard := _ } (.int .u8 x110) rfl hS102 (fun w hSw => run_loadix rfl (by kernel_rfl) (fun _ => by kernel_rfl) (hSw.row 0 rfl).1 hx111) ?_
                        refine gd1 14 { dst := some 48, op := _, type := _, pos := _, after := _, guard := _ } (.slice A0 p0.length c0) rfl hS102 (fun w hSw => by kernel_rfl) ?_
                        refine gd1 15 { dst := some 49, op := _, type := _, pos := _, after := _, guard := _ } (.int .i64 x87) rfl hS102 (fun w hSw => by kernel_rfl) ?_
                        obtain ⟨x112, hx113, hL89⟩ := bind_in hL89
                        refine gd1 16 { dst := some 50, op := _, type := _, pos := _, after := _, guard := _ } (.pointer (Option.map (fun (p : Addr) => p.add (Int.toNat x87 * 1)) A0)) rfl hS102 (fun w hSw => run_ixaddr (E := 26) (s := 1) (k := .i64) (c := c0) rfl (by kernel_rfl) (by kernel_rfl) (by kernel_rfl) (fun _ => by kernel_rfl) (ix_in hx113).1 (ix_in hx113).2.1 (num_nil (hS102.view hv0))) ?_
                        refine gd1 17 { dst := some 51, op := _, type := _, pos := _, after := _, guard := _ } (.int .u8 x112) rfl hS102 (fun w hSw => run_loadix rfl (by kernel_rfl) (fun _ => by kernel_rfl) (hSw.view hv0) hx113) ?_
                        rcases if_in hL89 with ⟨h114, hL89⟩ | ⟨h114, hL89⟩
                        · refine gd1 18 { dst := some 52, op := _, type := _, pos := _, after := _, guard := _ } (.bool true) rfl hS102 (fun w hSw => run_boolE (ne_yes h114) (by kernel_rfl)) ?_
                          refine gd1 19 { dst := some 53, op := _, type := _, pos := _, after := _, guard := _ } (.bool true) rfl hS102 (fun w hSw => by kernel_rfl) ?_
                          refine gd_done (by kernel_rfl) ?_
                          refine gx_thenN ?_
                          refine hK100 _ _ ?_
                          refine gx_yes (by kernel_rfl) ?_
                          refine gx_seq (fun K115 hK116 => ?_)
                          refine gx_region ?_
                          refine gx_val (.bool false) w101 (by kernel_rfl) (by kernel_rfl) ?_
                          refine gx_nil ?_
                          refine gx_thenN ?_
                          refine hK116 _ _ ?_
                          refine gx_ret ?_
                          refine gx_thenR ?_
                          refine gx_blkR ?_
                          refine gx_thenR ?_
                          refine gx_thenR ?_
                          refine gx_blkR ?_
                          refine gx_blkR ?_
                          refine gx_thenR ?_
                          obtain rfl := Option.some.inj hL89
                          try dsimp only at hO62
                          refine gx_thenR ?_
                          refine gx_blkR ?_
                          refine gx_thenR ?_
                          obtain rfl := Option.some.inj hO62
                          try dsimp only at hO43
                          obtain rfl := Option.some.inj hO43
                          exact gx_fin (.bool false) (by kernel_rfl) (by kernel_rfl) ⟨_, rfl, rfl, (hS102.pick [] rfl rfl)⟩
                        · refine gd1 18 { dst := some 52, op := _, type := _, pos := _, after := _, guard := _ } (.bool false) rfl hS102 (fun w hSw => run_boolE (ne_no h114) (by kernel_rfl)) ?_
                          refine gd1 19 { dst := some 53, op := _, type := _, pos := _, after := _, guard := _ } (.bool false) rfl hS102 (fun w hSw => by kernel_rfl) ?_
                          refine gd_done (by kernel_rfl) ?_
                          refine gx_thenN ?_
                          refine hK100 _ _ ?_
                          refine gx_no (by kernel_rfl) ?_
                          refine gx_pass ?_
                          refine gx_thenN ?_
                          refine hK98 _ _ ?_
                          refine gx_region ?_
                          refine gx_val (.slice A68 l67.length c69) w101 (by kernel_rfl) (by kernel_rfl) ?_
                          refine gx_val (.int .i64 x87) w101 (by kernel_rfl) (by kernel_rfl) ?_
                          obtain ⟨x117, hx118, hL89⟩ := bind_in hL89
                          refine gx_val (.pointer (Option.map (fun (p : Addr) => p.add (Int.toNat x87 * 1)) A68)) w101 (by kernel_rfl) (run_ixaddr (E := 3) (s := 1) (k := .i64) (c := c69) rfl (by kernel_rfl) (by kernel_rfl) (by kernel_rfl) (fun _ => by kernel_rfl) (ix_in hx118).1 (lt_len hn85 (ix_in hx118).2.1) (nil_len hn85 (num_nil (hS102.row 2 rfl).1))) ?_
                          obtain ⟨l121, hx122, hL89⟩ := bind_in hL89
                          refine gx_S (by kernel_rfl) (st_storeix rfl (by kernel_rfl) (by kernel_rfl) (fun _ => by kernel_rfl) hS102 2 rfl hx122) ?_
                          rintro w119 hS120
                          have hS120 : St _ _ w119 [rowE .u8 26 A24 c25 l21, rowE .i64 3 A33 c34 l32, rowE .i64 3 A68 c69 l121] := hS120
                          refine gx_nil ?_
                          refine gx_blkN ?_
                          refine gx_thenN ?_
                          refine hK96 _ _ ?_
                          refine gx_region ?_
                          refine gx_val (.int .i64 x87) w119 (by kernel_rfl) (by kernel_rfl) ?_
                          refine gx_val (.int .i64 (IntKind.i64.wrap (x87 + 1))) w119 (by kernel_rfl) (by kernel_rfl) ?_
                          refine gx_val (.int .i64 (IntKind.i64.wrap (x87 + 1))) w119 (by kernel_rfl) (by kernel_rfl) ?_
                          refine gx_nil ?_
                          refine gx_thenN ?_
                          exact ⟨k88, Nat.lt_succ_self k88, l121, (IntKind.i64.wrap (x87 + 1)), selfA_i (by kernel_rfl), hL89, hS120, (hn85.trans (setx_len hx122).symm)⟩
                    · refine gx_val (.bool false) w82 (by kernel_rfl) (run_boolE (decide_eq_false h94) (by kernel_rfl)) ?_
                      refine gx_nil ?_
                      refine gx_thenN ?_
                      refine hK93 _ _ ?_
                      refine gx_no (by kernel_rfl) ?_
                      refine gx_exit ?_
                      refine gx_thenE ?_
                      refine gx_thenE ?_
                      refine gx_blkE ?_
                      refine gx_blkN ?_
                      refine gx_thenN ?_
                      exact ⟨selfA_i (by kernel_rfl), (Option.some.inj hL89), (hS83.pick [0, 1] rfl rfl)⟩
            · rintro _ w57 ⟨hq124, rfl, hS58⟩
              obtain ⟨u59, rfl⟩ := selfA_u hq124
              try dsimp only at hO62
              refine gx_region ?_
              refine gx_val (.int .i64 x49) w57 (by kernel_rfl) (by kernel_rfl) ?_
              refine gx_val (.int .i64 (IntKind.i64.wrap (x49 + 1))) w57 (by kernel_rfl) (by kernel_rfl) ?_
              refine gx_val (.int .i64 (IntKind.i64.wrap (x49 + 1))) w57 (by kernel_rfl) (by kernel_rfl) ?_
              refine gx_nil ?_
              refine gx_thenN ?_
              exact ⟨k50, Nat.lt_succ_self k50, (IntKind.i64.wrap (x49 + 1)), selfA_i (by kernel_rfl), hO62, hS58⟩
          · refine gx_val (.bool false) w46 (by kernel_rfl) (run_boolE (decide_eq_false h56) (by kernel_rfl)) ?_
            refine gx_nil ?_
            refine gx_thenN ?_
            refine hK55 _ _ ?_
            refine gx_no (by kernel_rfl) ?_
            refine gx_exit ?_
            refine gx_thenE ?_
            refine gx_thenE ?_
            refine gx_blkE ?_
            refine gx_thenN ?_
            exact ⟨selfA_i (by kernel_rfl), (Option.some.inj hL51), (hS47.pick [0] rfl rfl)⟩
    · rintro _ w38 ⟨hq147, rfl, hS39⟩
      obtain ⟨u40, rfl⟩ := selfA_u hq147
      try dsimp only at hO43
      refine gx_seq (fun K126 hK127 => ?_)
      refine gx_region ?_
      refine gx_val (.slice A24 l21.length c25) w38 (by kernel_rfl) (by kernel_rfl) ?_
      have hP128 : St _ _ w38 ([] ++ [rowE .u8 26 A24 c25 l21]) := hS39
      obtain ⟨x130, hc129, hO43⟩ := bind_in hO43
      try dsimp only at hO43
      refine gx_call (pBase_R x130 w38) (by kernel_rfl) (by kernel_rfl) (pBase_ok N l21 A24 c25 _ hc129 w38 (hP128.vwB 0 rfl)) ?_
      rintro _ w131 ⟨rfl, hT133⟩
      have hS132 : St _ _ w131 [rowE .u8 26 A24 c25 l21] := hS39.take _ hT133
      refine gx_val (.slice A0 p0.length c0) w131 (by kernel_rfl) (by kernel_rfl) ?_
      have hP134 : St _ _ w131 ([] ++ [rowE .u8 26 A24 c25 l21]) := hS132
      obtain ⟨x136, hc135, hO43⟩ := bind_in hO43
      try dsimp only at hO43
      refine gx_call (rBase_R x136 w131) (by kernel_rfl) (by kernel_rfl) (rBase_ok N p0 A0 c0 _ hc135 w131 (hP134.vwA hv0)) ?_
      rintro _ w137 ⟨rfl, hT139⟩
      have hS138 : St _ _ w137 [rowE .u8 26 A24 c25 l21] := hS132.take _ hT139
      rcases if_in hO43 with ⟨h140, hO43⟩ | ⟨h140, hO43⟩
      · refine gx_val (.bool true) w137 (by kernel_rfl) (run_boolE (decide_eq_true h140) (by kernel_rfl)) ?_
        refine gx_val (.bool true) w137 (by kernel_rfl) (by kernel_rfl) ?_
        have hP141 : St _ _ w137 ([] ++ [rowE .u8 26 A24 c25 l21]) := hS138
        obtain ⟨b143, hc142, hO43⟩ := bind_in hO43
        try dsimp only at hO43
        refine gx_call (kWorks_R b143 w137) (by kernel_rfl) (by kernel_rfl) (kWorks_ok N  _ hc142 w137 ) ?_
        rintro _ w144 ⟨rfl, hT146⟩
        have hS145 : St _ _ w144 [rowE .u8 26 A24 c25 l21] := hS138.take _ hT146
        refine gx_val (.bool b143) w144 (by kernel_rfl) (by kernel_rfl) ?_
        refine gx_val (.bool b143) w144 (by kernel_rfl) (by kernel_rfl) ?_
        refine gx_nil ?_
        refine gx_thenN ?_
        refine hK127 _ _ ?_
        refine gx_ret ?_
        obtain rfl := Option.some.inj hO43
        exact gx_fin (.bool b143) (by kernel_rfl) (by kernel_rfl) ⟨_, rfl, rfl, (hS145.pick [] rfl rfl)⟩
      · refine gx_val (.bool false) w137 (by kernel_rfl) (run_boolE (decide_eq_false h140) (by kernel_rfl)) ?_
        refine gx_val (.bool false) w137 (by kernel_rfl) (by kernel_rfl) ?_
        refine gx_off (by kernel_rfl) ?_
        refine gx_val (.bool false) w137 (by kernel_rfl) (by kernel_rfl) ?_
        refine gx_val (.bool false) w137 (by kernel_rfl) (by kernel_rfl) ?_
        refine gx_nil ?_
        refine gx_thenN ?_
        refine hK127 _ _ ?_
        refine gx_ret ?_
        obtain rfl := Option.some.inj hO43
        exact gx_fin (.bool false) (by kernel_rfl) (by kernel_rfl) ⟨_, rfl, rfl, (hS138.pick [] rfl rfl)⟩

end Go.Proofs.Ytapfdafmhiilkaa

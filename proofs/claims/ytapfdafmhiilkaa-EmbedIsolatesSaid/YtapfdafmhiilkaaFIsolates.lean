/-
  EmbedIsolates, walked.
-/
import Derived.Test.YtapfdafmhiilkaaF0
namespace Go.Proofs.Ytapfdafmhiilkaa
open Go Go.RowKit
set_option linter.unusedVariables false

def fIsolates_L1 (N : Nat) (p0 : List Int) (l181 : List Int) (l184 : List Int) (l196 : List Int) (l199 : List Int) : Nat → Int → Option (Ctl (Unit) (Bool))
  | 0, _ => none
  | k312+1, x311 => (if x311 ≤ ((p0.length : Nat) : Int) then ((ix l181 x311).bind fun x325 => ((ix l196 x311).bind fun x327 => (if x325 ≠ x327 then some (Ctl.ret false) else ((ix l184 x311).bind fun x332 => ((ix l199 x311).bind fun x334 => (if x332 ≠ x334 then some (Ctl.ret false) else fIsolates_L1 N p0 l181 l184 l196 l199 k312 (IntKind.i64.wrap (x311 + 1)))))))) else some (Ctl.go ()))
def fIsolates_L2 (N : Nat) (p3 : List Int) (l161 : List Int) (l170 : List Int) (l181 : List Int) (l184 : List Int) (l196 : List Int) (l199 : List Int) : Nat → Int → Option (Ctl (Unit) (Bool))
  | 0, _ => none
  | k352+1, x351 => (if x351 ≤ ((p3.length : Nat) : Int) then ((ix l181 (IntKind.i64.wrap ((IntKind.i64.wrap (((l161.length : Nat) : Int) - 1)) - x351))).bind fun x367 => ((ix l196 (IntKind.i64.wrap ((IntKind.i64.wrap (((l170.length : Nat) : Int) - 1)) - x351))).bind fun x369 => (if x367 ≠ x369 then some (Ctl.ret false) else ((ix l184 (IntKind.i64.wrap ((IntKind.i64.wrap (((l161.length : Nat) : Int) - 1)) - x351))).bind fun x374 => ((ix l199 (IntKind.i64.wrap ((IntKind.i64.wrap (((l170.length : Nat) : Int) - 1)) - x351))).bind fun x376 => (if x374 ≠ x376 then some (Ctl.ret false) else fIsolates_L2 N p3 l161 l170 l181 l184 l196 l199 k352 (IntKind.i64.wrap (x351 + 1)))))))) else some (Ctl.go ()))
def fIsolates (N : Nat) (p0 : List Int) (p1 : List Int) (p2 : List Int) (p3 : List Int) (p4 : Bool) (p5 : Int) : Option (Bool) :=
  (((((if ((p0.length : Nat) : Int) > 600 then some (true) else (if ((p1.length : Nat) : Int) > 600 then some (true) else some (false))) : Option (Bool)).bind fun b14 => (((match b14 with | true => some (true) | false => (if ((p2.length : Nat) : Int) > 600 then some (true) else some (false))) : Option (Bool)).bind fun b24 => (((match b24 with | true => some (true) | false => (if ((p3.length : Nat) : Int) > 600 then some (true) else some (false))) : Option (Bool)).bind fun b33 => (match b33 with | true => ((kWorks N ).bind fun b43 => some (Ctl.ret b43)) | false => ((kPlain N p1).bind fun b49 => (match b49 with | true => ((kPlain N p2).bind fun b55 => (match b55 with | true => some (Ctl.go ()) | false => ((kWorks N ).bind fun b63 => some (Ctl.ret b63)))) | false => ((kWorks N ).bind fun b71 => some (Ctl.ret b71)))))))) : Option (Ctl (Unit) (Bool))).bind fun | Ctl.go () => (((match p4 with | true => some (21) | false => some (20)) : Option (Int)).bind fun x80 => ((apx ([]) p0).bind fun l91 => ((apx l91 ([x80])).bind fun l102 => ((apx ([]) l102).bind fun l112 => ((apx l102 p1).bind fun l121 => ((apx l112 p2).bind fun l130 => ((apx l121 ([23])).bind fun l141 => ((apx l130 ([23])).bind fun l152 => ((apx l141 p3).bind fun l161 => ((apx l152 p3).bind fun l170 => ((pLevels N l161 p5).bind fun (l181, l184, x187, x188) => ((pLevels N l170 p5).bind fun (l196, l199, x202, x203) => (((if x188 ≠ x203 then some (true) else (if x187 ≠ x202 then some (true) else (if x188 ≠ 0 then some (true) else some (false)))) : Option (Bool)).bind fun b212 => (match b212 with | true => (if x188 = x203 then ((kWorks N ).bind fun b224 => some b224) else some false) | false => ((apx ([]) p0).bind fun l233 => ((apx l233 ([x80, 14])).bind fun l244 => ((pLevels N l244 x187).bind fun (l255, _l258, _x261, _x262) => (((if ((l255.length : Nat) : Int) ≠ (IntKind.i64.wrap (((p0.length : Nat) : Int) + 2)) then ((kWorks N ).bind fun b283 => some (Ctl.ret b283)) else ((ix l255 (IntKind.i64.wrap (((p0.length : Nat) : Int) + 1))).bind fun x287 => ((ix l255 ((p0.length : Nat) : Int)).bind fun x289 => (if x287 = x289 then ((kWorks N ).bind fun b296 => some (Ctl.ret b296)) else some (Ctl.go ()))))) : Option (Ctl (Unit) (Bool))).bind fun | Ctl.go () => ((fIsolates_L1 N p0 l181 l184 l196 l199 N 0 : Option (Ctl (Unit) (Bool))).bind fun | Ctl.go () => ((fIsolates_L2 N p3 l161 l170 l181 l184 l196 l199 N 0 : Option (Ctl (Unit) (Bool))).bind fun | Ctl.go () => ((kWorks N ).bind fun b386 => some b386) | Ctl.ret r => some r) | Ctl.ret r => some r) | Ctl.ret r => some r)))))))))))))))))) | Ctl.ret r => some r)

set_option linter.unusedVariables false in
def fIsolates_R (r : Bool) (w0 : World) (v : Value) (w : World) : Prop := v = .bool r ∧ St [] w0 w []

set_option maxRecDepth 100000 in
set_option maxHeartbeats 4000000 in
theorem fIsolates_ok (N : Nat) (p0 : List Int) (p1 : List Int) (p2 : List Int) (p3 : List Int) (p4 : Bool) (p5 : Int) (A0 : Option Addr) (c0 : Nat) (A1 : Option Addr) (c1 : Nat) (A2 : Option Addr) (c2 : Nat) (A3 : Option Addr) (c3 : Nat) (r : Bool) (hF : fIsolates N p0 p1 p2 p3 p4 p5 = some r) (w0 : World) (hv0 : Vw [] .u8 w0 A0 c0 p0) (hv1 : Vw [] .u8 w0 A1 c1 p1) (hv2 : Vw [] .u8 w0 A2 c2 p2) (hv3 : Vw [] .u8 w0 A3 c3 p3) :
    Calls Try.prog 5 #[.slice A0 p0.length c0, .slice A1 p1.length c1, .slice A2 p2.length c2, .slice A3 p3.length c3, .bool p4, .int .u8 p5] w0 fun e w => ∃ v, e = .returned v ∧ fIsolates_R r w0 v w := by
  have hS0 := St.start w0
  unfold fIsolates at hF
  refine calls_of Try.func5 rfl ⟨((.slice A0 p0.length c0) :: (.slice A1 p1.length c1) :: (.slice A2 p2.length c2) :: (.slice A3 p3.length c3) :: (.bool p4) :: (.int .u8 p5) :: un 218 ([])).toArray, []⟩ (by as_aux_lemma => kernel_rfl) ?_
  refine gx_seq (fun K1 hK2 => ?_)
  refine gx_region ?_
  refine gx_val (.bool false) w0 (by as_aux_lemma => kernel_rfl) (by as_aux_lemma => kernel_rfl) ?_
  refine gx_nil ?_
  refine gx_thenN ?_
  refine hK2 _ _ ?_
  obtain ⟨c6, hE7, hO8⟩ := bind_in hF
  refine gx_cut (fun a w => selfA (fun u5 => ⟨((.slice A0 p0.length c0) :: (.slice A1 p1.length c1) :: (.slice A2 p2.length c2) :: (.slice A3 p3.length c3) :: (.bool p4) :: (.int .u8 p5) :: un 6 ((u5 12) :: un 21 (dd u5 34 29 (un 161 ([]))))).toArray, []⟩) a ∧ Ctl.go () = c6 ∧ St [] w0 w []) ?_ ?_
  · refine gx_seq (fun K9 hK10 => ?_)
    refine gx_region ?_
    refine gx_val (.slice A0 p0.length c0) w0 (by as_aux_lemma => kernel_rfl) (by as_aux_lemma => kernel_rfl) ?_
    refine gx_val (.int .i64 ((p0.length : Nat) : Int)) w0 (by as_aux_lemma => kernel_rfl) (by as_aux_lemma => kernel_rfl) ?_
    obtain ⟨c15, hE16, hO17⟩ := bind_in hE7
    refine gx_part (l1 := [_, _, _, _, _, _]) (fun a w => ∃ (b14 : Bool), selfA (fun u13 => ⟨((.slice A0 p0.length c0) :: (.slice A1 p1.length c1) :: (.slice A2 p2.length c2) :: (.slice A3 p3.length c3) :: (.bool p4) :: (.int .u8 p5) :: un 6 ((.bool false) :: un 21 ((u13 34) :: (.int .i64 ((p0.length : Nat) : Int)) :: dd u13 36 5 ((.bool b14) :: un 182 ([]))))).toArray, []⟩) a ∧ b14 = c15 ∧ St [] w0 w []) rfl ?_ ?_
    · rcases if_in hE16 with ⟨h19, hE16⟩ | ⟨h19, hE16⟩
      · refine gx_val (.bool true) w0 (by as_aux_lemma => kernel_rfl) (run_boolE (decide_eq_true h19) (by as_aux_lemma => kernel_rfl)) ?_
        refine gx_val (.bool true) w0 (by as_aux_lemma => kernel_rfl) (by as_aux_lemma => kernel_rfl) ?_
        refine gx_off (by as_aux_lemma => kernel_rfl) ?_
        refine gx_off (by as_aux_lemma => kernel_rfl) ?_
        refine gx_off (by as_aux_lemma => kernel_rfl) ?_
        refine gx_val (.bool true) w0 (by as_aux_lemma => kernel_rfl) (by as_aux_lemma => kernel_rfl) ?_
        refine gx_nil ?_
        refine gx_thenN ?_
        exact ⟨true, selfA_i (by as_aux_lemma => kernel_rfl), (Option.some.inj hE16), hS0⟩
      · refine gx_val (.bool false) w0 (by as_aux_lemma => kernel_rfl) (run_boolE (decide_eq_false h19) (by as_aux_lemma => kernel_rfl)) ?_
        refine gx_val (.bool false) w0 (by as_aux_lemma => kernel_rfl) (by as_aux_lemma => kernel_rfl) ?_
        refine gx_val (.slice A1 p1.length c1) w0 (by as_aux_lemma => kernel_rfl) (by as_aux_lemma => kernel_rfl) ?_
        refine gx_val (.int .i64 ((p1.length : Nat) : Int)) w0 (by as_aux_lemma => kernel_rfl) (by as_aux_lemma => kernel_rfl) ?_
        rcases if_in hE16 with ⟨h20, hE16⟩ | ⟨h20, hE16⟩
        · refine gx_val (.bool true) w0 (by as_aux_lemma => kernel_rfl) (run_boolE (decide_eq_true h20) (by as_aux_lemma => kernel_rfl)) ?_
          refine gx_val (.bool true) w0 (by as_aux_lemma => kernel_rfl) (by as_aux_lemma => kernel_rfl) ?_
          refine gx_nil ?_
          refine gx_thenN ?_
          exact ⟨true, selfA_i (by as_aux_lemma => kernel_rfl), (Option.some.inj hE16), hS0⟩
        · refine gx_val (.bool false) w0 (by as_aux_lemma => kernel_rfl) (run_boolE (decide_eq_false h20) (by as_aux_lemma => kernel_rfl)) ?_
          refine gx_val (.bool false) w0 (by as_aux_lemma => kernel_rfl) (by as_aux_lemma => kernel_rfl) ?_
          refine gx_nil ?_
          refine gx_thenN ?_
          exact ⟨false, selfA_i (by as_aux_lemma => kernel_rfl), (Option.some.inj hE16), hS0⟩
    · rintro _ w11 ⟨b14, hq18, rfl, hS12⟩
      obtain ⟨u13, rfl⟩ := selfA_u hq18
      try dsimp only at hO17
      obtain ⟨c25, hE26, hO27⟩ := bind_in hO17
      refine gx_part (l1 := [_, _, _, _, _]) (fun a w => ∃ (b24 : Bool), selfA (fun u23 => ⟨((.slice A0 p0.length c0) :: (.slice A1 p1.length c1) :: (.slice A2 p2.length c2) :: (.slice A3 p3.length c3) :: (.bool p4) :: (.int .u8 p5) :: un 6 ((.bool false) :: un 21 ((u13 34) :: (.int .i64 ((p0.length : Nat) : Int)) :: dd u13 36 5 ((.bool b14) :: dd u23 42 4 ((.bool b24) :: un 177 ([])))))).toArray, []⟩) a ∧ b24 = c25 ∧ St [] w0 w []) rfl ?_ ?_
      · refine gx_val (.bool b14) w11 (by as_aux_lemma => kernel_rfl) (by as_aux_lemma => kernel_rfl) ?_
        cases b14 with
        | true =>
          try dsimp only at hE26
          refine gx_off (by as_aux_lemma => kernel_rfl) ?_
          refine gx_off (by as_aux_lemma => kernel_rfl) ?_
          refine gx_off (by as_aux_lemma => kernel_rfl) ?_
          refine gx_val (.bool true) w11 (by as_aux_lemma => kernel_rfl) (by as_aux_lemma => kernel_rfl) ?_
          refine gx_nil ?_
          refine gx_thenN ?_
          exact ⟨true, selfA_i (by as_aux_lemma => kernel_rfl), (Option.some.inj hE26), hS12⟩
        | false =>
          try dsimp only at hE26
          refine gx_val (.slice A2 p2.length c2) w11 (by as_aux_lemma => kernel_rfl) (by as_aux_lemma => kernel_rfl) ?_
          refine gx_val (.int .i64 ((p2.length : Nat) : Int)) w11 (by as_aux_lemma => kernel_rfl) (by as_aux_lemma => kernel_rfl) ?_
          rcases if_in hE26 with ⟨h29, hE26⟩ | ⟨h29, hE26⟩
          · refine gx_val (.bool true) w11 (by as_aux_lemma => kernel_rfl) (run_boolE (decide_eq_true h29) (by as_aux_lemma => kernel_rfl)) ?_
            refine gx_val (.bool true) w11 (by as_aux_lemma => kernel_rfl) (by as_aux_lemma => kernel_rfl) ?_
            refine gx_nil ?_
            refine gx_thenN ?_
            exact ⟨true, selfA_i (by as_aux_lemma => kernel_rfl), (Option.some.inj hE26), hS12⟩
          · refine gx_val (.bool false) w11 (by as_aux_lemma => kernel_rfl) (run_boolE (decide_eq_false h29) (by as_aux_lemma => kernel_rfl)) ?_
            refine gx_val (.bool false) w11 (by as_aux_lemma => kernel_rfl) (by as_aux_lemma => kernel_rfl) ?_
            refine gx_nil ?_
            refine gx_thenN ?_
            exact ⟨false, selfA_i (by as_aux_lemma => kernel_rfl), (Option.some.inj hE26), hS12⟩
      · rintro _ w21 ⟨b24, hq28, rfl, hS22⟩
        obtain ⟨u23, rfl⟩ := selfA_u hq28
        try dsimp only at hO27
        obtain ⟨c34, hE35, hO36⟩ := bind_in hO27
        refine gx_part (l1 := [_, _, _, _, _]) (fun a w => ∃ (b33 : Bool), selfA (fun u32 => ⟨((.slice A0 p0.length c0) :: (.slice A1 p1.length c1) :: (.slice A2 p2.length c2) :: (.slice A3 p3.length c3) :: (.bool p4) :: (.int .u8 p5) :: un 6 ((.bool false) :: un 21 ((u13 34) :: (.int .i64 ((p0.length : Nat) : Int)) :: dd u13 36 5 ((.bool b14) :: dd u23 42 4 ((.bool b24) :: dd u32 47 4 ((.bool b33) :: un 172 ([]))))))).toArray, []⟩) a ∧ b33 = c34 ∧ St [] w0 w []) rfl ?_ ?_
        · refine gx_val (.bool b24) w21 (by as_aux_lemma => kernel_rfl) (by as_aux_lemma => kernel_rfl) ?_
          cases b24 with
          | true =>
            try dsimp only at hE35
            refine gx_off (by as_aux_lemma => kernel_rfl) ?_
            refine gx_off (by as_aux_lemma => kernel_rfl) ?_
            refine gx_off (by as_aux_lemma => kernel_rfl) ?_
            refine gx_val (.bool true) w21 (by as_aux_lemma => kernel_rfl) (by as_aux_lemma => kernel_rfl) ?_
            refine gx_nil ?_
            refine gx_thenN ?_
            exact ⟨true, selfA_i (by as_aux_lemma => kernel_rfl), (Option.some.inj hE35), hS22⟩
          | false =>
            try dsimp only at hE35
            refine gx_val (.slice A3 p3.length c3) w21 (by as_aux_lemma => kernel_rfl) (by as_aux_lemma => kernel_rfl) ?_
            refine gx_val (.int .i64 ((p3.length : Nat) : Int)) w21 (by as_aux_lemma => kernel_rfl) (by as_aux_lemma => kernel_rfl) ?_
            rcases if_in hE35 with ⟨h38, hE35⟩ | ⟨h38, hE35⟩
            · refine gx_val (.bool true) w21 (by as_aux_lemma => kernel_rfl) (run_boolE (decide_eq_true h38) (by as_aux_lemma => kernel_rfl)) ?_
              refine gx_val (.bool true) w21 (by as_aux_lemma => kernel_rfl) (by as_aux_lemma => kernel_rfl) ?_
              refine gx_nil ?_
              refine gx_thenN ?_
              exact ⟨true, selfA_i (by as_aux_lemma => kernel_rfl), (Option.some.inj hE35), hS22⟩
            · refine gx_val (.bool false) w21 (by as_aux_lemma => kernel_rfl) (run_boolE (decide_eq_false h38) (by as_aux_lemma => kernel_rfl)) ?_
              refine gx_val (.bool false) w21 (by as_aux_lemma => kernel_rfl) (by as_aux_lemma => kernel_rfl) ?_
              refine gx_nil ?_
              refine gx_thenN ?_
              exact ⟨false, selfA_i (by as_aux_lemma => kernel_rfl), (Option.some.inj hE35), hS22⟩
        · rintro _ w30 ⟨b33, hq37, rfl, hS31⟩
          obtain ⟨u32, rfl⟩ := selfA_u hq37
          try dsimp only at hO36
          refine gx_val (.bool b33) w30 (by as_aux_lemma => kernel_rfl) (by as_aux_lemma => kernel_rfl) ?_
          cases b33 with
          | true =>
            try dsimp only at hO36
            refine gx_off (by as_aux_lemma => kernel_rfl) ?_
            refine gx_off (by as_aux_lemma => kernel_rfl) ?_
            refine gx_off (by as_aux_lemma => kernel_rfl) ?_
            refine gx_val (.bool true) w30 (by as_aux_lemma => kernel_rfl) (by as_aux_lemma => kernel_rfl) ?_
            refine gx_val (.bool true) w30 (by as_aux_lemma => kernel_rfl) (by as_aux_lemma => kernel_rfl) ?_
            refine gx_off (by as_aux_lemma => kernel_rfl) ?_
            refine gx_off (by as_aux_lemma => kernel_rfl) ?_
            refine gx_off (by as_aux_lemma => kernel_rfl) ?_
            refine gx_val (.bool true) w30 (by as_aux_lemma => kernel_rfl) (by as_aux_lemma => kernel_rfl) ?_
            refine gx_nil ?_
            refine gx_thenN ?_
            refine hK10 _ _ ?_
            refine gx_yes (by as_aux_lemma => kernel_rfl) ?_
            refine gx_seq (fun K39 hK40 => ?_)
            refine gx_region ?_
            have hP41 : St _ _ w30 ([] ++ []) := hS31
            obtain ⟨b43, hc42, hO36⟩ := bind_in hO36
            try dsimp only at hO36
            refine gx_call (kWorks_R b43 w30) (by as_aux_lemma => kernel_rfl) (by as_aux_lemma => kernel_rfl) (kWorks_ok N  _ hc42 w30 ) ?_
            rintro _ w44 ⟨rfl, hT46⟩
            have hS45 : St _ _ w44 [] := hS31.take _ hT46
            refine gx_val (.bool b43) w44 (by as_aux_lemma => kernel_rfl) (by as_aux_lemma => kernel_rfl) ?_
            refine gx_nil ?_
            refine gx_thenN ?_
            refine hK40 _ _ ?_
            refine gx_ret ?_
            refine gx_thenR ?_
            obtain rfl := Option.some.inj hO36
            try dsimp only at hO8
            obtain rfl := Option.some.inj hO8
            exact gx_fin (.bool b43) (by as_aux_lemma => kernel_rfl) (by as_aux_lemma => kernel_rfl) ⟨_, rfl, rfl, hS45⟩
          | false =>
            try dsimp only at hO36
            refine gx_val (.slice A1 p1.length c1) w30 (by as_aux_lemma => kernel_rfl) (by as_aux_lemma => kernel_rfl) ?_
            have hP47 : St _ _ w30 ([] ++ []) := hS31
            obtain ⟨b49, hc48, hO36⟩ := bind_in hO36
            try dsimp only at hO36
            refine gx_call (kPlain_R b49 w30) (by as_aux_lemma => kernel_rfl) (by as_aux_lemma => kernel_rfl) (kPlain_ok N p1 A1 c1 _ hc48 w30 (hP47.vwA hv1)) ?_
            rintro _ w50 ⟨rfl, hT52⟩
            have hS51 : St _ _ w50 [] := hS31.take _ hT52
            cases b49 with
            | true =>
              try dsimp only at hO36
              refine gx_val (.bool false) w50 (by as_aux_lemma => kernel_rfl) (by as_aux_lemma => kernel_rfl) ?_
              refine gx_val (.bool false) w50 (by as_aux_lemma => kernel_rfl) (by as_aux_lemma => kernel_rfl) ?_
              refine gx_val (.bool false) w50 (by as_aux_lemma => kernel_rfl) (by as_aux_lemma => kernel_rfl) ?_
              refine gx_val (.slice A2 p2.length c2) w50 (by as_aux_lemma => kernel_rfl) (by as_aux_lemma => kernel_rfl) ?_
              have hP53 : St _ _ w50 ([] ++ []) := hS51
              obtain ⟨b55, hc54, hO36⟩ := bind_in hO36
              try dsimp only at hO36
              refine gx_call (kPlain_R b55 w50) (by as_aux_lemma => kernel_rfl) (by as_aux_lemma => kernel_rfl) (kPlain_ok N p2 A2 c2 _ hc54 w50 (hP53.vwA hv2)) ?_
              rintro _ w56 ⟨rfl, hT58⟩
              have hS57 : St _ _ w56 [] := hS51.take _ hT58
              cases b55 with
              | true =>
                try dsimp only at hO36
                refine gx_val (.bool false) w56 (by as_aux_lemma => kernel_rfl) (by as_aux_lemma => kernel_rfl) ?_
                refine gx_val (.bool false) w56 (by as_aux_lemma => kernel_rfl) (by as_aux_lemma => kernel_rfl) ?_
                refine gx_nil ?_
                refine gx_thenN ?_
                refine hK10 _ _ ?_
                refine gx_no (by as_aux_lemma => kernel_rfl) ?_
                refine gx_pass ?_
                refine gx_thenN ?_
                exact ⟨selfA_i (by as_aux_lemma => kernel_rfl), (Option.some.inj hO36), hS57⟩
              | false =>
                try dsimp only at hO36
                refine gx_val (.bool true) w56 (by as_aux_lemma => kernel_rfl) (by as_aux_lemma => kernel_rfl) ?_
                refine gx_val (.bool true) w56 (by as_aux_lemma => kernel_rfl) (by as_aux_lemma => kernel_rfl) ?_
                refine gx_nil ?_
                refine gx_thenN ?_
                refine hK10 _ _ ?_
                refine gx_yes (by as_aux_lemma => kernel_rfl) ?_
                refine gx_seq (fun K59 hK60 => ?_)
                refine gx_region ?_
                have hP61 : St _ _ w56 ([] ++ []) := hS57
                obtain ⟨b63, hc62, hO36⟩ := bind_in hO36
                try dsimp only at hO36
                refine gx_call (kWorks_R b63 w56) (by as_aux_lemma => kernel_rfl) (by as_aux_lemma => kernel_rfl) (kWorks_ok N  _ hc62 w56 ) ?_
                rintro _ w64 ⟨rfl, hT66⟩
                have hS65 : St _ _ w64 [] := hS57.take _ hT66
                refine gx_val (.bool b63) w64 (by as_aux_lemma => kernel_rfl) (by as_aux_lemma => kernel_rfl) ?_
                refine gx_nil ?_
                refine gx_thenN ?_
                refine hK60 _ _ ?_
                refine gx_ret ?_
                refine gx_thenR ?_
                obtain rfl := Option.some.inj hO36
                try dsimp only at hO8
                obtain rfl := Option.some.inj hO8
                exact gx_fin (.bool b63) (by as_aux_lemma => kernel_rfl) (by as_aux_lemma => kernel_rfl) ⟨_, rfl, rfl, hS65⟩
            | false =>
              try dsimp only at hO36
              refine gx_val (.bool true) w50 (by as_aux_lemma => kernel_rfl) (by as_aux_lemma => kernel_rfl) ?_
              refine gx_val (.bool true) w50 (by as_aux_lemma => kernel_rfl) (by as_aux_lemma => kernel_rfl) ?_
              refine gx_val (.bool true) w50 (by as_aux_lemma => kernel_rfl) (by as_aux_lemma => kernel_rfl) ?_
              refine gx_off (by as_aux_lemma => kernel_rfl) ?_
              refine gx_off (by as_aux_lemma => kernel_rfl) ?_
              refine gx_off (by as_aux_lemma => kernel_rfl) ?_
              refine gx_val (.bool true) w50 (by as_aux_lemma => kernel_rfl) (by as_aux_lemma => kernel_rfl) ?_
              refine gx_nil ?_
              refine gx_thenN ?_
              refine hK10 _ _ ?_
              refine gx_yes (by as_aux_lemma => kernel_rfl) ?_
              refine gx_seq (fun K67 hK68 => ?_)
              refine gx_region ?_
              have hP69 : St _ _ w50 ([] ++ []) := hS51
              obtain ⟨b71, hc70, hO36⟩ := bind_in hO36
              try dsimp only at hO36
              refine gx_call (kWorks_R b71 w50) (by as_aux_lemma => kernel_rfl) (by as_aux_lemma => kernel_rfl) (kWorks_ok N  _ hc70 w50 ) ?_
              rintro _ w72 ⟨rfl, hT74⟩
              have hS73 : St _ _ w72 [] := hS51.take _ hT74
              refine gx_val (.bool b71) w72 (by as_aux_lemma => kernel_rfl) (by as_aux_lemma => kernel_rfl) ?_
              refine gx_nil ?_
              refine gx_thenN ?_
              refine hK68 _ _ ?_
              refine gx_ret ?_
              refine gx_thenR ?_
              obtain rfl := Option.some.inj hO36
              try dsimp only at hO8
              obtain rfl := Option.some.inj hO8
              exact gx_fin (.bool b71) (by as_aux_lemma => kernel_rfl) (by as_aux_lemma => kernel_rfl) ⟨_, rfl, rfl, hS73⟩
  · rintro _ w3 ⟨hq395, rfl, hS4⟩
    obtain ⟨u5, rfl⟩ := selfA_u hq395
    try dsimp only at hO8
    refine gx_seq (fun K75 hK76 => ?_)
    refine gx_region ?_
    refine gx_val (.int .u8 20) w3 (by as_aux_lemma => kernel_rfl) (by as_aux_lemma => kernel_rfl) ?_
    refine gx_nil ?_
    refine gx_thenN ?_
    refine hK76 _ _ ?_
    obtain ⟨c81, hE82, hO83⟩ := bind_in hO8
    refine gx_cut (fun a w => ∃ (x80 : Int), selfA (fun u79 => ⟨((.slice A0 p0.length c0) :: (.slice A1 p1.length c1) :: (.slice A2 p2.length c2) :: (.slice A3 p3.length c3) :: (.bool p4) :: (.int .u8 p5) :: un 6 ((u5 12) :: (.int .u8 x80) :: un 20 (dd u5 34 29 ((u79 63) :: un 160 ([]))))).toArray, []⟩) a ∧ x80 = c81 ∧ St [] w0 w []) ?_ ?_
    · refine gx_seq (fun K84 hK85 => ?_)
      refine gx_region ?_
      refine gx_val (.bool p4) w3 (by as_aux_lemma => kernel_rfl) (by as_aux_lemma => kernel_rfl) ?_
      refine gx_nil ?_
      refine gx_thenN ?_
      refine hK85 _ _ ?_
      cases p4 with
      | true =>
        try dsimp only at hE82
        refine gx_yes (by as_aux_lemma => kernel_rfl) ?_
        refine gx_region ?_
        refine gx_val (.int .u8 21) w3 (by as_aux_lemma => kernel_rfl) (by as_aux_lemma => kernel_rfl) ?_
        refine gx_nil ?_
        refine gx_thenN ?_
        exact ⟨21, selfA_i (by as_aux_lemma => kernel_rfl), (Option.some.inj hE82), hS4⟩
      | false =>
        try dsimp only at hE82
        refine gx_no (by as_aux_lemma => kernel_rfl) ?_
        refine gx_pass ?_
        refine gx_thenN ?_
        exact ⟨20, selfA_i (by as_aux_lemma => kernel_rfl), (Option.some.inj hE82), hS4⟩
    · rintro _ w77 ⟨x80, hq394, rfl, hS78⟩
      obtain ⟨u79, rfl⟩ := selfA_u hq394
      try dsimp only at hO83
      refine gx_seq (fun K86 hK87 => ?_)
      refine gx_region ?_
      refine gx_val (.slice none 0 0) w77 (by as_aux_lemma => kernel_rfl) (by as_aux_lemma => kernel_rfl) ?_
      refine gx_val (.slice none 0 0) w77 (by as_aux_lemma => kernel_rfl) (by as_aux_lemma => kernel_rfl) ?_
      refine gx_nil ?_
      refine gx_thenN ?_
      refine hK87 _ _ ?_
      refine gx_seq (fun K88 hK89 => ?_)
      refine gx_region ?_
      refine gx_val (.slice none 0 0) w77 (by as_aux_lemma => kernel_rfl) (by as_aux_lemma => kernel_rfl) ?_
      refine gx_val (.slice A0 p0.length c0) w77 (by as_aux_lemma => kernel_rfl) (by as_aux_lemma => kernel_rfl) ?_
      have hS90 : St _ _ w77 [rowE .u8 26 none 0 ([])] := hS78.nilrow .u8 26
      obtain ⟨l91, ha92, hO83⟩ := bind_in hO83
      obtain ⟨ha92, hq93⟩ := apx_in ha92
      refine gx_R (by as_aux_lemma => kernel_rfl) (st_append rfl (by as_aux_lemma => kernel_rfl) (by as_aux_lemma => kernel_rfl) hS90 0 rfl (hS90.view hv0) hv0.nn ha92 (by as_aux_lemma => kernel_rfl) (by as_aux_lemma => kernel_rfl)) ?_
      rintro _ w96 ⟨A94, c95, rfl, hS97⟩
      rw [← hq93] at hS97 ⊢
      have hS97 : St _ _ w96 [rowE .u8 26 A94 c95 l91] := hS97
      refine gx_val (.slice A94 l91.length c95) w96 (by as_aux_lemma => kernel_rfl) (by as_aux_lemma => kernel_rfl) ?_
      refine gx_nil ?_
      refine gx_thenN ?_
      refine hK89 _ _ ?_
      refine gx_seq (fun K98 hK99 => ?_)
      refine gx_region ?_
      refine gx_val (.slice A94 l91.length c95) w96 (by as_aux_lemma => kernel_rfl) (by as_aux_lemma => kernel_rfl) ?_
      refine gx_val (.int .u8 x80) w96 (by as_aux_lemma => kernel_rfl) (by as_aux_lemma => kernel_rfl) ?_
      refine gx_R (by as_aux_lemma => kernel_rfl) (st_made .u8 26 [x80] hS97 (by show 1 ≤ 1000000000; decide) (by as_aux_lemma => kernel_rfl)) ?_
      rintro _ w100 ⟨rfl, hS101⟩
      have hS101 : St _ _ w100 [rowE .u8 26 A94 c95 l91, rowE .u8 26 (some ⟨w96.heap.size, 0, none⟩) 1 ([x80])] := hS101
      obtain ⟨l102, ha103, hO83⟩ := bind_in hO83
      obtain ⟨ha103, hq104⟩ := apx_in ha103
      refine gx_R (by as_aux_lemma => kernel_rfl) (st_append rfl (by as_aux_lemma => kernel_rfl) (by as_aux_lemma => kernel_rfl) hS101 0 rfl (hS101.row 1 rfl).1 (hS101.row 1 rfl).2 ha103 (by as_aux_lemma => kernel_rfl) (by as_aux_lemma => kernel_rfl)) ?_
      rintro _ w107 ⟨A105, c106, rfl, hS108⟩
      rw [← hq104] at hS108 ⊢
      have hS108 : St _ _ w107 [rowE .u8 26 A105 c106 l102, rowE .u8 26 (some ⟨w96.heap.size, 0, none⟩) 1 ([x80])] := hS108
      refine gx_val (.slice A105 l102.length c106) w107 (by as_aux_lemma => kernel_rfl) (by as_aux_lemma => kernel_rfl) ?_
      refine gx_nil ?_
      refine gx_thenN ?_
      refine hK99 _ _ ?_
      refine gx_seq (fun K109 hK110 => ?_)
      refine gx_region ?_
      refine gx_val (.slice none 0 0) w107 (by as_aux_lemma => kernel_rfl) (by as_aux_lemma => kernel_rfl) ?_
      refine gx_val (.slice A105 l102.length c106) w107 (by as_aux_lemma => kernel_rfl) (by as_aux_lemma => kernel_rfl) ?_
      have hS111 : St _ _ w107 [rowE .u8 26 A105 c106 l102, rowE .u8 26 (some ⟨w96.heap.size, 0, none⟩) 1 ([x80]), rowE .u8 26 none 0 ([])] := hS108.nilrow .u8 26
      obtain ⟨l112, ha113, hO83⟩ := bind_in hO83
      obtain ⟨ha113, hq114⟩ := apx_in ha113
      refine gx_R (by as_aux_lemma => kernel_rfl) (st_append rfl (by as_aux_lemma => kernel_rfl) (by as_aux_lemma => kernel_rfl) hS111 2 rfl (hS111.row 0 rfl).1 (hS111.row 0 rfl).2 ha113 (by as_aux_lemma => kernel_rfl) (by as_aux_lemma => kernel_rfl)) ?_
      rintro _ w117 ⟨A115, c116, rfl, hS118⟩
      rw [← hq114] at hS118 ⊢
      have hS118 : St _ _ w117 [rowE .u8 26 A105 c106 l102, rowE .u8 26 (some ⟨w96.heap.size, 0, none⟩) 1 ([x80]), rowE .u8 26 A115 c116 l112] := hS118
      refine gx_val (.slice A115 l112.length c116) w117 (by as_aux_lemma => kernel_rfl) (by as_aux_lemma => kernel_rfl) ?_
      refine gx_nil ?_
      refine gx_thenN ?_
      refine hK110 _ _ ?_
      refine gx_seq (fun K119 hK120 => ?_)
      refine gx_region ?_
      refine gx_val (.slice A105 l102.length c106) w117 (by as_aux_lemma => kernel_rfl) (by as_aux_lemma => kernel_rfl) ?_
      refine gx_val (.slice A1 p1.length c1) w117 (by as_aux_lemma => kernel_rfl) (by as_aux_lemma => kernel_rfl) ?_
      obtain ⟨l121, ha122, hO83⟩ := bind_in hO83
      obtain ⟨ha122, hq123⟩ := apx_in ha122
      refine gx_R (by as_aux_lemma => kernel_rfl) (st_append rfl (by as_aux_lemma => kernel_rfl) (by as_aux_lemma => kernel_rfl) hS118 0 rfl (hS118.view hv1) hv1.nn ha122 (by as_aux_lemma => kernel_rfl) (by as_aux_lemma => kernel_rfl)) ?_
      rintro _ w126 ⟨A124, c125, rfl, hS127⟩
      rw [← hq123] at hS127 ⊢
      have hS127 : St _ _ w126 [rowE .u8 26 A124 c125 l121, rowE .u8 26 (some ⟨w96.heap.size, 0, none⟩) 1 ([x80]), rowE .u8 26 A115 c116 l112] := hS127
      refine gx_val (.slice A124 l121.length c125) w126 (by as_aux_lemma => kernel_rfl) (by as_aux_lemma => kernel_rfl) ?_
      refine gx_nil ?_
      refine gx_thenN ?_
      refine hK120 _ _ ?_
      refine gx_seq (fun K128 hK129 => ?_)
      refine gx_region ?_
      refine gx_val (.slice A115 l112.length c116) w126 (by as_aux_lemma => kernel_rfl) (by as_aux_lemma => kernel_rfl) ?_
      refine gx_val (.slice A2 p2.length c2) w126 (by as_aux_lemma => kernel_rfl) (by as_aux_lemma => kernel_rfl) ?_
      obtain ⟨l130, ha131, hO83⟩ := bind_in hO83
      obtain ⟨ha131, hq132⟩ := apx_in ha131
      refine gx_R (by as_aux_lemma => kernel_rfl) (st_append rfl (by as_aux_lemma => kernel_rfl) (by as_aux_lemma => kernel_rfl) hS127 2 rfl (hS127.view hv2) hv2.nn ha131 (by as_aux_lemma => kernel_rfl) (by as_aux_lemma => kernel_rfl)) ?_
      rintro _ w135 ⟨A133, c134, rfl, hS136⟩
      rw [← hq132] at hS136 ⊢
      have hS136 : St _ _ w135 [rowE .u8 26 A124 c125 l121, rowE .u8 26 (some ⟨w96.heap.size, 0, none⟩) 1 ([x80]), rowE .u8 26 A133 c134 l130] := hS136
      refine gx_val (.slice A133 l130.length c134) w135 (by as_aux_lemma => kernel_rfl) (by as_aux_lemma => kernel_rfl) ?_
      refine gx_nil ?_
      refine gx_thenN ?_
      refine hK129 _ _ ?_
      refine gx_seq (fun K137 hK138 => ?_)
      refine gx_region ?_
      refine gx_val (.slice A124 l121.length c125) w135 (by as_aux_lemma => kernel_rfl) (by as_aux_lemma => kernel_rfl) ?_
      refine gx_R (by as_aux_lemma => kernel_rfl) (st_made .u8 26 [23] hS136 (by show 1 ≤ 1000000000; decide) (by as_aux_lemma => kernel_rfl)) ?_
      rintro _ w139 ⟨rfl, hS140⟩
      have hS140 : St _ _ w139 [rowE .u8 26 A124 c125 l121, rowE .u8 26 (some ⟨w96.heap.size, 0, none⟩) 1 ([x80]), rowE .u8 26 A133 c134 l130, rowE .u8 26 (some ⟨w135.heap.size, 0, none⟩) 1 ([23])] := hS140
      obtain ⟨l141, ha142, hO83⟩ := bind_in hO83
      obtain ⟨ha142, hq143⟩ := apx_in ha142
      refine gx_R (by as_aux_lemma => kernel_rfl) (st_append rfl (by as_aux_lemma => kernel_rfl) (by as_aux_lemma => kernel_rfl) hS140 0 rfl (hS140.row 3 rfl).1 (hS140.row 3 rfl).2 ha142 (by as_aux_lemma => kernel_rfl) (by as_aux_lemma => kernel_rfl)) ?_
      rintro _ w146 ⟨A144, c145, rfl, hS147⟩
      rw [← hq143] at hS147 ⊢
      have hS147 : St _ _ w146 [rowE .u8 26 A144 c145 l141, rowE .u8 26 (some ⟨w96.heap.size, 0, none⟩) 1 ([x80]), rowE .u8 26 A133 c134 l130, rowE .u8 26 (some ⟨w135.heap.size, 0, none⟩) 1 ([23])] := hS147
      refine gx_val (.slice A144 l141.length c145) w146 (by as_aux_lemma => kernel_rfl) (by as_aux_lemma => kernel_rfl) ?_
      refine gx_nil ?_
      refine gx_thenN ?_
      refine hK138 _ _ ?_
      refine gx_seq (fun K148 hK149 => ?_)
      refine gx_region ?_
      refine gx_val (.slice A133 l130.length c134) w146 (by as_aux_lemma => kernel_rfl) (by as_aux_lemma => kernel_rfl) ?_
      refine gx_R (by as_aux_lemma => kernel_rfl) (st_made .u8 26 [23] hS147 (by show 1 ≤ 1000000000; decide) (by as_aux_lemma => kernel_rfl)) ?_
      rintro _ w150 ⟨rfl, hS151⟩
      have hS151 : St _ _ w150 [rowE .u8 26 A144 c145 l141, rowE .u8 26 (some ⟨w96.heap.size, 0, none⟩) 1 ([x80]), rowE .u8 26 A133 c134 l130, rowE .u8 26 (some ⟨w135.heap.size, 0, none⟩) 1 ([23]), rowE .u8 26 (some ⟨w146.heap.size, 0, none⟩) 1 ([23])] := hS151
      obtain ⟨l152, ha153, hO83⟩ := bind_in hO83
      obtain ⟨ha153, hq154⟩ := apx_in ha153
      refine gx_R (by as_aux_lemma => kernel_rfl) (st_append rfl (by as_aux_lemma => kernel_rfl) (by as_aux_lemma => kernel_rfl) hS151 2 rfl (hS151.row 4 rfl).1 (hS151.row 4 rfl).2 ha153 (by as_aux_lemma => kernel_rfl) (by as_aux_lemma => kernel_rfl)) ?_
      rintro _ w157 ⟨A155, c156, rfl, hS158⟩
      rw [← hq154] at hS158 ⊢
      have hS158 : St _ _ w157 [rowE .u8 26 A144 c145 l141, rowE .u8 26 (some ⟨w96.heap.size, 0, none⟩) 1 ([x80]), rowE .u8 26 A155 c156 l152, rowE .u8 26 (some ⟨w135.heap.size, 0, none⟩) 1 ([23]), rowE .u8 26 (some ⟨w146.heap.size, 0, none⟩) 1 ([23])] := hS158
      refine gx_val (.slice A155 l152.length c156) w157 (by as_aux_lemma => kernel_rfl) (by as_aux_lemma => kernel_rfl) ?_
      refine gx_nil ?_
      refine gx_thenN ?_
      refine hK149 _ _ ?_
      refine gx_seq (fun K159 hK160 => ?_)
      refine gx_region ?_
      refine gx_val (.slice A144 l141.length c145) w157 (by as_aux_lemma => kernel_rfl) (by as_aux_lemma => kernel_rfl) ?_
      refine gx_val (.slice A3 p3.length c3) w157 (by as_aux_lemma => kernel_rfl) (by as_aux_lemma => kernel_rfl) ?_
      obtain ⟨l161, ha162, hO83⟩ := bind_in hO83
      obtain ⟨ha162, hq163⟩ := apx_in ha162
      refine gx_R (by as_aux_lemma => kernel_rfl) (st_append rfl (by as_aux_lemma => kernel_rfl) (by as_aux_lemma => kernel_rfl) hS158 0 rfl (hS158.view hv3) hv3.nn ha162 (by as_aux_lemma => kernel_rfl) (by as_aux_lemma => kernel_rfl)) ?_
      rintro _ w166 ⟨A164, c165, rfl, hS167⟩
      rw [← hq163] at hS167 ⊢
      have hS167 : St _ _ w166 [rowE .u8 26 A164 c165 l161, rowE .u8 26 (some ⟨w96.heap.size, 0, none⟩) 1 ([x80]), rowE .u8 26 A155 c156 l152, rowE .u8 26 (some ⟨w135.heap.size, 0, none⟩) 1 ([23]), rowE .u8 26 (some ⟨w146.heap.size, 0, none⟩) 1 ([23])] := hS167
      refine gx_val (.slice A164 l161.length c165) w166 (by as_aux_lemma => kernel_rfl) (by as_aux_lemma => kernel_rfl) ?_
      refine gx_nil ?_
      refine gx_thenN ?_
      refine hK160 _ _ ?_
      refine gx_seq (fun K168 hK169 => ?_)
      refine gx_region ?_
      refine gx_val (.slice A155 l152.length c156) w166 (by as_aux_lemma => kernel_rfl) (by as_aux_lemma => kernel_rfl) ?_
      refine gx_val (.slice A3 p3.length c3) w166 (by as_aux_lemma => kernel_rfl) (by as_aux_lemma => kernel_rfl) ?_
      obtain ⟨l170, ha171, hO83⟩ := bind_in hO83
      obtain ⟨ha171, hq172⟩ := apx_in ha171
      refine gx_R (by as_aux_lemma => kernel_rfl) (st_append rfl (by as_aux_lemma => kernel_rfl) (by as_aux_lemma => kernel_rfl) hS167 2 rfl (hS167.view hv3) hv3.nn ha171 (by as_aux_lemma => kernel_rfl) (by as_aux_lemma => kernel_rfl)) ?_
      rintro _ w175 ⟨A173, c174, rfl, hS176⟩
      rw [← hq172] at hS176 ⊢
      have hS176 : St _ _ w175 [rowE .u8 26 A164 c165 l161, rowE .u8 26 (some ⟨w96.heap.size, 0, none⟩) 1 ([x80]), rowE .u8 26 A173 c174 l170, rowE .u8 26 (some ⟨w135.heap.size, 0, none⟩) 1 ([23]), rowE .u8 26 (some ⟨w146.heap.size, 0, none⟩) 1 ([23])] := hS176
      refine gx_val (.slice A173 l170.length c174) w175 (by as_aux_lemma => kernel_rfl) (by as_aux_lemma => kernel_rfl) ?_
      refine gx_nil ?_
      refine gx_thenN ?_
      refine hK169 _ _ ?_
      refine gx_seq (fun K177 hK178 => ?_)
      refine gx_region ?_
      refine gx_val (.slice A164 l161.length c165) w175 (by as_aux_lemma => kernel_rfl) (by as_aux_lemma => kernel_rfl) ?_
      refine gx_val (.int .u8 p5) w175 (by as_aux_lemma => kernel_rfl) (by as_aux_lemma => kernel_rfl) ?_
      have hP179 : St _ _ w175 ([] ++ [rowE .u8 26 A164 c165 l161, rowE .u8 26 (some ⟨w96.heap.size, 0, none⟩) 1 ([x80]), rowE .u8 26 A173 c174 l170, rowE .u8 26 (some ⟨w135.heap.size, 0, none⟩) 1 ([23]), rowE .u8 26 (some ⟨w146.heap.size, 0, none⟩) 1 ([23])]) := hS176
      obtain ⟨⟨l181, l184, x187, x188⟩, hc180, hO83⟩ := bind_in hO83
      try dsimp only at hO83
      refine gx_call (pLevels_R (l181, l184, x187, x188) w175) (by as_aux_lemma => kernel_rfl) (by as_aux_lemma => kernel_rfl) (pLevels_ok N l161 p5 A164 c165 _ hc180 w175 (hP179.vwB 0 rfl)) ?_
      rintro _ w189 ⟨A182, c183, A185, c186, rfl, hT191⟩
      have hS190 : St _ _ w189 [rowE .u8 26 A164 c165 l161, rowE .u8 26 (some ⟨w96.heap.size, 0, none⟩) 1 ([x80]), rowE .u8 26 A173 c174 l170, rowE .u8 26 (some ⟨w135.heap.size, 0, none⟩) 1 ([23]), rowE .u8 26 (some ⟨w146.heap.size, 0, none⟩) 1 ([23]), rowE .u8 5 A182 c183 l181, rowE .u8 26 A185 c186 l184] := hS176.take _ hT191
      refine gx_val (.tuple #[.slice A182 l181.length c183, .slice A185 l184.length c186, .int .u8 x187, .int .i64 x188]) w189 (by as_aux_lemma => kernel_rfl) (by as_aux_lemma => kernel_rfl) ?_
      refine gx_val (.slice A182 l181.length c183) w189 (by as_aux_lemma => kernel_rfl) (by as_aux_lemma => kernel_rfl) ?_
      refine gx_val (.slice A185 l184.length c186) w189 (by as_aux_lemma => kernel_rfl) (by as_aux_lemma => kernel_rfl) ?_
      refine gx_val (.int .u8 x187) w189 (by as_aux_lemma => kernel_rfl) (by as_aux_lemma => kernel_rfl) ?_
      refine gx_val (.int .i64 x188) w189 (by as_aux_lemma => kernel_rfl) (by as_aux_lemma => kernel_rfl) ?_
      refine gx_val (.slice A182 l181.length c183) w189 (by as_aux_lemma => kernel_rfl) (by as_aux_lemma => kernel_rfl) ?_
      refine gx_val (.slice A185 l184.length c186) w189 (by as_aux_lemma => kernel_rfl) (by as_aux_lemma => kernel_rfl) ?_
      refine gx_val (.int .u8 x187) w189 (by as_aux_lemma => kernel_rfl) (by as_aux_lemma => kernel_rfl) ?_
      refine gx_val (.int .i64 x188) w189 (by as_aux_lemma => kernel_rfl) (by as_aux_lemma => kernel_rfl) ?_
      refine gx_nil ?_
      refine gx_thenN ?_
      refine hK178 _ _ ?_
      refine gx_seq (fun K192 hK193 => ?_)
      refine gx_region ?_
      refine gx_val (.slice A173 l170.length c174) w189 (by as_aux_lemma => kernel_rfl) (by as_aux_lemma => kernel_rfl) ?_
      refine gx_val (.int .u8 p5) w189 (by as_aux_lemma => kernel_rfl) (by as_aux_lemma => kernel_rfl) ?_
      have hP194 : St _ _ w189 ([] ++ [rowE .u8 26 A164 c165 l161, rowE .u8 26 (some ⟨w96.heap.size, 0, none⟩) 1 ([x80]), rowE .u8 26 A173 c174 l170, rowE .u8 26 (some ⟨w135.heap.size, 0, none⟩) 1 ([23]), rowE .u8 26 (some ⟨w146.heap.size, 0, none⟩) 1 ([23]), rowE .u8 5 A182 c183 l181, rowE .u8 26 A185 c186 l184]) := hS190
      obtain ⟨⟨l196, l199, x202, x203⟩, hc195, hO83⟩ := bind_in hO83
      try dsimp only at hO83
      refine gx_call (pLevels_R (l196, l199, x202, x203) w189) (by as_aux_lemma => kernel_rfl) (by as_aux_lemma => kernel_rfl) (pLevels_ok N l170 p5 A173 c174 _ hc195 w189 (hP194.vwB 2 rfl)) ?_
      rintro _ w204 ⟨A197, c198, A200, c201, rfl, hT206⟩
      have hS205 : St _ _ w204 [rowE .u8 26 A164 c165 l161, rowE .u8 26 (some ⟨w96.heap.size, 0, none⟩) 1 ([x80]), rowE .u8 26 A173 c174 l170, rowE .u8 26 (some ⟨w135.heap.size, 0, none⟩) 1 ([23]), rowE .u8 26 (some ⟨w146.heap.size, 0, none⟩) 1 ([23]), rowE .u8 5 A182 c183 l181, rowE .u8 26 A185 c186 l184, rowE .u8 5 A197 c198 l196, rowE .u8 26 A200 c201 l199] := hS190.take _ hT206
      refine gx_val (.tuple #[.slice A197 l196.length c198, .slice A200 l199.length c201, .int .u8 x202, .int .i64 x203]) w204 (by as_aux_lemma => kernel_rfl) (by as_aux_lemma => kernel_rfl) ?_
      refine gx_val (.slice A197 l196.length c198) w204 (by as_aux_lemma => kernel_rfl) (by as_aux_lemma => kernel_rfl) ?_
      refine gx_val (.slice A200 l199.length c201) w204 (by as_aux_lemma => kernel_rfl) (by as_aux_lemma => kernel_rfl) ?_
      refine gx_val (.int .u8 x202) w204 (by as_aux_lemma => kernel_rfl) (by as_aux_lemma => kernel_rfl) ?_
      refine gx_val (.int .i64 x203) w204 (by as_aux_lemma => kernel_rfl) (by as_aux_lemma => kernel_rfl) ?_
      refine gx_val (.slice A197 l196.length c198) w204 (by as_aux_lemma => kernel_rfl) (by as_aux_lemma => kernel_rfl) ?_
      refine gx_val (.slice A200 l199.length c201) w204 (by as_aux_lemma => kernel_rfl) (by as_aux_lemma => kernel_rfl) ?_
      refine gx_val (.int .u8 x202) w204 (by as_aux_lemma => kernel_rfl) (by as_aux_lemma => kernel_rfl) ?_
      refine gx_val (.int .i64 x203) w204 (by as_aux_lemma => kernel_rfl) (by as_aux_lemma => kernel_rfl) ?_
      refine gx_nil ?_
      refine gx_thenN ?_
      refine hK193 _ _ ?_
      refine gx_seq (fun K207 hK208 => ?_)
      obtain ⟨c213, hE214, hO215⟩ := bind_in hO83
      refine gx_cut (fun a w => ∃ (b212 : Bool), selfA (fun u211 => ⟨((.slice A0 p0.length c0) :: dd u211 1 2 ((.slice A3 p3.length c3) :: (.bool p4) :: (.int .u8 p5) :: un 6 ((u5 12) :: (.int .u8 x80) :: (.slice A164 l161.length c165) :: (.slice A173 l170.length c174) :: (.slice A182 l181.length c183) :: (.slice A185 l184.length c186) :: (.int .u8 x187) :: (.int .i64 x188) :: (.slice A197 l196.length c198) :: (.slice A200 l199.length c201) :: (.int .u8 x202) :: (.int .i64 x203) :: un 10 (dd u5 34 29 ((u79 63) :: (.slice none 0 0) :: dd u211 65 3 ((.int .u8 x80) :: dd u211 69 2 ((.slice none 0 0) :: dd u211 72 22 ((.int .u8 p5) :: dd u211 95 3 ((.int .u8 x187) :: (.int .i64 x188) :: dd u211 100 2 ((.int .u8 p5) :: dd u211 103 3 ((.int .u8 x202) :: (.int .i64 x203) :: dd u211 108 11 ((.bool b212) :: un 104 ([]))))))))))))).toArray, []⟩) a ∧ b212 = c213 ∧ St [] w0 w [rowE .u8 26 A164 c165 l161, rowE .u8 26 A173 c174 l170, rowE .u8 5 A182 c183 l181, rowE .u8 26 A185 c186 l184, rowE .u8 5 A197 c198 l196, rowE .u8 26 A200 c201 l199]) ?_ ?_
      · refine gx_region ?_
        refine gx_val (.int .i64 x188) w204 (by as_aux_lemma => kernel_rfl) (by as_aux_lemma => kernel_rfl) ?_
        refine gx_val (.int .i64 x203) w204 (by as_aux_lemma => kernel_rfl) (by as_aux_lemma => kernel_rfl) ?_
        rcases if_in hE214 with ⟨h216, hE214⟩ | ⟨h216, hE214⟩
        · refine gx_val (.bool true) w204 (by as_aux_lemma => kernel_rfl) (run_boolE (ne_yes h216) (by as_aux_lemma => kernel_rfl)) ?_
          refine gx_val (.bool true) w204 (by as_aux_lemma => kernel_rfl) (by as_aux_lemma => kernel_rfl) ?_
          refine gx_off (by as_aux_lemma => kernel_rfl) ?_
          refine gx_off (by as_aux_lemma => kernel_rfl) ?_
          refine gx_off (by as_aux_lemma => kernel_rfl) ?_
          refine gx_val (.bool true) w204 (by as_aux_lemma => kernel_rfl) (by as_aux_lemma => kernel_rfl) ?_
          refine gx_val (.bool true) w204 (by as_aux_lemma => kernel_rfl) (by as_aux_lemma => kernel_rfl) ?_
          refine gx_off (by as_aux_lemma => kernel_rfl) ?_
          refine gx_off (by as_aux_lemma => kernel_rfl) ?_
          refine gx_val (.bool true) w204 (by as_aux_lemma => kernel_rfl) (by as_aux_lemma => kernel_rfl) ?_
          refine gx_nil ?_
          refine gx_thenN ?_
          exact ⟨true, selfA_i (by as_aux_lemma => kernel_rfl), (Option.some.inj hE214), (hS205.pick [0, 2, 5, 6, 7, 8] rfl rfl)⟩
        · refine gx_val (.bool false) w204 (by as_aux_lemma => kernel_rfl) (run_boolE (ne_no h216) (by as_aux_lemma => kernel_rfl)) ?_
          refine gx_val (.bool false) w204 (by as_aux_lemma => kernel_rfl) (by as_aux_lemma => kernel_rfl) ?_
          refine gx_val (.int .u8 x187) w204 (by as_aux_lemma => kernel_rfl) (by as_aux_lemma => kernel_rfl) ?_
          refine gx_val (.int .u8 x202) w204 (by as_aux_lemma => kernel_rfl) (by as_aux_lemma => kernel_rfl) ?_
          rcases if_in hE214 with ⟨h217, hE214⟩ | ⟨h217, hE214⟩
          · refine gx_val (.bool true) w204 (by as_aux_lemma => kernel_rfl) (run_boolE (ne_yes h217) (by as_aux_lemma => kernel_rfl)) ?_
            refine gx_val (.bool true) w204 (by as_aux_lemma => kernel_rfl) (by as_aux_lemma => kernel_rfl) ?_
            refine gx_val (.bool true) w204 (by as_aux_lemma => kernel_rfl) (by as_aux_lemma => kernel_rfl) ?_
            refine gx_off (by as_aux_lemma => kernel_rfl) ?_
            refine gx_off (by as_aux_lemma => kernel_rfl) ?_
            refine gx_val (.bool true) w204 (by as_aux_lemma => kernel_rfl) (by as_aux_lemma => kernel_rfl) ?_
            refine gx_nil ?_
            refine gx_thenN ?_
            exact ⟨true, selfA_i (by as_aux_lemma => kernel_rfl), (Option.some.inj hE214), (hS205.pick [0, 2, 5, 6, 7, 8] rfl rfl)⟩
          · refine gx_val (.bool false) w204 (by as_aux_lemma => kernel_rfl) (run_boolE (ne_no h217) (by as_aux_lemma => kernel_rfl)) ?_
            refine gx_val (.bool false) w204 (by as_aux_lemma => kernel_rfl) (by as_aux_lemma => kernel_rfl) ?_
            refine gx_val (.bool false) w204 (by as_aux_lemma => kernel_rfl) (by as_aux_lemma => kernel_rfl) ?_
            refine gx_val (.int .i64 x188) w204 (by as_aux_lemma => kernel_rfl) (by as_aux_lemma => kernel_rfl) ?_
            rcases if_in hE214 with ⟨h218, hE214⟩ | ⟨h218, hE214⟩
            · refine gx_val (.bool true) w204 (by as_aux_lemma => kernel_rfl) (run_boolE (ne_yes h218) (by as_aux_lemma => kernel_rfl)) ?_
              refine gx_val (.bool true) w204 (by as_aux_lemma => kernel_rfl) (by as_aux_lemma => kernel_rfl) ?_
              refine gx_nil ?_
              refine gx_thenN ?_
              exact ⟨true, selfA_i (by as_aux_lemma => kernel_rfl), (Option.some.inj hE214), (hS205.pick [0, 2, 5, 6, 7, 8] rfl rfl)⟩
            · refine gx_val (.bool false) w204 (by as_aux_lemma => kernel_rfl) (run_boolE (ne_no h218) (by as_aux_lemma => kernel_rfl)) ?_
              refine gx_val (.bool false) w204 (by as_aux_lemma => kernel_rfl) (by as_aux_lemma => kernel_rfl) ?_
              refine gx_nil ?_
              refine gx_thenN ?_
              exact ⟨false, selfA_i (by as_aux_lemma => kernel_rfl), (Option.some.inj hE214), (hS205.pick [0, 2, 5, 6, 7, 8] rfl rfl)⟩
      · rintro _ w209 ⟨b212, hq393, rfl, hS210⟩
        obtain ⟨u211, rfl⟩ := selfA_u hq393
        try dsimp only at hO215
        cases b212 with
        | true =>
          try dsimp only at hO215
          refine gx_yes (by as_aux_lemma => kernel_rfl) ?_
          refine gx_seq (fun K219 hK220 => ?_)
          refine gx_region ?_
          refine gx_val (.int .i64 x188) w209 (by as_aux_lemma => kernel_rfl) (by as_aux_lemma => kernel_rfl) ?_
          refine gx_val (.int .i64 x203) w209 (by as_aux_lemma => kernel_rfl) (by as_aux_lemma => kernel_rfl) ?_
          rcases if_in hO215 with ⟨h221, hO215⟩ | ⟨h221, hO215⟩
          · refine gx_val (.bool true) w209 (by as_aux_lemma => kernel_rfl) (run_boolE (decide_eq_true h221) (by as_aux_lemma => kernel_rfl)) ?_
            refine gx_val (.bool true) w209 (by as_aux_lemma => kernel_rfl) (by as_aux_lemma => kernel_rfl) ?_
            have hP222 : St _ _ w209 ([] ++ [rowE .u8 26 A164 c165 l161, rowE .u8 26 A173 c174 l170, rowE .u8 5 A182 c183 l181, rowE .u8 26 A185 c186 l184, rowE .u8 5 A197 c198 l196, rowE .u8 26 A200 c201 l199]) := hS210
            obtain ⟨b224, hc223, hO215⟩ := bind_in hO215
            try dsimp only at hO215
            refine gx_call (kWorks_R b224 w209) (by as_aux_lemma => kernel_rfl) (by as_aux_lemma => kernel_rfl) (kWorks_ok N  _ hc223 w209 ) ?_
            rintro _ w225 ⟨rfl, hT227⟩
            have hS226 : St _ _ w225 [rowE .u8 26 A164 c165 l161, rowE .u8 26 A173 c174 l170, rowE .u8 5 A182 c183 l181, rowE .u8 26 A185 c186 l184, rowE .u8 5 A197 c198 l196, rowE .u8 26 A200 c201 l199] := hS210.take _ hT227
            refine gx_val (.bool b224) w225 (by as_aux_lemma => kernel_rfl) (by as_aux_lemma => kernel_rfl) ?_
            refine gx_val (.bool b224) w225 (by as_aux_lemma => kernel_rfl) (by as_aux_lemma => kernel_rfl) ?_
            refine gx_nil ?_
            refine gx_thenN ?_
            refine hK220 _ _ ?_
            refine gx_ret ?_
            refine gx_thenR ?_
            obtain rfl := Option.some.inj hO215
            exact gx_fin (.bool b224) (by as_aux_lemma => kernel_rfl) (by as_aux_lemma => kernel_rfl) ⟨_, rfl, rfl, (hS226.pick [] rfl rfl)⟩
          · refine gx_val (.bool false) w209 (by as_aux_lemma => kernel_rfl) (run_boolE (decide_eq_false h221) (by as_aux_lemma => kernel_rfl)) ?_
            refine gx_val (.bool false) w209 (by as_aux_lemma => kernel_rfl) (by as_aux_lemma => kernel_rfl) ?_
            refine gx_off (by as_aux_lemma => kernel_rfl) ?_
            refine gx_val (.bool false) w209 (by as_aux_lemma => kernel_rfl) (by as_aux_lemma => kernel_rfl) ?_
            refine gx_val (.bool false) w209 (by as_aux_lemma => kernel_rfl) (by as_aux_lemma => kernel_rfl) ?_
            refine gx_nil ?_
            refine gx_thenN ?_
            refine hK220 _ _ ?_
            refine gx_ret ?_
            refine gx_thenR ?_
            obtain rfl := Option.some.inj hO215
            exact gx_fin (.bool false) (by as_aux_lemma => kernel_rfl) (by as_aux_lemma => kernel_rfl) ⟨_, rfl, rfl, (hS210.pick [] rfl rfl)⟩
        | false =>
          try dsimp only at hO215
          refine gx_no (by as_aux_lemma => kernel_rfl) ?_
          refine gx_pass ?_
          refine gx_thenN ?_
          refine hK208 _ _ ?_
          refine gx_seq (fun K228 hK229 => ?_)
          refine gx_region ?_
          refine gx_val (.slice none 0 0) w209 (by as_aux_lemma => kernel_rfl) (by as_aux_lemma => kernel_rfl) ?_
          refine gx_nil ?_
          refine gx_thenN ?_
          refine hK229 _ _ ?_
          refine gx_seq (fun K230 hK231 => ?_)
          refine gx_region ?_
          refine gx_val (.slice none 0 0) w209 (by as_aux_lemma => kernel_rfl) (by as_aux_lemma => kernel_rfl) ?_
          refine gx_val (.slice A0 p0.length c0) w209 (by as_aux_lemma => kernel_rfl) (by as_aux_lemma => kernel_rfl) ?_
          have hS232 : St _ _ w209 [rowE .u8 26 A164 c165 l161, rowE .u8 26 A173 c174 l170, rowE .u8 5 A182 c183 l181, rowE .u8 26 A185 c186 l184, rowE .u8 5 A197 c198 l196, rowE .u8 26 A200 c201 l199, rowE .u8 26 none 0 ([])] := hS210.nilrow .u8 26
          obtain ⟨l233, ha234, hO215⟩ := bind_in hO215
          obtain ⟨ha234, hq235⟩ := apx_in ha234
          refine gx_R (by as_aux_lemma => kernel_rfl) (st_append rfl (by as_aux_lemma => kernel_rfl) (by as_aux_lemma => kernel_rfl) hS232 6 rfl (hS232.view hv0) hv0.nn ha234 (by as_aux_lemma => kernel_rfl) (by as_aux_lemma => kernel_rfl)) ?_
          rintro _ w238 ⟨A236, c237, rfl, hS239⟩
          rw [← hq235] at hS239 ⊢
          have hS239 : St _ _ w238 [rowE .u8 26 A164 c165 l161, rowE .u8 26 A173 c174 l170, rowE .u8 5 A182 c183 l181, rowE .u8 26 A185 c186 l184, rowE .u8 5 A197 c198 l196, rowE .u8 26 A200 c201 l199, rowE .u8 26 A236 c237 l233] := hS239
          refine gx_val (.slice A236 l233.length c237) w238 (by as_aux_lemma => kernel_rfl) (by as_aux_lemma => kernel_rfl) ?_
          refine gx_nil ?_
          refine gx_thenN ?_
          refine hK231 _ _ ?_
          refine gx_seq (fun K240 hK241 => ?_)
          refine gx_region ?_
          refine gx_val (.slice A236 l233.length c237) w238 (by as_aux_lemma => kernel_rfl) (by as_aux_lemma => kernel_rfl) ?_
          refine gx_val (.int .u8 x80) w238 (by as_aux_lemma => kernel_rfl) (by as_aux_lemma => kernel_rfl) ?_
          refine gx_R (by as_aux_lemma => kernel_rfl) (st_made .u8 26 [x80, 14] hS239 (by show 2 ≤ 1000000000; decide) (by as_aux_lemma => kernel_rfl)) ?_
          rintro _ w242 ⟨rfl, hS243⟩
          have hS243 : St _ _ w242 [rowE .u8 26 A164 c165 l161, rowE .u8 26 A173 c174 l170, rowE .u8 5 A182 c183 l181, rowE .u8 26 A185 c186 l184, rowE .u8 5 A197 c198 l196, rowE .u8 26 A200 c201 l199, rowE .u8 26 A236 c237 l233, rowE .u8 26 (some ⟨w238.heap.size, 0, none⟩) 2 ([x80, 14])] := hS243
          obtain ⟨l244, ha245, hO215⟩ := bind_in hO215
          obtain ⟨ha245, hq246⟩ := apx_in ha245
          refine gx_R (by as_aux_lemma => kernel_rfl) (st_append rfl (by as_aux_lemma => kernel_rfl) (by as_aux_lemma => kernel_rfl) hS243 6 rfl (hS243.row 7 rfl).1 (hS243.row 7 rfl).2 ha245 (by as_aux_lemma => kernel_rfl) (by as_aux_lemma => kernel_rfl)) ?_
          rintro _ w249 ⟨A247, c248, rfl, hS250⟩
          rw [← hq246] at hS250 ⊢
          have hS250 : St _ _ w249 [rowE .u8 26 A164 c165 l161, rowE .u8 26 A173 c174 l170, rowE .u8 5 A182 c183 l181, rowE .u8 26 A185 c186 l184, rowE .u8 5 A197 c198 l196, rowE .u8 26 A200 c201 l199, rowE .u8 26 A247 c248 l244, rowE .u8 26 (some ⟨w238.heap.size, 0, none⟩) 2 ([x80, 14])] := hS250
          refine gx_val (.slice A247 l244.length c248) w249 (by as_aux_lemma => kernel_rfl) (by as_aux_lemma => kernel_rfl) ?_
          refine gx_nil ?_
          refine gx_thenN ?_
          refine hK241 _ _ ?_
          refine gx_seq (fun K251 hK252 => ?_)
          refine gx_region ?_
          refine gx_val (.slice A247 l244.length c248) w249 (by as_aux_lemma => kernel_rfl) (by as_aux_lemma => kernel_rfl) ?_
          refine gx_val (.int .u8 x187) w249 (by as_aux_lemma => kernel_rfl) (by as_aux_lemma => kernel_rfl) ?_
          have hP253 : St _ _ w249 ([] ++ [rowE .u8 26 A164 c165 l161, rowE .u8 26 A173 c174 l170, rowE .u8 5 A182 c183 l181, rowE .u8 26 A185 c186 l184, rowE .u8 5 A197 c198 l196, rowE .u8 26 A200 c201 l199, rowE .u8 26 A247 c248 l244, rowE .u8 26 (some ⟨w238.heap.size, 0, none⟩) 2 ([x80, 14])]) := hS250
          obtain ⟨⟨l255, l258, x261, x262⟩, hc254, hO215⟩ := bind_in hO215
          try dsimp only at hO215
          refine gx_call (pLevels_R (l255, l258, x261, x262) w249) (by as_aux_lemma => kernel_rfl) (by as_aux_lemma => kernel_rfl) (pLevels_ok N l244 x187 A247 c248 _ hc254 w249 (hP253.vwB 6 rfl)) ?_
          rintro _ w263 ⟨A256, c257, A259, c260, rfl, hT265⟩
          have hS264 : St _ _ w263 [rowE .u8 26 A164 c165 l161, rowE .u8 26 A173 c174 l170, rowE .u8 5 A182 c183 l181, rowE .u8 26 A185 c186 l184, rowE .u8 5 A197 c198 l196, rowE .u8 26 A200 c201 l199, rowE .u8 26 A247 c248 l244, rowE .u8 26 (some ⟨w238.heap.size, 0, none⟩) 2 ([x80, 14]), rowE .u8 5 A256 c257 l255, rowE .u8 26 A259 c260 l258] := hS250.take _ hT265
          refine gx_val (.tuple #[.slice A256 l255.length c257, .slice A259 l258.length c260, .int .u8 x261, .int .i64 x262]) w263 (by as_aux_lemma => kernel_rfl) (by as_aux_lemma => kernel_rfl) ?_
          refine gx_val (.slice A256 l255.length c257) w263 (by as_aux_lemma => kernel_rfl) (by as_aux_lemma => kernel_rfl) ?_
          refine gx_val (.slice A259 l258.length c260) w263 (by as_aux_lemma => kernel_rfl) (by as_aux_lemma => kernel_rfl) ?_
          refine gx_val (.int .u8 x261) w263 (by as_aux_lemma => kernel_rfl) (by as_aux_lemma => kernel_rfl) ?_
          refine gx_val (.int .i64 x262) w263 (by as_aux_lemma => kernel_rfl) (by as_aux_lemma => kernel_rfl) ?_
          refine gx_val (.slice A256 l255.length c257) w263 (by as_aux_lemma => kernel_rfl) (by as_aux_lemma => kernel_rfl) ?_
          refine gx_val (.slice A259 l258.length c260) w263 (by as_aux_lemma => kernel_rfl) (by as_aux_lemma => kernel_rfl) ?_
          refine gx_val (.int .u8 x261) w263 (by as_aux_lemma => kernel_rfl) (by as_aux_lemma => kernel_rfl) ?_
          refine gx_val (.int .i64 x262) w263 (by as_aux_lemma => kernel_rfl) (by as_aux_lemma => kernel_rfl) ?_
          refine gx_nil ?_
          refine gx_thenN ?_
          refine hK252 _ _ ?_
          refine gx_seq (fun K266 hK267 => ?_)
          refine gx_region ?_
          refine gx_val (.slice A0 p0.length c0) w263 (by as_aux_lemma => kernel_rfl) (by as_aux_lemma => kernel_rfl) ?_
          refine gx_val (.int .i64 ((p0.length : Nat) : Int)) w263 (by as_aux_lemma => kernel_rfl) (by as_aux_lemma => kernel_rfl) ?_
          refine gx_val (.int .i64 ((p0.length : Nat) : Int)) w263 (by as_aux_lemma => kernel_rfl) (by as_aux_lemma => kernel_rfl) ?_
          refine gx_nil ?_
          refine gx_thenN ?_
          refine hK267 _ _ ?_
          obtain ⟨c271, hE272, hO273⟩ := bind_in hO215
          refine gx_cut (fun a w => selfA (fun u270 => ⟨((.slice A0 p0.length c0) :: dd u211 1 2 ((.slice A3 p3.length c3) :: (.bool p4) :: (.int .u8 p5) :: un 6 ((u270 12) :: (.int .u8 x80) :: (.slice A164 l161.length c165) :: (.slice A173 l170.length c174) :: (.slice A182 l181.length c183) :: (.slice A185 l184.length c186) :: (.int .u8 x187) :: (.int .i64 x188) :: (.slice A197 l196.length c198) :: (.slice A200 l199.length c201) :: (.int .u8 x202) :: (.int .i64 x203) :: dd u270 24 3 ((.int .u8 x261) :: (.int .i64 x262) :: (.int .i64 ((p0.length : Nat) : Int)) :: un 4 (dd u5 34 29 ((u79 63) :: (.slice none 0 0) :: dd u211 65 3 ((.int .u8 x80) :: dd u211 69 2 ((.slice none 0 0) :: dd u211 72 22 ((.int .u8 p5) :: dd u211 95 3 ((.int .u8 x187) :: (.int .i64 x188) :: dd u211 100 2 ((.int .u8 p5) :: dd u211 103 3 ((.int .u8 x202) :: (.int .i64 x203) :: dd u211 108 11 ((.bool false) :: un 6 ((.slice none 0 0) :: dd u270 127 3 ((.int .u8 x80) :: dd u270 131 4 ((.int .u8 x187) :: dd u270 136 3 ((.int .u8 x261) :: (.int .i64 x262) :: (u270 141) :: (.int .i64 ((p0.length : Nat) : Int)) :: dd u270 143 18 (un 63 ([]))))))))))))))))))).toArray, []⟩) a ∧ Ctl.go () = c271 ∧ St [] w0 w [rowE .u8 26 A164 c165 l161, rowE .u8 26 A173 c174 l170, rowE .u8 5 A182 c183 l181, rowE .u8 26 A185 c186 l184, rowE .u8 5 A197 c198 l196, rowE .u8 26 A200 c201 l199]) ?_ ?_
          · refine gx_seq (fun K274 hK275 => ?_)
            refine gd_start (fun w => St [] w0 w [rowE .u8 26 A164 c165 l161, rowE .u8 26 A173 c174 l170, rowE .u8 5 A182 c183 l181, rowE .u8 26 A185 c186 l184, rowE .u8 5 A197 c198 l196, rowE .u8 26 A200 c201 l199, rowE .u8 26 A247 c248 l244, rowE .u8 26 (some ⟨w238.heap.size, 0, none⟩) 2 ([x80, 14]), rowE .u8 5 A256 c257 l255, rowE .u8 26 A259 c260 l258]) 17 #[false, false, false, false, false, false, false, false, false, false, false, false, false, false, false, false, false] (by as_aux_lemma => kernel_rfl) (by as_aux_lemma => kernel_rfl) ?_
            have hS277 := hS264.drew
            generalize w263.drew = w276 at hS277 ⊢
            refine gd1 0 { dst := some 143, op := _, type := _, pos := _, after := _, guard := _ } (.slice A256 l255.length c257) rfl hS277 (fun w hSw => by kernel_rfl) ?_
            refine gd1 1 { dst := some 144, op := _, type := _, pos := _, after := _, guard := _ } (.int .i64 ((l255.length : Nat) : Int)) rfl hS277 (fun w hSw => by kernel_rfl) ?_
            refine gd1 2 { dst := some 145, op := _, type := _, pos := _, after := _, guard := _ } (.int .i64 ((p0.length : Nat) : Int)) rfl hS277 (fun w hSw => by kernel_rfl) ?_
            refine gd1 3 { dst := some 146, op := _, type := _, pos := _, after := _, guard := _ } (.int .i64 (IntKind.i64.wrap (((p0.length : Nat) : Int) + 2))) rfl hS277 (fun w hSw => by kernel_rfl) ?_
            rcases if_in hE272 with ⟨h278, hE272⟩ | ⟨h278, hE272⟩
            · refine gd1 4 { dst := some 147, op := _, type := _, pos := _, after := _, guard := _ } (.bool true) rfl hS277 (fun w hSw => run_boolE (ne_yes h278) (by as_aux_lemma => kernel_rfl)) ?_
              refine gd1 5 { dst := some 148, op := _, type := _, pos := _, after := _, guard := _ } (.bool true) rfl hS277 (fun w hSw => by kernel_rfl) ?_
              refine gd0 6 { dst := some 149, op := _, type := _, pos := _, after := _, guard := _ } rfl hS277 ?_
              refine gd0 7 { dst := some 150, op := _, type := _, pos := _, after := _, guard := _ } rfl hS277 ?_
              refine gd0 8 { dst := some 151, op := _, type := _, pos := _, after := _, guard := _ } rfl hS277 ?_
              refine gd0 9 { dst := some 152, op := _, type := _, pos := _, after := _, guard := _ } rfl hS277 ?_
              refine gd0 10 { dst := some 153, op := _, type := _, pos := _, after := _, guard := _ } rfl hS277 ?_
              refine gd0 11 { dst := some 154, op := _, type := _, pos := _, after := _, guard := _ } rfl hS277 ?_
              refine gd0 12 { dst := some 155, op := _, type := _, pos := _, after := _, guard := _ } rfl hS277 ?_
              refine gd0 13 { dst := some 156, op := _, type := _, pos := _, after := _, guard := _ } rfl hS277 ?_
              refine gd0 14 { dst := some 157, op := _, type := _, pos := _, after := _, guard := _ } rfl hS277 ?_
              refine gd0 15 { dst := some 158, op := _, type := _, pos := _, after := _, guard := _ } rfl hS277 ?_
              refine gd1 16 { dst := some 159, op := _, type := _, pos := _, after := _, guard := _ } (.bool true) rfl hS277 (fun w hSw => by kernel_rfl) ?_
              refine gd_done (by as_aux_lemma => kernel_rfl) ?_
              refine gx_thenN ?_
              refine hK275 _ _ ?_
              refine gx_yes (by as_aux_lemma => kernel_rfl) ?_
              refine gx_seq (fun K279 hK280 => ?_)
              refine gx_region ?_
              have hP281 : St _ _ w276 ([] ++ [rowE .u8 26 A164 c165 l161, rowE .u8 26 A173 c174 l170, rowE .u8 5 A182 c183 l181, rowE .u8 26 A185 c186 l184, rowE .u8 5 A197 c198 l196, rowE .u8 26 A200 c201 l199, rowE .u8 26 A247 c248 l244, rowE .u8 26 (some ⟨w238.heap.size, 0, none⟩) 2 ([x80, 14]), rowE .u8 5 A256 c257 l255, rowE .u8 26 A259 c260 l258]) := hS277
              obtain ⟨b283, hc282, hE272⟩ := bind_in hE272
              try dsimp only at hE272
              refine gx_call (kWorks_R b283 w276) (by as_aux_lemma => kernel_rfl) (by as_aux_lemma => kernel_rfl) (kWorks_ok N  _ hc282 w276 ) ?_
              rintro _ w284 ⟨rfl, hT286⟩
              have hS285 : St _ _ w284 [rowE .u8 26 A164 c165 l161, rowE .u8 26 A173 c174 l170, rowE .u8 5 A182 c183 l181, rowE .u8 26 A185 c186 l184, rowE .u8 5 A197 c198 l196, rowE .u8 26 A200 c201 l199, rowE .u8 26 A247 c248 l244, rowE .u8 26 (some ⟨w238.heap.size, 0, none⟩) 2 ([x80, 14]), rowE .u8 5 A256 c257 l255, rowE .u8 26 A259 c260 l258] := hS277.take _ hT286
              refine gx_val (.bool b283) w284 (by as_aux_lemma => kernel_rfl) (by as_aux_lemma => kernel_rfl) ?_
              refine gx_nil ?_
              refine gx_thenN ?_
              refine hK280 _ _ ?_
              refine gx_ret ?_
              refine gx_thenR ?_
              obtain rfl := Option.some.inj hE272
              try dsimp only at hO273
              obtain rfl := Option.some.inj hO273
              exact gx_fin (.bool b283) (by as_aux_lemma => kernel_rfl) (by as_aux_lemma => kernel_rfl) ⟨_, rfl, rfl, (hS285.pick [] rfl rfl)⟩
            · refine gd1 4 { dst := some 147, op := _, type := _, pos := _, after := _, guard := _ } (.bool false) rfl hS277 (fun w hSw => run_boolE (ne_no h278) (by as_aux_lemma => kernel_rfl)) ?_
              refine gd1 5 { dst := some 148, op := _, type := _, pos := _, after := _, guard := _ } (.bool false) rfl hS277 (fun w hSw => by kernel_rfl) ?_
              refine gd1 6 { dst := some 149, op := _, type := _, pos := _, after := _, guard := _ } (.slice A256 l255.length c257) rfl hS277 (fun w hSw => by kernel_rfl) ?_
              refine gd1 7 { dst := some 150, op := _, type := _, pos := _, after := _, guard := _ } (.int .i64 ((p0.length : Nat) : Int)) rfl hS277 (fun w hSw => by kernel_rfl) ?_
              refine gd1 8 { dst := some 151, op := _, type := _, pos := _, after := _, guard := _ } (.int .i64 (IntKind.i64.wrap (((p0.length : Nat) : Int) + 1))) rfl hS277 (fun w hSw => by kernel_rfl) ?_
              obtain ⟨x287, hx288, hE272⟩ := bind_in hE272
              refine gd1 9 { dst := some 152, op := _, type := _, pos := _, after := _, guard := _ } (.pointer (Option.map (fun (p : Addr) => p.add (Int.toNat (IntKind.i64.wrap (((p0.length : Nat) : Int) + 1)) * 1)) A256)) rfl hS277 (fun w hSw => run_ixaddr (E := 5) (s := 1) (k := .i64) (c := c257) rfl (by as_aux_lemma => kernel_rfl) (by as_aux_lemma => kernel_rfl) (by as_aux_lemma => kernel_rfl) (fun _ => by kernel_rfl) (ix_in hx288).1 (ix_in hx288).2.1 (num_nil (hS277.row 8 rfl).1)) ?_
              refine gd1 10 { dst := some 153, op := _, type := _, pos := _, after := _, guard := _ } (.int .u8 x287) rfl hS277 (fun w hSw => run_loadix rfl (by as_aux_lemma => kernel_rfl) (fun _ => by kernel_rfl) (hSw.row 8 rfl).1 hx288) ?_
              refine gd1 11 { dst := some 154, op := _, type := _, pos := _, after := _, guard := _ } (.slice A256 l255.length c257) rfl hS277 (fun w hSw => by kernel_rfl) ?_
              refine gd1 12 { dst := some 155, op := _, type := _, pos := _, after := _, guard := _ } (.int .i64 ((p0.length : Nat) : Int)) rfl hS277 (fun w hSw => by kernel_rfl) ?_
              obtain ⟨x289, hx290, hE272⟩ := bind_in hE272
              refine gd1 13 { dst := some 156, op := _, type := _, pos := _, after := _, guard := _ } (.pointer (Option.map (fun (p : Addr) => p.add (Int.toNat ((p0.length : Nat) : Int) * 1)) A256)) rfl hS277 (fun w hSw => run_ixaddr (E := 5) (s := 1) (k := .i64) (c := c257) rfl (by as_aux_lemma => kernel_rfl) (by as_aux_lemma => kernel_rfl) (by as_aux_lemma => kernel_rfl) (fun _ => by kernel_rfl) (ix_in hx290).1 (ix_in hx290).2.1 (num_nil (hS277.row 8 rfl).1)) ?_
              refine gd1 14 { dst := some 157, op := _, type := _, pos := _, after := _, guard := _ } (.int .u8 x289) rfl hS277 (fun w hSw => run_loadix rfl (by as_aux_lemma => kernel_rfl) (fun _ => by kernel_rfl) (hSw.row 8 rfl).1 hx290) ?_
              rcases if_in hE272 with ⟨h291, hE272⟩ | ⟨h291, hE272⟩
              · refine gd1 15 { dst := some 158, op := _, type := _, pos := _, after := _, guard := _ } (.bool true) rfl hS277 (fun w hSw => run_boolE (decide_eq_true h291) (by as_aux_lemma => kernel_rfl)) ?_
                refine gd1 16 { dst := some 159, op := _, type := _, pos := _, after := _, guard := _ } (.bool true) rfl hS277 (fun w hSw => by kernel_rfl) ?_
                refine gd_done (by as_aux_lemma => kernel_rfl) ?_
                refine gx_thenN ?_
                refine hK275 _ _ ?_
                refine gx_yes (by as_aux_lemma => kernel_rfl) ?_
                refine gx_seq (fun K292 hK293 => ?_)
                refine gx_region ?_
                have hP294 : St _ _ w276 ([] ++ [rowE .u8 26 A164 c165 l161, rowE .u8 26 A173 c174 l170, rowE .u8 5 A182 c183 l181, rowE .u8 26 A185 c186 l184, rowE .u8 5 A197 c198 l196, rowE .u8 26 A200 c201 l199, rowE .u8 26 A247 c248 l244, rowE .u8 26 (some ⟨w238.heap.size, 0, none⟩) 2 ([x80, 14]), rowE .u8 5 A256 c257 l255, rowE .u8 26 A259 c260 l258]) := hS277
                obtain ⟨b296, hc295, hE272⟩ := bind_in hE272
                try dsimp only at hE272
                refine gx_call (kWorks_R b296 w276) (by as_aux_lemma => kernel_rfl) (by as_aux_lemma => kernel_rfl) (kWorks_ok N  _ hc295 w276 ) ?_
                rintro _ w297 ⟨rfl, hT299⟩
                have hS298 : St _ _ w297 [rowE .u8 26 A164 c165 l161, rowE .u8 26 A173 c174 l170, rowE .u8 5 A182 c183 l181, rowE .u8 26 A185 c186 l184, rowE .u8 5 A197 c198 l196, rowE .u8 26 A200 c201 l199, rowE .u8 26 A247 c248 l244, rowE .u8 26 (some ⟨w238.heap.size, 0, none⟩) 2 ([x80, 14]), rowE .u8 5 A256 c257 l255, rowE .u8 26 A259 c260 l258] := hS277.take _ hT299
                refine gx_val (.bool b296) w297 (by as_aux_lemma => kernel_rfl) (by as_aux_lemma => kernel_rfl) ?_
                refine gx_nil ?_
                refine gx_thenN ?_
                refine hK293 _ _ ?_
                refine gx_ret ?_
                refine gx_thenR ?_
                obtain rfl := Option.some.inj hE272
                try dsimp only at hO273
                obtain rfl := Option.some.inj hO273
                exact gx_fin (.bool b296) (by as_aux_lemma => kernel_rfl) (by as_aux_lemma => kernel_rfl) ⟨_, rfl, rfl, (hS298.pick [] rfl rfl)⟩
              · refine gd1 15 { dst := some 158, op := _, type := _, pos := _, after := _, guard := _ } (.bool false) rfl hS277 (fun w hSw => run_boolE (decide_eq_false h291) (by as_aux_lemma => kernel_rfl)) ?_
                refine gd1 16 { dst := some 159, op := _, type := _, pos := _, after := _, guard := _ } (.bool false) rfl hS277 (fun w hSw => by kernel_rfl) ?_
                refine gd_done (by as_aux_lemma => kernel_rfl) ?_
                refine gx_thenN ?_
                refine hK275 _ _ ?_
                refine gx_no (by as_aux_lemma => kernel_rfl) ?_
                refine gx_pass ?_
                refine gx_thenN ?_
                exact ⟨selfA_i (by as_aux_lemma => kernel_rfl), (Option.some.inj hE272), (hS277.pick [0, 1, 2, 3, 4, 5] rfl rfl)⟩
          · rintro _ w268 ⟨hq392, rfl, hS269⟩
            obtain ⟨u270, rfl⟩ := selfA_u hq392
            try dsimp only at hO273
            obtain ⟨c303, hE304, hO305⟩ := bind_in hO273
            refine gx_cut (fun a w => selfA (fun u302 => ⟨((u302 0) :: dd u211 1 2 ((.slice A3 p3.length c3) :: (.bool p4) :: (.int .u8 p5) :: un 6 ((u302 12) :: (.int .u8 x80) :: (.slice A164 l161.length c165) :: (.slice A173 l170.length c174) :: (.slice A182 l181.length c183) :: (.slice A185 l184.length c186) :: (.int .u8 x187) :: (.int .i64 x188) :: (.slice A197 l196.length c198) :: (.slice A200 l199.length c201) :: (.int .u8 x202) :: (.int .i64 x203) :: dd u270 24 3 ((.int .u8 x261) :: (.int .i64 x262) :: (.int .i64 ((p0.length : Nat) : Int)) :: (u302 30) :: un 3 (dd u5 34 29 ((u79 63) :: (.slice none 0 0) :: dd u211 65 3 ((.int .u8 x80) :: dd u211 69 2 ((.slice none 0 0) :: dd u211 72 22 ((.int .u8 p5) :: dd u211 95 3 ((.int .u8 x187) :: (.int .i64 x188) :: dd u211 100 2 ((.int .u8 p5) :: dd u211 103 3 ((.int .u8 x202) :: (.int .i64 x203) :: dd u211 108 11 ((.bool false) :: un 6 ((.slice none 0 0) :: dd u270 127 3 ((.int .u8 x80) :: dd u270 131 4 ((.int .u8 x187) :: dd u270 136 3 ((.int .u8 x261) :: (.int .i64 x262) :: (u270 141) :: (.int .i64 ((p0.length : Nat) : Int)) :: dd u270 143 18 (dd u302 161 26 (un 37 ([])))))))))))))))))))).toArray, []⟩) a ∧ Ctl.go () = c303 ∧ St [] w0 w [rowE .u8 26 A164 c165 l161, rowE .u8 26 A173 c174 l170, rowE .u8 5 A182 c183 l181, rowE .u8 26 A185 c186 l184, rowE .u8 5 A197 c198 l196, rowE .u8 26 A200 c201 l199]) ?_ ?_
            · refine gx_seq (fun K306 hK307 => ?_)
              refine gx_region ?_
              refine gx_val (.int .i64 0) w268 (by as_aux_lemma => kernel_rfl) (by as_aux_lemma => kernel_rfl) ?_
              refine gx_nil ?_
              refine gx_thenN ?_
              refine hK307 _ _ ?_
              refine gx_block ?_
              refine gx_loop (fun k a w => ∃ (x311 : Int), selfA (fun u310 => ⟨((.slice A0 p0.length c0) :: dd u211 1 2 ((.slice A3 p3.length c3) :: (.bool p4) :: (.int .u8 p5) :: un 6 ((u310 12) :: (.int .u8 x80) :: (.slice A164 l161.length c165) :: (.slice A173 l170.length c174) :: (.slice A182 l181.length c183) :: (.slice A185 l184.length c186) :: (.int .u8 x187) :: (.int .i64 x188) :: (.slice A197 l196.length c198) :: (.slice A200 l199.length c201) :: (.int .u8 x202) :: (.int .i64 x203) :: dd u270 24 3 ((.int .u8 x261) :: (.int .i64 x262) :: (.int .i64 ((p0.length : Nat) : Int)) :: (.int .i64 x311) :: un 3 (dd u5 34 29 ((u79 63) :: (.slice none 0 0) :: dd u211 65 3 ((.int .u8 x80) :: dd u211 69 2 ((.slice none 0 0) :: dd u211 72 22 ((.int .u8 p5) :: dd u211 95 3 ((.int .u8 x187) :: (.int .i64 x188) :: dd u211 100 2 ((.int .u8 p5) :: dd u211 103 3 ((.int .u8 x202) :: (.int .i64 x203) :: dd u211 108 11 ((.bool false) :: un 6 ((.slice none 0 0) :: dd u270 127 3 ((.int .u8 x80) :: dd u270 131 4 ((.int .u8 x187) :: dd u270 136 3 ((.int .u8 x261) :: (.int .i64 x262) :: (u270 141) :: (.int .i64 ((p0.length : Nat) : Int)) :: dd u270 143 18 (dd u310 161 26 (un 37 ([])))))))))))))))))))).toArray, []⟩) a ∧ fIsolates_L1 N p0 l181 l184 l196 l199 k x311 = some c303 ∧ St [] w0 w [rowE .u8 26 A164 c165 l161, rowE .u8 26 A173 c174 l170, rowE .u8 5 A182 c183 l181, rowE .u8 26 A185 c186 l184, rowE .u8 5 A197 c198 l196, rowE .u8 26 A200 c201 l199]) N ?_ ?_
              · exact ⟨0, selfA_i (by as_aux_lemma => kernel_rfl), hE304, hS269⟩
              · rintro k312 _ w308 ⟨x311, hq339, hL313, hS309⟩
                obtain ⟨u310, rfl⟩ := selfA_u hq339
                cases k312 with
                | zero => cases hL313
                | succ k312 =>
                  rw [fIsolates_L1] at hL313
                  refine gx_seq (fun K314 hK315 => ?_)
                  refine gx_seq (fun K316 hK317 => ?_)
                  refine gx_region ?_
                  refine gx_val (.int .i64 x311) w308 (by as_aux_lemma => kernel_rfl) (by as_aux_lemma => kernel_rfl) ?_
                  refine gx_val (.slice A0 p0.length c0) w308 (by as_aux_lemma => kernel_rfl) (by as_aux_lemma => kernel_rfl) ?_
                  refine gx_val (.int .i64 ((p0.length : Nat) : Int)) w308 (by as_aux_lemma => kernel_rfl) (by as_aux_lemma => kernel_rfl) ?_
                  rcases if_in hL313 with ⟨h318, hL313⟩ | ⟨h318, hL313⟩
                  · refine gx_val (.bool true) w308 (by as_aux_lemma => kernel_rfl) (run_boolE (decide_eq_true h318) (by as_aux_lemma => kernel_rfl)) ?_
                    refine gx_nil ?_
                    refine gx_thenN ?_
                    refine hK317 _ _ ?_
                    refine gx_yes (by as_aux_lemma => kernel_rfl) ?_
                    refine gx_pass ?_
                    refine gx_thenN ?_
                    refine hK315 _ _ ?_
                    refine gx_seq (fun K319 hK320 => ?_)
                    refine gx_block ?_
                    refine gx_seq (fun K321 hK322 => ?_)
                    refine gd_start (fun w => St [] w0 w [rowE .u8 26 A164 c165 l161, rowE .u8 26 A173 c174 l170, rowE .u8 5 A182 c183 l181, rowE .u8 26 A185 c186 l184, rowE .u8 5 A197 c198 l196, rowE .u8 26 A200 c201 l199]) 20 #[false, false, false, false, false, false, false, false, false, false, false, false, false, false, false, false, false, false, false, false] (by as_aux_lemma => kernel_rfl) (by as_aux_lemma => kernel_rfl) ?_
                    have hS324 := hS309.drew
                    generalize w308.drew = w323 at hS324 ⊢
                    refine gd1 0 { dst := some 167, op := _, type := _, pos := _, after := _, guard := _ } (.slice A182 l181.length c183) rfl hS324 (fun w hSw => by kernel_rfl) ?_
                    refine gd1 1 { dst := some 168, op := _, type := _, pos := _, after := _, guard := _ } (.int .i64 x311) rfl hS324 (fun w hSw => by kernel_rfl) ?_
                    obtain ⟨x325, hx326, hL313⟩ := bind_in hL313
                    refine gd1 2 { dst := some 169, op := _, type := _, pos := _, after := _, guard := _ } (.pointer (Option.map (fun (p : Addr) => p.add (Int.toNat x311 * 1)) A182)) rfl hS324 (fun w hSw => run_ixaddr (E := 5) (s := 1) (k := .i64) (c := c183) rfl (by as_aux_lemma => kernel_rfl) (by as_aux_lemma => kernel_rfl) (by as_aux_lemma => kernel_rfl) (fun _ => by kernel_rfl) (ix_in hx326).1 (ix_in hx326).2.1 (num_nil (hS324.row 2 rfl).1)) ?_
                    refine gd1 3 { dst := some 170, op := _, type := _, pos := _, after := _, guard := _ } (.int .u8 x325) rfl hS324 (fun w hSw => run_loadix rfl (by as_aux_lemma => kernel_rfl) (fun _ => by kernel_rfl) (hSw.row 2 rfl).1 hx326) ?_
                    refine gd1 4 { dst := some 171, op := _, type := _, pos := _, after := _, guard := _ } (.slice A197 l196.length c198) rfl hS324 (fun w hSw => by kernel_rfl) ?_
                    refine gd1 5 { dst := some 172, op := _, type := _, pos := _, after := _, guard := _ } (.int .i64 x311) rfl hS324 (fun w hSw => by kernel_rfl) ?_
                    obtain ⟨x327, hx328, hL313⟩ := bind_in hL313
                    refine gd1 6 { dst := some 173, op := _, type := _, pos := _, after := _, guard := _ } (.pointer (Option.map (fun (p : Addr) => p.add (Int.toNat x311 * 1)) A197)) rfl hS324 (fun w hSw => run_ixaddr (E := 5) (s := 1) (k := .i64) (c := c198) rfl (by as_aux_lemma => kernel_rfl) (by as_aux_lemma => kernel_rfl) (by as_aux_lemma => kernel_rfl) (fun _ => by kernel_rfl) (ix_in hx328).1 (ix_in hx328).2.1 (num_nil (hS324.row 4 rfl).1)) ?_
                    refine gd1 7 { dst := some 174, op := _, type := _, pos := _, after := _, guard := _ } (.int .u8 x327) rfl hS324 (fun w hSw => run_loadix rfl (by as_aux_lemma => kernel_rfl) (fun _ => by kernel_rfl) (hSw.row 4 rfl).1 hx328) ?_
                    rcases if_in hL313 with ⟨h329, hL313⟩ | ⟨h329, hL313⟩
                    · refine gd1 8 { dst := some 175, op := _, type := _, pos := _, after := _, guard := _ } (.bool true) rfl hS324 (fun w hSw => run_boolE (ne_yes h329) (by as_aux_lemma => kernel_rfl)) ?_
                      refine gd1 9 { dst := some 176, op := _, type := _, pos := _, after := _, guard := _ } (.bool true) rfl hS324 (fun w hSw => by kernel_rfl) ?_
                      refine gd0 10 { dst := some 177, op := _, type := _, pos := _, after := _, guard := _ } rfl hS324 ?_
                      refine gd0 11 { dst := some 178, op := _, type := _, pos := _, after := _, guard := _ } rfl hS324 ?_
                      refine gd0 12 { dst := some 179, op := _, type := _, pos := _, after := _, guard := _ } rfl hS324 ?_
                      refine gd0 13 { dst := some 180, op := _, type := _, pos := _, after := _, guard := _ } rfl hS324 ?_
                      refine gd0 14 { dst := some 181, op := _, type := _, pos := _, after := _, guard := _ } rfl hS324 ?_
                      refine gd0 15 { dst := some 182, op := _, type := _, pos := _, after := _, guard := _ } rfl hS324 ?_
                      refine gd0 16 { dst := some 183, op := _, type := _, pos := _, after := _, guard := _ } rfl hS324 ?_
                      refine gd0 17 { dst := some 184, op := _, type := _, pos := _, after := _, guard := _ } rfl hS324 ?_
                      refine gd0 18 { dst := some 185, op := _, type := _, pos := _, after := _, guard := _ } rfl hS324 ?_
                      refine gd1 19 { dst := some 186, op := _, type := _, pos := _, after := _, guard := _ } (.bool true) rfl hS324 (fun w hSw => by kernel_rfl) ?_
                      refine gd_done (by as_aux_lemma => kernel_rfl) ?_
                      refine gx_thenN ?_
                      refine hK322 _ _ ?_
                      refine gx_yes (by as_aux_lemma => kernel_rfl) ?_
                      refine gx_seq (fun K330 hK331 => ?_)
                      refine gx_region ?_
                      refine gx_val (.bool false) w323 (by as_aux_lemma => kernel_rfl) (by as_aux_lemma => kernel_rfl) ?_
                      refine gx_nil ?_
                      refine gx_thenN ?_
                      refine hK331 _ _ ?_
                      refine gx_ret ?_
                      refine gx_blkR ?_
                      refine gx_thenR ?_
                      refine gx_thenR ?_
                      refine gx_blkR ?_
                      refine gx_thenR ?_
                      obtain rfl := Option.some.inj hL313
                      try dsimp only at hO305
                      obtain rfl := Option.some.inj hO305
                      exact gx_fin (.bool false) (by as_aux_lemma => kernel_rfl) (by as_aux_lemma => kernel_rfl) ⟨_, rfl, rfl, (hS324.pick [] rfl rfl)⟩
                    · refine gd1 8 { dst := some 175, op := _, type := _, pos := _, after := _, guard := _ } (.bool false) rfl hS324 (fun w hSw => run_boolE (ne_no h329) (by as_aux_lemma => kernel_rfl)) ?_
                      refine gd1 9 { dst := some 176, op := _, type := _, pos := _, after := _, guard := _ } (.bool false) rfl hS324 (fun w hSw => by kernel_rfl) ?_
                      refine gd1 10 { dst := some 177, op := _, type := _, pos := _, after := _, guard := _ } (.slice A185 l184.length c186) rfl hS324 (fun w hSw => by kernel_rfl) ?_
                      refine gd1 11 { dst := some 178, op := _, type := _, pos := _, after := _, guard := _ } (.int .i64 x311) rfl hS324 (fun w hSw => by kernel_rfl) ?_
                      obtain ⟨x332, hx333, hL313⟩ := bind_in hL313
                      refine gd1 12 { dst := some 179, op := _, type := _, pos := _, after := _, guard := _ } (.pointer (Option.map (fun (p : Addr) => p.add (Int.toNat x311 * 1)) A185)) rfl hS324 (fun w hSw => run_ixaddr (E := 26) (s := 1) (k := .i64) (c := c186) rfl (by as_aux_lemma => kernel_rfl) (by as_aux_lemma => kernel_rfl) (by as_aux_lemma => kernel_rfl) (fun _ => by kernel_rfl) (ix_in hx333).1 (ix_in hx333).2.1 (num_nil (hS324.row 3 rfl).1)) ?_
                      refine gd1 13 { dst := some 180, op := _, type := _, pos := _, after := _, guard := _ } (.int .u8 x332) rfl hS324 (fun w hSw => run_loadix rfl (by as_aux_lemma => kernel_rfl) (fun _ => by kernel_rfl) (hSw.row 3 rfl).1 hx333) ?_
                      refine gd1 14 { dst := some 181, op := _, type := _, pos := _, after := _, guard := _ } (.slice A200 l199.length c201) rfl hS324 (fun w hSw => by kernel_rfl) ?_
                      refine gd1 15 { dst := some 182, op := _, type := _, pos := _, after := _, guard := _ } (.int .i64 x311) rfl hS324 (fun w hSw => by kernel_rfl) ?_
                      obtain ⟨x334, hx335, hL313⟩ := bind_in hL313
                      refine gd1 16 { dst := some 183, op := _, type := _, pos := _, after := _, guard := _ } (.pointer (Option.map (fun (p : Addr) => p.add (Int.toNat x311 * 1)) A200)) rfl hS324 (fun w hSw => run_ixaddr (E := 26) (s := 1) (k := .i64) (c := c201) rfl (by as_aux_lemma => kernel_rfl) (by as_aux_lemma => kernel_rfl) (by as_aux_lemma => kernel_rfl) (fun _ => by kernel_rfl) (ix_in hx335).1 (ix_in hx335).2.1 (num_nil (hS324.row 5 rfl).1)) ?_
                      refine gd1 17 { dst := some 184, op := _, type := _, pos := _, after := _, guard := _ } (.int .u8 x334) rfl hS324 (fun w hSw => run_loadix rfl (by as_aux_lemma => kernel_rfl) (fun _ => by kernel_rfl) (hSw.row 5 rfl).1 hx335) ?_
                      rcases if_in hL313 with ⟨h336, hL313⟩ | ⟨h336, hL313⟩
                      · refine gd1 18 { dst := some 185, op := _, type := _, pos := _, after := _, guard := _ } (.bool true) rfl hS324 (fun w hSw => run_boolE (ne_yes h336) (by as_aux_lemma => kernel_rfl)) ?_
                        refine gd1 19 { dst := some 186, op := _, type := _, pos := _, after := _, guard := _ } (.bool true) rfl hS324 (fun w hSw => by kernel_rfl) ?_
                        refine gd_done (by as_aux_lemma => kernel_rfl) ?_
                        refine gx_thenN ?_
                        refine hK322 _ _ ?_
                        refine gx_yes (by as_aux_lemma => kernel_rfl) ?_
                        refine gx_seq (fun K337 hK338 => ?_)
                        refine gx_region ?_
                        refine gx_val (.bool false) w323 (by as_aux_lemma => kernel_rfl) (by as_aux_lemma => kernel_rfl) ?_
                        refine gx_nil ?_
                        refine gx_thenN ?_
                        refine hK338 _ _ ?_
                        refine gx_ret ?_
                        refine gx_blkR ?_
                        refine gx_thenR ?_
                        refine gx_thenR ?_
                        refine gx_blkR ?_
                        refine gx_thenR ?_
                        obtain rfl := Option.some.inj hL313
                        try dsimp only at hO305
                        obtain rfl := Option.some.inj hO305
                        exact gx_fin (.bool false) (by as_aux_lemma => kernel_rfl) (by as_aux_lemma => kernel_rfl) ⟨_, rfl, rfl, (hS324.pick [] rfl rfl)⟩
                      · refine gd1 18 { dst := some 185, op := _, type := _, pos := _, after := _, guard := _ } (.bool false) rfl hS324 (fun w hSw => run_boolE (ne_no h336) (by as_aux_lemma => kernel_rfl)) ?_
                        refine gd1 19 { dst := some 186, op := _, type := _, pos := _, after := _, guard := _ } (.bool false) rfl hS324 (fun w hSw => by kernel_rfl) ?_
                        refine gd_done (by as_aux_lemma => kernel_rfl) ?_
                        refine gx_thenN ?_
                        refine hK322 _ _ ?_
                        refine gx_no (by as_aux_lemma => kernel_rfl) ?_
                        refine gx_pass ?_
                        refine gx_blkN ?_
                        refine gx_thenN ?_
                        refine hK320 _ _ ?_
                        refine gx_region ?_
                        refine gx_val (.int .i64 x311) w323 (by as_aux_lemma => kernel_rfl) (by as_aux_lemma => kernel_rfl) ?_
                        refine gx_val (.int .i64 (IntKind.i64.wrap (x311 + 1))) w323 (by as_aux_lemma => kernel_rfl) (by as_aux_lemma => kernel_rfl) ?_
                        refine gx_val (.int .i64 (IntKind.i64.wrap (x311 + 1))) w323 (by as_aux_lemma => kernel_rfl) (by as_aux_lemma => kernel_rfl) ?_
                        refine gx_nil ?_
                        refine gx_thenN ?_
                        exact ⟨k312, Nat.lt_succ_self k312, (IntKind.i64.wrap (x311 + 1)), selfA_i (by as_aux_lemma => kernel_rfl), hL313, hS324⟩
                  · refine gx_val (.bool false) w308 (by as_aux_lemma => kernel_rfl) (run_boolE (decide_eq_false h318) (by as_aux_lemma => kernel_rfl)) ?_
                    refine gx_nil ?_
                    refine gx_thenN ?_
                    refine hK317 _ _ ?_
                    refine gx_no (by as_aux_lemma => kernel_rfl) ?_
                    refine gx_exit ?_
                    refine gx_thenE ?_
                    refine gx_thenE ?_
                    refine gx_blkE ?_
                    refine gx_thenN ?_
                    exact ⟨selfA_i (by as_aux_lemma => kernel_rfl), (Option.some.inj hL313), hS309⟩
            · rintro _ w300 ⟨hq391, rfl, hS301⟩
              obtain ⟨u302, rfl⟩ := selfA_u hq391
              try dsimp only at hO305
              obtain ⟨c343, hE344, hO345⟩ := bind_in hO305
              refine gx_cut (fun a w => selfA (fun u342 => ⟨((u302 0) :: dd u211 1 2 ((u342 3) :: (.bool p4) :: (.int .u8 p5) :: un 6 ((u342 12) :: (.int .u8 x80) :: dd u342 14 4 ((.int .u8 x187) :: (.int .i64 x188) :: dd u342 20 2 ((.int .u8 x202) :: (.int .i64 x203) :: dd u270 24 3 ((.int .u8 x261) :: (.int .i64 x262) :: (.int .i64 ((p0.length : Nat) : Int)) :: (u302 30) :: dd u342 31 3 (dd u5 34 29 ((u79 63) :: (.slice none 0 0) :: dd u211 65 3 ((.int .u8 x80) :: dd u211 69 2 ((.slice none 0 0) :: dd u211 72 22 ((.int .u8 p5) :: dd u211 95 3 ((.int .u8 x187) :: (.int .i64 x188) :: dd u211 100 2 ((.int .u8 p5) :: dd u211 103 3 ((.int .u8 x202) :: (.int .i64 x203) :: dd u211 108 11 ((.bool false) :: un 6 ((.slice none 0 0) :: dd u270 127 3 ((.int .u8 x80) :: dd u270 131 4 ((.int .u8 x187) :: dd u270 136 3 ((.int .u8 x261) :: (.int .i64 x262) :: (u270 141) :: (.int .i64 ((p0.length : Nat) : Int)) :: dd u270 143 18 (dd u302 161 26 (dd u342 187 36 (undef :: [])))))))))))))))))))))).toArray, []⟩) a ∧ Ctl.go () = c343 ∧ St [] w0 w []) ?_ ?_
              · refine gx_seq (fun K346 hK347 => ?_)
                refine gx_region ?_
                refine gx_val (.int .i64 0) w300 (by as_aux_lemma => kernel_rfl) (by as_aux_lemma => kernel_rfl) ?_
                refine gx_nil ?_
                refine gx_thenN ?_
                refine hK347 _ _ ?_
                refine gx_block ?_
                refine gx_loop (fun k a w => ∃ (x351 : Int), selfA (fun u350 => ⟨((u302 0) :: dd u211 1 2 ((.slice A3 p3.length c3) :: (.bool p4) :: (.int .u8 p5) :: un 6 ((u350 12) :: (.int .u8 x80) :: (.slice A164 l161.length c165) :: (.slice A173 l170.length c174) :: (.slice A182 l181.length c183) :: (.slice A185 l184.length c186) :: (.int .u8 x187) :: (.int .i64 x188) :: (.slice A197 l196.length c198) :: (.slice A200 l199.length c201) :: (.int .u8 x202) :: (.int .i64 x203) :: dd u270 24 3 ((.int .u8 x261) :: (.int .i64 x262) :: (.int .i64 ((p0.length : Nat) : Int)) :: (u302 30) :: (.int .i64 x351) :: dd u350 32 2 (dd u5 34 29 ((u79 63) :: (.slice none 0 0) :: dd u211 65 3 ((.int .u8 x80) :: dd u211 69 2 ((.slice none 0 0) :: dd u211 72 22 ((.int .u8 p5) :: dd u211 95 3 ((.int .u8 x187) :: (.int .i64 x188) :: dd u211 100 2 ((.int .u8 p5) :: dd u211 103 3 ((.int .u8 x202) :: (.int .i64 x203) :: dd u211 108 11 ((.bool false) :: un 6 ((.slice none 0 0) :: dd u270 127 3 ((.int .u8 x80) :: dd u270 131 4 ((.int .u8 x187) :: dd u270 136 3 ((.int .u8 x261) :: (.int .i64 x262) :: (u270 141) :: (.int .i64 ((p0.length : Nat) : Int)) :: dd u270 143 18 (dd u302 161 26 (dd u350 187 36 (undef :: [])))))))))))))))))))).toArray, []⟩) a ∧ fIsolates_L2 N p3 l161 l170 l181 l184 l196 l199 k x351 = some c343 ∧ St [] w0 w [rowE .u8 26 A164 c165 l161, rowE .u8 26 A173 c174 l170, rowE .u8 5 A182 c183 l181, rowE .u8 26 A185 c186 l184, rowE .u8 5 A197 c198 l196, rowE .u8 26 A200 c201 l199]) N ?_ ?_
                · exact ⟨0, selfA_i (by as_aux_lemma => kernel_rfl), hE344, hS301⟩
                · rintro k352 _ w348 ⟨x351, hq381, hL353, hS349⟩
                  obtain ⟨u350, rfl⟩ := selfA_u hq381
                  cases k352 with
                  | zero => cases hL353
                  | succ k352 =>
                    rw [fIsolates_L2] at hL353
                    refine gx_seq (fun K354 hK355 => ?_)
                    refine gx_seq (fun K356 hK357 => ?_)
                    refine gx_region ?_
                    refine gx_val (.int .i64 x351) w348 (by as_aux_lemma => kernel_rfl) (by as_aux_lemma => kernel_rfl) ?_
                    refine gx_val (.slice A3 p3.length c3) w348 (by as_aux_lemma => kernel_rfl) (by as_aux_lemma => kernel_rfl) ?_
                    refine gx_val (.int .i64 ((p3.length : Nat) : Int)) w348 (by as_aux_lemma => kernel_rfl) (by as_aux_lemma => kernel_rfl) ?_
                    rcases if_in hL353 with ⟨h358, hL353⟩ | ⟨h358, hL353⟩
                    · refine gx_val (.bool true) w348 (by as_aux_lemma => kernel_rfl) (run_boolE (decide_eq_true h358) (by as_aux_lemma => kernel_rfl)) ?_
                      refine gx_nil ?_
                      refine gx_thenN ?_
                      refine hK357 _ _ ?_
                      refine gx_yes (by as_aux_lemma => kernel_rfl) ?_
                      refine gx_pass ?_
                      refine gx_thenN ?_
                      refine hK355 _ _ ?_
                      refine gx_seq (fun K359 hK360 => ?_)
                      refine gx_block ?_
                      refine gx_seq (fun K361 hK362 => ?_)
                      refine gx_region ?_
                      refine gx_val (.slice A164 l161.length c165) w348 (by as_aux_lemma => kernel_rfl) (by as_aux_lemma => kernel_rfl) ?_
                      refine gx_val (.int .i64 ((l161.length : Nat) : Int)) w348 (by as_aux_lemma => kernel_rfl) (by as_aux_lemma => kernel_rfl) ?_
                      refine gx_val (.int .i64 (IntKind.i64.wrap (((l161.length : Nat) : Int) - 1))) w348 (by as_aux_lemma => kernel_rfl) (by as_aux_lemma => kernel_rfl) ?_
                      refine gx_val (.int .i64 x351) w348 (by as_aux_lemma => kernel_rfl) (by as_aux_lemma => kernel_rfl) ?_
                      refine gx_val (.int .i64 (IntKind.i64.wrap ((IntKind.i64.wrap (((l161.length : Nat) : Int) - 1)) - x351))) w348 (by as_aux_lemma => kernel_rfl) (by as_aux_lemma => kernel_rfl) ?_
                      refine gx_val (.slice A173 l170.length c174) w348 (by as_aux_lemma => kernel_rfl) (by as_aux_lemma => kernel_rfl) ?_
                      refine gx_val (.int .i64 ((l170.length : Nat) : Int)) w348 (by as_aux_lemma => kernel_rfl) (by as_aux_lemma => kernel_rfl) ?_
                      refine gx_val (.int .i64 (IntKind.i64.wrap (((l170.length : Nat) : Int) - 1))) w348 (by as_aux_lemma => kernel_rfl) (by as_aux_lemma => kernel_rfl) ?_
                      refine gx_val (.int .i64 x351) w348 (by as_aux_lemma => kernel_rfl) (by as_aux_lemma => kernel_rfl) ?_
                      refine gx_val (.int .i64 (IntKind.i64.wrap ((IntKind.i64.wrap (((l170.length : Nat) : Int) - 1)) - x351))) w348 (by as_aux_lemma => kernel_rfl) (by as_aux_lemma => kernel_rfl) ?_
                      refine gx_val (.int .i64 (IntKind.i64.wrap ((IntKind.i64.wrap (((l161.length : Nat) : Int) - 1)) - x351))) w348 (by as_aux_lemma => kernel_rfl) (by as_aux_lemma => kernel_rfl) ?_
                      refine gx_val (.int .i64 (IntKind.i64.wrap ((IntKind.i64.wrap (((l170.length : Nat) : Int) - 1)) - x351))) w348 (by as_aux_lemma => kernel_rfl) (by as_aux_lemma => kernel_rfl) ?_
                      refine gx_nil ?_
                      refine gx_thenN ?_
                      refine hK362 _ _ ?_
                      refine gx_seq (fun K363 hK364 => ?_)
                      refine gd_start (fun w => St [] w0 w [rowE .u8 26 A164 c165 l161, rowE .u8 26 A173 c174 l170, rowE .u8 5 A182 c183 l181, rowE .u8 26 A185 c186 l184, rowE .u8 5 A197 c198 l196, rowE .u8 26 A200 c201 l199]) 20 #[false, false, false, false, false, false, false, false, false, false, false, false, false, false, false, false, false, false, false, false] (by as_aux_lemma => kernel_rfl) (by as_aux_lemma => kernel_rfl) ?_
                      have hS366 := hS349.drew
                      generalize w348.drew = w365 at hS366 ⊢
                      refine gd1 0 { dst := some 203, op := _, type := _, pos := _, after := _, guard := _ } (.slice A182 l181.length c183) rfl hS366 (fun w hSw => by kernel_rfl) ?_
                      refine gd1 1 { dst := some 204, op := _, type := _, pos := _, after := _, guard := _ } (.int .i64 (IntKind.i64.wrap ((IntKind.i64.wrap (((l161.length : Nat) : Int) - 1)) - x351))) rfl hS366 (fun w hSw => by kernel_rfl) ?_
                      obtain ⟨x367, hx368, hL353⟩ := bind_in hL353
                      refine gd1 2 { dst := some 205, op := _, type := _, pos := _, after := _, guard := _ } (.pointer (Option.map (fun (p : Addr) => p.add (Int.toNat (IntKind.i64.wrap ((IntKind.i64.wrap (((l161.length : Nat) : Int) - 1)) - x351)) * 1)) A182)) rfl hS366 (fun w hSw => run_ixaddr (E := 5) (s := 1) (k := .i64) (c := c183) rfl (by as_aux_lemma => kernel_rfl) (by as_aux_lemma => kernel_rfl) (by as_aux_lemma => kernel_rfl) (fun _ => by kernel_rfl) (ix_in hx368).1 (ix_in hx368).2.1 (num_nil (hS366.row 2 rfl).1)) ?_
                      refine gd1 3 { dst := some 206, op := _, type := _, pos := _, after := _, guard := _ } (.int .u8 x367) rfl hS366 (fun w hSw => run_loadix rfl (by as_aux_lemma => kernel_rfl) (fun _ => by kernel_rfl) (hSw.row 2 rfl).1 hx368) ?_
                      refine gd1 4 { dst := some 207, op := _, type := _, pos := _, after := _, guard := _ } (.slice A197 l196.length c198) rfl hS366 (fun w hSw => by kernel_rfl) ?_
                      refine gd1 5 { dst := some 208, op := _, type := _, pos := _, after := _, guard := _ } (.int .i64 (IntKind.i64.wrap ((IntKind.i64.wrap (((l170.length : Nat) : Int) - 1)) - x351))) rfl hS366 (fun w hSw => by kernel_rfl) ?_
                      obtain ⟨x369, hx370, hL353⟩ := bind_in hL353
                      refine gd1 6 { dst := some 209, op := _, type := _, pos := _, after := _, guard := _ } (.pointer (Option.map (fun (p : Addr) => p.add (Int.toNat (IntKind.i64.wrap ((IntKind.i64.wrap (((l170.length : Nat) : Int) - 1)) - x351)) * 1)) A197)) rfl hS366 (fun w hSw => run_ixaddr (E := 5) (s := 1) (k := .i64) (c := c198) rfl (by as_aux_lemma => kernel_rfl) (by as_aux_lemma => kernel_rfl) (by as_aux_lemma => kernel_rfl) (fun _ => by kernel_rfl) (ix_in hx370).1 (ix_in hx370).2.1 (num_nil (hS366.row 4 rfl).1)) ?_
                      refine gd1 7 { dst := some 210, op := _, type := _, pos := _, after := _, guard := _ } (.int .u8 x369) rfl hS366 (fun w hSw => run_loadix rfl (by as_aux_lemma => kernel_rfl) (fun _ => by kernel_rfl) (hSw.row 4 rfl).1 hx370) ?_
                      rcases if_in hL353 with ⟨h371, hL353⟩ | ⟨h371, hL353⟩
                      · refine gd1 8 { dst := some 211, op := _, type := _, pos := _, after := _, guard := _ } (.bool true) rfl hS366 (fun w hSw => run_boolE (ne_yes h371) (by as_aux_lemma => kernel_rfl)) ?_
                        refine gd1 9 { dst := some 212, op := _, type := _, pos := _, after := _, guard := _ } (.bool true) rfl hS366 (fun w hSw => by kernel_rfl) ?_
                        refine gd0 10 { dst := some 213, op := _, type := _, pos := _, after := _, guard := _ } rfl hS366 ?_
                        refine gd0 11 { dst := some 214, op := _, type := _, pos := _, after := _, guard := _ } rfl hS366 ?_
                        refine gd0 12 { dst := some 215, op := _, type := _, pos := _, after := _, guard := _ } rfl hS366 ?_
                        refine gd0 13 { dst := some 216, op := _, type := _, pos := _, after := _, guard := _ } rfl hS366 ?_
                        refine gd0 14 { dst := some 217, op := _, type := _, pos := _, after := _, guard := _ } rfl hS366 ?_
                        refine gd0 15 { dst := some 218, op := _, type := _, pos := _, after := _, guard := _ } rfl hS366 ?_
                        refine gd0 16 { dst := some 219, op := _, type := _, pos := _, after := _, guard := _ } rfl hS366 ?_
                        refine gd0 17 { dst := some 220, op := _, type := _, pos := _, after := _, guard := _ } rfl hS366 ?_
                        refine gd0 18 { dst := some 221, op := _, type := _, pos := _, after := _, guard := _ } rfl hS366 ?_
                        refine gd1 19 { dst := some 222, op := _, type := _, pos := _, after := _, guard := _ } (.bool true) rfl hS366 (fun w hSw => by kernel_rfl) ?_
                        refine gd_done (by as_aux_lemma => kernel_rfl) ?_
                        refine gx_thenN ?_
                        refine hK364 _ _ ?_
                        refine gx_yes (by as_aux_lemma => kernel_rfl) ?_
                        refine gx_seq (fun K372 hK373 => ?_)
                        refine gx_region ?_
                        refine gx_val (.bool false) w365 (by as_aux_lemma => kernel_rfl) (by as_aux_lemma => kernel_rfl) ?_
                        refine gx_nil ?_
                        refine gx_thenN ?_
                        refine hK373 _ _ ?_
                        refine gx_ret ?_
                        refine gx_blkR ?_
                        refine gx_thenR ?_
                        refine gx_thenR ?_
                        refine gx_blkR ?_
                        refine gx_thenR ?_
                        obtain rfl := Option.some.inj hL353
                        try dsimp only at hO345
                        obtain rfl := Option.some.inj hO345
                        exact gx_fin (.bool false) (by as_aux_lemma => kernel_rfl) (by as_aux_lemma => kernel_rfl) ⟨_, rfl, rfl, (hS366.pick [] rfl rfl)⟩
                      · refine gd1 8 { dst := some 211, op := _, type := _, pos := _, after := _, guard := _ } (.bool false) rfl hS366 (fun w hSw => run_boolE (ne_no h371) (by as_aux_lemma => kernel_rfl)) ?_
                        refine gd1 9 { dst := some 212, op := _, type := _, pos := _, after := _, guard := _ } (.bool false) rfl hS366 (fun w hSw => by kernel_rfl) ?_
                        refine gd1 10 { dst := some 213, op := _, type := _, pos := _, after := _, guard := _ } (.slice A185 l184.length c186) rfl hS366 (fun w hSw => by kernel_rfl) ?_
                        refine gd1 11 { dst := some 214, op := _, type := _, pos := _, after := _, guard := _ } (.int .i64 (IntKind.i64.wrap ((IntKind.i64.wrap (((l161.length : Nat) : Int) - 1)) - x351))) rfl hS366 (fun w hSw => by kernel_rfl) ?_
                        obtain ⟨x374, hx375, hL353⟩ := bind_in hL353
                        refine gd1 12 { dst := some 215, op := _, type := _, pos := _, after := _, guard := _ } (.pointer (Option.map (fun (p : Addr) => p.add (Int.toNat (IntKind.i64.wrap ((IntKind.i64.wrap (((l161.length : Nat) : Int) - 1)) - x351)) * 1)) A185)) rfl hS366 (fun w hSw => run_ixaddr (E := 26) (s := 1) (k := .i64) (c := c186) rfl (by as_aux_lemma => kernel_rfl) (by as_aux_lemma => kernel_rfl) (by as_aux_lemma => kernel_rfl) (fun _ => by kernel_rfl) (ix_in hx375).1 (ix_in hx375).2.1 (num_nil (hS366.row 3 rfl).1)) ?_
                        refine gd1 13 { dst := some 216, op := _, type := _, pos := _, after := _, guard := _ } (.int .u8 x374) rfl hS366 (fun w hSw => run_loadix rfl (by as_aux_lemma => kernel_rfl) (fun _ => by kernel_rfl) (hSw.row 3 rfl).1 hx375) ?_
                        refine gd1 14 { dst := some 217, op := _, type := _, pos := _, after := _, guard := _ } (.slice A200 l199.length c201) rfl hS366 (fun w hSw => by kernel_rfl) ?_
                        refine gd1 15 { dst := some 218, op := _, type := _, pos := _, after := _, guard := _ } (.int .i64 (IntKind.i64.wrap ((IntKind.i64.wrap (((l170.length : Nat) : Int) - 1)) - x351))) rfl hS366 (fun w hSw => by kernel_rfl) ?_
                        obtain ⟨x376, hx377, hL353⟩ := bind_in hL353
                        refine gd1 16 { dst := some 219, op := _, type := _, pos := _, after := _, guard := _ } (.pointer (Option.map (fun (p : Addr) => p.add (Int.toNat (IntKind.i64.wrap ((IntKind.i64.wrap (((l170.length : Nat) : Int) - 1)) - x351)) * 1)) A200)) rfl hS366 (fun w hSw => run_ixaddr (E := 26) (s := 1) (k := .i64) (c := c201) rfl (by as_aux_lemma => kernel_rfl) (by as_aux_lemma => kernel_rfl) (by as_aux_lemma => kernel_rfl) (fun _ => by kernel_rfl) (ix_in hx377).1 (ix_in hx377).2.1 (num_nil (hS366.row 5 rfl).1)) ?_
                        refine gd1 17 { dst := some 220, op := _, type := _, pos := _, after := _, guard := _ } (.int .u8 x376) rfl hS366 (fun w hSw => run_loadix rfl (by as_aux_lemma => kernel_rfl) (fun _ => by kernel_rfl) (hSw.row 5 rfl).1 hx377) ?_
                        rcases if_in hL353 with ⟨h378, hL353⟩ | ⟨h378, hL353⟩
                        · refine gd1 18 { dst := some 221, op := _, type := _, pos := _, after := _, guard := _ } (.bool true) rfl hS366 (fun w hSw => run_boolE (ne_yes h378) (by as_aux_lemma => kernel_rfl)) ?_
                          refine gd1 19 { dst := some 222, op := _, type := _, pos := _, after := _, guard := _ } (.bool true) rfl hS366 (fun w hSw => by kernel_rfl) ?_
                          refine gd_done (by as_aux_lemma => kernel_rfl) ?_
                          refine gx_thenN ?_
                          refine hK364 _ _ ?_
                          refine gx_yes (by as_aux_lemma => kernel_rfl) ?_
                          refine gx_seq (fun K379 hK380 => ?_)
                          refine gx_region ?_
                          refine gx_val (.bool false) w365 (by as_aux_lemma => kernel_rfl) (by as_aux_lemma => kernel_rfl) ?_
                          refine gx_nil ?_
                          refine gx_thenN ?_
                          refine hK380 _ _ ?_
                          refine gx_ret ?_
                          refine gx_blkR ?_
                          refine gx_thenR ?_
                          refine gx_thenR ?_
                          refine gx_blkR ?_
                          refine gx_thenR ?_
                          obtain rfl := Option.some.inj hL353
                          try dsimp only at hO345
                          obtain rfl := Option.some.inj hO345
                          exact gx_fin (.bool false) (by as_aux_lemma => kernel_rfl) (by as_aux_lemma => kernel_rfl) ⟨_, rfl, rfl, (hS366.pick [] rfl rfl)⟩
                        · refine gd1 18 { dst := some 221, op := _, type := _, pos := _, after := _, guard := _ } (.bool false) rfl hS366 (fun w hSw => run_boolE (ne_no h378) (by as_aux_lemma => kernel_rfl)) ?_
                          refine gd1 19 { dst := some 222, op := _, type := _, pos := _, after := _, guard := _ } (.bool false) rfl hS366 (fun w hSw => by kernel_rfl) ?_
                          refine gd_done (by as_aux_lemma => kernel_rfl) ?_
                          refine gx_thenN ?_
                          refine hK364 _ _ ?_
                          refine gx_no (by as_aux_lemma => kernel_rfl) ?_
                          refine gx_pass ?_
                          refine gx_blkN ?_
                          refine gx_thenN ?_
                          refine hK360 _ _ ?_
                          refine gx_region ?_
                          refine gx_val (.int .i64 x351) w365 (by as_aux_lemma => kernel_rfl) (by as_aux_lemma => kernel_rfl) ?_
                          refine gx_val (.int .i64 (IntKind.i64.wrap (x351 + 1))) w365 (by as_aux_lemma => kernel_rfl) (by as_aux_lemma => kernel_rfl) ?_
                          refine gx_val (.int .i64 (IntKind.i64.wrap (x351 + 1))) w365 (by as_aux_lemma => kernel_rfl) (by as_aux_lemma => kernel_rfl) ?_
                          refine gx_nil ?_
                          refine gx_thenN ?_
                          exact ⟨k352, Nat.lt_succ_self k352, (IntKind.i64.wrap (x351 + 1)), selfA_i (by as_aux_lemma => kernel_rfl), hL353, hS366⟩
                    · refine gx_val (.bool false) w348 (by as_aux_lemma => kernel_rfl) (run_boolE (decide_eq_false h358) (by as_aux_lemma => kernel_rfl)) ?_
                      refine gx_nil ?_
                      refine gx_thenN ?_
                      refine hK357 _ _ ?_
                      refine gx_no (by as_aux_lemma => kernel_rfl) ?_
                      refine gx_exit ?_
                      refine gx_thenE ?_
                      refine gx_thenE ?_
                      refine gx_blkE ?_
                      refine gx_thenN ?_
                      exact ⟨selfA_i (by as_aux_lemma => kernel_rfl), (Option.some.inj hL353), (hS349.pick [] rfl rfl)⟩
              · rintro _ w340 ⟨hq390, rfl, hS341⟩
                obtain ⟨u342, rfl⟩ := selfA_u hq390
                try dsimp only at hO345
                refine gx_seq (fun K382 hK383 => ?_)
                refine gx_region ?_
                have hP384 : St _ _ w340 ([] ++ []) := hS341
                obtain ⟨b386, hc385, hO345⟩ := bind_in hO345
                try dsimp only at hO345
                refine gx_call (kWorks_R b386 w340) (by as_aux_lemma => kernel_rfl) (by as_aux_lemma => kernel_rfl) (kWorks_ok N  _ hc385 w340 ) ?_
                rintro _ w387 ⟨rfl, hT389⟩
                have hS388 : St _ _ w387 [] := hS341.take _ hT389
                refine gx_val (.bool b386) w387 (by as_aux_lemma => kernel_rfl) (by as_aux_lemma => kernel_rfl) ?_
                refine gx_nil ?_
                refine gx_thenN ?_
                refine hK383 _ _ ?_
                refine gx_ret ?_
                obtain rfl := Option.some.inj hO345
                exact gx_fin (.bool b386) (by as_aux_lemma => kernel_rfl) (by as_aux_lemma => kernel_rfl) ⟨_, rfl, rfl, hS388⟩

end Go.Proofs.Ytapfdafmhiilkaa

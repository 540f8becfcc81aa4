/-
  A statement.
-/
import Derived.Test.YtfgienbhdpmekaaT6
namespace Go.Proofs.Ytfgienbhdpmekaa
open Go Go.RowKit

def fPuts_L1 (N : Nat) (l47 : List Int) : Nat → List Int → Int → Option (Unit)
  | 0, _, _ => none
  | k129+1, l126, x128 => (if x128 < ((l47.length : Nat) : Int) then ((ix l126 x128).bind fun x138 => ((ix l126 x128).bind fun _x140 => ((setx l126 x128 (ixor .u8 x138 255)).bind fun l144 => fPuts_L1 N l47 k129 l144 (IntKind.i64.wrap (x128 + 1))))) else some (()))
def fPuts (N : Nat) (p0 : List Int) (p1 : List Int) : Option (Bool) :=
  (((if ((p0.length : Nat) : Int) > 1000 then (if ((p0.length : Nat) : Int) ≤ 65535 then ((fWorks N ).bind fun b19 => some (Ctl.ret b19)) else (if ((p1.length : Nat) : Int) > 1000 then (if ((p1.length : Nat) : Int) ≤ 65535 then ((fWorks N ).bind fun b29 => some (Ctl.ret b29)) else some (Ctl.go ())) else some (Ctl.go ()))) else (if ((p1.length : Nat) : Int) > 1000 then (if ((p1.length : Nat) : Int) ≤ 65535 then ((fWorks N ).bind fun b39 => some (Ctl.ret b39)) else some (Ctl.go ())) else some (Ctl.go ()))) : Option (Ctl (Unit) (Bool))).bind fun | Ctl.go () => ((cPutCov N p0).bind fun (l47, x50) => ((rPutCov N p0).bind fun (l58, x61) => ((cPutCls N p1).bind fun (l69, x72) => ((rPutCls N p1).bind fun (l80, x83) => (((if x50 ≠ x61 then some (Ctl.ret false) else ((kBytes N l47 l58).bind fun b100 => (match b100 with | true => (if x72 ≠ x83 then some (Ctl.ret false) else ((kBytes N l69 l80).bind fun b109 => (match b109 with | true => some (Ctl.go ()) | false => some (Ctl.ret false)))) | false => some (Ctl.ret false)))) : Option (Ctl (Unit) (Bool))).bind fun | Ctl.go () => ((fPuts_L1 N l47 N l47 0 : Option (Unit)).bind fun () => ((cPutCov N p0).bind fun (l152, _x155) => ((kBytes N l152 l58).bind fun b165 => (match b165 with | true => (((if x50 = 0 then ((bOpen N l152).bind fun (l182, b183) => ((cCov N l182 b183 (0 : Int) (65536 : Int)).bind fun (l193, x196, _b197) => (if x196 ≠ 0 then some (Ctl.ret false) else ((kWords N l193 p0).bind fun b208 => (match b208 with | true => some (Ctl.go ()) | false => some (Ctl.ret false)))))) else some (Ctl.go ())) : Option (Ctl (Unit) (Bool))).bind fun | Ctl.go () => (if x72 = 0 then ((bOpen N l69).bind fun (l223, b224) => ((cCls N l223 b224 (0 : Int) ((p1.length : Nat) : Int)).bind fun (l234, x237, _b238) => (if x237 ≠ 0 then some false else ((kBytes N l234 p1).bind fun b249 => (match b249 with | true => ((fWorks N ).bind fun b257 => some b257) | false => some false))))) else ((fWorks N ).bind fun b267 => some b267)) | Ctl.ret r => some r) | false => some false)))) | Ctl.ret r => some r))))) | Ctl.ret r => some r)

def fPuts_R (r : Bool) (w0 : World) (v : Value) (w : World) : Prop := v = .bool r ∧ St [] w0 w []

set_option maxRecDepth 100000 in
set_option maxHeartbeats 4000000 in
theorem fPuts_ok (N : Nat) (p0 : List Int) (p1 : List Int) (A0 : Option Addr) (c0 : Nat) (A1 : Option Addr) (c1 : Nat) (r : Bool) (hF : fPuts N p0 p1 = some r) (w0 : World) (hv0 : Vw [] .u16 w0 A0 c0 p0) (hv1 : Vw [] .u8 w0 A1 c1 p1) :
    Calls Try.prog 4 #[.slice A0 p0.length c0, .slice A1 p1.length c1] w0 fun e w => ∃ v, e = .returned v ∧ fPuts_R r w0 v w := by
  have hS0 := St.start w0
  unfold fPuts at hF
  refine calls_of Try.func4 rfl ⟨((.slice A0 p0.length c0) :: (.slice A1 p1.length c1) :: undef :: undef :: undef :: undef :: undef :: undef :: undef :: undef :: undef :: undef :: undef :: undef :: undef :: undef :: undef :: undef :: undef :: undef :: undef :: undef :: undef :: undef :: undef :: undef :: undef :: undef :: undef :: undef :: undef :: undef :: undef :: undef :: undef :: undef :: undef :: undef :: undef :: undef :: undef :: undef :: undef :: undef :: undef :: undef :: undef :: undef :: undef :: undef :: undef :: undef :: undef :: undef :: undef :: undef :: undef :: undef :: undef :: undef :: undef :: undef :: undef :: undef :: undef :: undef :: undef :: undef :: undef :: undef :: undef :: undef :: undef :: undef :: undef :: undef :: undef :: undef :: undef :: undef :: undef :: undef :: undef :: undef :: undef :: undef :: undef :: undef :: undef :: undef :: undef :: undef :: undef :: undef :: undef :: undef :: undef :: undef :: undef :: undef :: undef :: undef :: undef :: undef :: undef :: undef :: undef :: undef :: undef :: undef :: undef :: undef :: undef :: undef :: undef :: undef :: undef :: undef :: undef :: undef :: undef :: undef :: undef :: undef :: undef :: undef :: undef :: undef :: undef :: undef :: undef :: undef :: undef :: undef :: undef :: []).toArray, []⟩ (by kernel_rfl) ?_
  refine gx_seq (fun K1 hK2 => ?_)
  refine gx_region ?_
  refine gx_val (.bool false) w0 (by kernel_rfl) (by kernel_rfl) ?_
  refine gx_nil ?_
  refine gx_thenN ?_
  refine hK2 _ _ ?_
  obtain ⟨c6, hE7, hO8⟩ := bind_in hF
  refine gx_cut (fun a w => ∃ (u5 : Nat → Value), a = ⟨((.slice A0 p0.length c0) :: (.slice A1 p1.length c1) :: undef :: undef :: (u5 0) :: undef :: undef :: undef :: undef :: undef :: undef :: undef :: undef :: undef :: undef :: undef :: undef :: undef :: (u5 1) :: (u5 2) :: (u5 3) :: (u5 4) :: (u5 5) :: (u5 6) :: (u5 7) :: (u5 8) :: (u5 9) :: (u5 10) :: (u5 11) :: (u5 12) :: (u5 13) :: (u5 14) :: (u5 15) :: (u5 16) :: (u5 17) :: (u5 18) :: (u5 19) :: undef :: undef :: undef :: undef :: undef :: undef :: undef :: undef :: undef :: undef :: undef :: undef :: undef :: undef :: undef :: undef :: undef :: undef :: undef :: undef :: undef :: undef :: undef :: undef :: undef :: undef :: undef :: undef :: undef :: undef :: undef :: undef :: undef :: undef :: undef :: undef :: undef :: undef :: undef :: undef :: undef :: undef :: undef :: undef :: undef :: undef :: undef :: undef :: undef :: undef :: undef :: undef :: undef :: undef :: undef :: undef :: undef :: undef :: undef :: undef :: undef :: undef :: undef :: undef :: undef :: undef :: undef :: undef :: undef :: undef :: undef :: undef :: undef :: undef :: undef :: undef :: undef :: undef :: undef :: undef :: undef :: undef :: undef :: undef :: undef :: undef :: undef :: undef :: undef :: undef :: undef :: undef :: undef :: undef :: undef :: undef :: undef :: undef :: []).toArray, []⟩ ∧ Ctl.go () = c6 ∧ St [] w0 w []) ?_ ?_
  · refine gx_seq (fun K9 hK10 => ?_)
    refine gx_region ?_
    refine gx_val (.slice A0 p0.length c0) w0 (by kernel_rfl) (by kernel_rfl) ?_
    refine gx_val (.int .i64 ((p0.length : Nat) : Int)) w0 (by kernel_rfl) (by kernel_rfl) ?_
    rcases if_in hE7 with ⟨h11, hE7⟩ | ⟨h11, hE7⟩
    · refine gx_val (.bool true) w0 (by kernel_rfl) (run_boolE (decide_eq_true h11) (by kernel_rfl)) ?_
      refine gx_val (.bool true) w0 (by kernel_rfl) (by kernel_rfl) ?_
      refine gx_val (.slice A0 p0.length c0) w0 (by kernel_rfl) (by kernel_rfl) ?_
      refine gx_val (.int .i64 ((p0.length : Nat) : Int)) w0 (by kernel_rfl) (by kernel_rfl) ?_
      rcases if_in hE7 with ⟨h12, hE7⟩ | ⟨h12, hE7⟩
      · refine gx_val (.bool true) w0 (by kernel_rfl) (run_boolE (decide_eq_true h12) (by kernel_rfl)) ?_
        refine gx_val (.bool true) w0 (by kernel_rfl) (by kernel_rfl) ?_
        refine gx_val (.bool true) w0 (by kernel_rfl) (by kernel_rfl) ?_
        refine gx_off (by kernel_rfl) ?_
        refine gx_off (by kernel_rfl) ?_
        refine gx_off (by kernel_rfl) ?_
        refine gx_off (by kernel_rfl) ?_
        refine gx_off (by kernel_rfl) ?_
        refine gx_off (by kernel_rfl) ?_
        refine gx_off (by kernel_rfl) ?_
        refine gx_off (by kernel_rfl) ?_
        refine gx_val (.bool true) w0 (by kernel_rfl) (by kernel_rfl) ?_
        refine gx_nil ?_
        refine gx_thenN ?_
        refine hK10 _ _ ?_
        refine gx_yes (by kernel_rfl) ?_
        refine gx_seq (fun K13 hK14 => ?_)
        refine gx_region ?_
        obtain ⟨b19, hc16, hE7⟩ := bind_in hE7
        try dsimp only at hE7
        refine gx_call (fWorks_R  b19 w0) (by kernel_rfl) (by kernel_rfl) (fWorks_ok N  _ hc16 w0 ) ?_
        rintro _ w17 ⟨rfl, hT20⟩
        have hS18 : St _ _ w17 [] := hS0.take _ hT20
        refine gx_val (.bool b19) w17 (by kernel_rfl) (by kernel_rfl) ?_
        refine gx_nil ?_
        refine gx_thenN ?_
        refine hK14 _ _ ?_
        refine gx_ret ?_
        refine gx_thenR ?_
        obtain rfl := Option.some.inj hE7
        try dsimp only at hO8
        obtain rfl := Option.some.inj hO8
        exact gx_fin (.bool b19) (by kernel_rfl) (by kernel_rfl) ⟨_, rfl, rfl, hS18⟩
      · refine gx_val (.bool false) w0 (by kernel_rfl) (run_boolE (decide_eq_false h12) (by kernel_rfl)) ?_
        refine gx_val (.bool false) w0 (by kernel_rfl) (by kernel_rfl) ?_
        refine gx_val (.bool false) w0 (by kernel_rfl) (by kernel_rfl) ?_
        refine gx_val (.slice A1 p1.length c1) w0 (by kernel_rfl) (by kernel_rfl) ?_
        refine gx_val (.int .i64 ((p1.length : Nat) : Int)) w0 (by kernel_rfl) (by kernel_rfl) ?_
        rcases if_in hE7 with ⟨h21, hE7⟩ | ⟨h21, hE7⟩
        · refine gx_val (.bool true) w0 (by kernel_rfl) (run_boolE (decide_eq_true h21) (by kernel_rfl)) ?_
          refine gx_val (.bool true) w0 (by kernel_rfl) (by kernel_rfl) ?_
          refine gx_val (.slice A1 p1.length c1) w0 (by kernel_rfl) (by kernel_rfl) ?_
          refine gx_val (.int .i64 ((p1.length : Nat) : Int)) w0 (by kernel_rfl) (by kernel_rfl) ?_
          rcases if_in hE7 with ⟨h22, hE7⟩ | ⟨h22, hE7⟩
          · refine gx_val (.bool true) w0 (by kernel_rfl) (run_boolE (decide_eq_true h22) (by kernel_rfl)) ?_
            refine gx_val (.bool true) w0 (by kernel_rfl) (by kernel_rfl) ?_
            refine gx_val (.bool true) w0 (by kernel_rfl) (by kernel_rfl) ?_
            refine gx_nil ?_
            refine gx_thenN ?_
            refine hK10 _ _ ?_
            refine gx_yes (by kernel_rfl) ?_
            refine gx_seq (fun K23 hK24 => ?_)
            refine gx_region ?_
            obtain ⟨b29, hc26, hE7⟩ := bind_in hE7
            try dsimp only at hE7
            refine gx_call (fWorks_R  b29 w0) (by kernel_rfl) (by kernel_rfl) (fWorks_ok N  _ hc26 w0 ) ?_
            rintro _ w27 ⟨rfl, hT30⟩
            have hS28 : St _ _ w27 [] := hS0.take _ hT30
            refine gx_val (.bool b29) w27 (by kernel_rfl) (by kernel_rfl) ?_
            refine gx_nil ?_
            refine gx_thenN ?_
            refine hK24 _ _ ?_
            refine gx_ret ?_
            refine gx_thenR ?_
            obtain rfl := Option.some.inj hE7
            try dsimp only at hO8
            obtain rfl := Option.some.inj hO8
            exact gx_fin (.bool b29) (by kernel_rfl) (by kernel_rfl) ⟨_, rfl, rfl, hS28⟩
          · refine gx_val (.bool false) w0 (by kernel_rfl) (run_boolE (decide_eq_false h22) (by kernel_rfl)) ?_
            refine gx_val (.bool false) w0 (by kernel_rfl) (by kernel_rfl) ?_
            refine gx_val (.bool false) w0 (by kernel_rfl) (by kernel_rfl) ?_
            refine gx_nil ?_
            refine gx_thenN ?_
            refine hK10 _ _ ?_
            refine gx_no (by kernel_rfl) ?_
            refine gx_pass ?_
            refine gx_thenN ?_
            exact ⟨(fun i => List.getD ((.bool false) :: (.slice A0 p0.length c0) :: (.int .i64 ((p0.length : Nat) : Int)) :: (.bool true) :: (.bool true) :: (.slice A0 p0.length c0) :: (.int .i64 ((p0.length : Nat) : Int)) :: (.bool false) :: (.bool false) :: (.bool false) :: (.slice A1 p1.length c1) :: (.int .i64 ((p1.length : Nat) : Int)) :: (.bool true) :: (.bool true) :: (.slice A1 p1.length c1) :: (.int .i64 ((p1.length : Nat) : Int)) :: (.bool false) :: (.bool false) :: (.bool false) :: undef :: []) i undef), by kernel_rfl, (Option.some.inj hE7), hS0⟩
        · refine gx_val (.bool false) w0 (by kernel_rfl) (run_boolE (decide_eq_false h21) (by kernel_rfl)) ?_
          refine gx_val (.bool false) w0 (by kernel_rfl) (by kernel_rfl) ?_
          refine gx_off (by kernel_rfl) ?_
          refine gx_off (by kernel_rfl) ?_
          refine gx_off (by kernel_rfl) ?_
          refine gx_val (.bool false) w0 (by kernel_rfl) (by kernel_rfl) ?_
          refine gx_val (.bool false) w0 (by kernel_rfl) (by kernel_rfl) ?_
          refine gx_nil ?_
          refine gx_thenN ?_
          refine hK10 _ _ ?_
          refine gx_no (by kernel_rfl) ?_
          refine gx_pass ?_
          refine gx_thenN ?_
          exact ⟨(fun i => List.getD ((.bool false) :: (.slice A0 p0.length c0) :: (.int .i64 ((p0.length : Nat) : Int)) :: (.bool true) :: (.bool true) :: (.slice A0 p0.length c0) :: (.int .i64 ((p0.length : Nat) : Int)) :: (.bool false) :: (.bool false) :: (.bool false) :: (.slice A1 p1.length c1) :: (.int .i64 ((p1.length : Nat) : Int)) :: (.bool false) :: (.bool false) :: undef :: undef :: undef :: (.bool false) :: (.bool false) :: undef :: []) i undef), by kernel_rfl, (Option.some.inj hE7), hS0⟩
    · refine gx_val (.bool false) w0 (by kernel_rfl) (run_boolE (decide_eq_false h11) (by kernel_rfl)) ?_
      refine gx_val (.bool false) w0 (by kernel_rfl) (by kernel_rfl) ?_
      refine gx_off (by kernel_rfl) ?_
      refine gx_off (by kernel_rfl) ?_
      refine gx_off (by kernel_rfl) ?_
      refine gx_val (.bool false) w0 (by kernel_rfl) (by kernel_rfl) ?_
      refine gx_val (.bool false) w0 (by kernel_rfl) (by kernel_rfl) ?_
      refine gx_val (.slice A1 p1.length c1) w0 (by kernel_rfl) (by kernel_rfl) ?_
      refine gx_val (.int .i64 ((p1.length : Nat) : Int)) w0 (by kernel_rfl) (by kernel_rfl) ?_
      rcases if_in hE7 with ⟨h31, hE7⟩ | ⟨h31, hE7⟩
      · refine gx_val (.bool true) w0 (by kernel_rfl) (run_boolE (decide_eq_true h31) (by kernel_rfl)) ?_
        refine gx_val (.bool true) w0 (by kernel_rfl) (by kernel_rfl) ?_
        refine gx_val (.slice A1 p1.length c1) w0 (by kernel_rfl) (by kernel_rfl) ?_
        refine gx_val (.int .i64 ((p1.length : Nat) : Int)) w0 (by kernel_rfl) (by kernel_rfl) ?_
        rcases if_in hE7 with ⟨h32, hE7⟩ | ⟨h32, hE7⟩
        · refine gx_val (.bool true) w0 (by kernel_rfl) (run_boolE (decide_eq_true h32) (by kernel_rfl)) ?_
          refine gx_val (.bool true) w0 (by kernel_rfl) (by kernel_rfl) ?_
          refine gx_val (.bool true) w0 (by kernel_rfl) (by kernel_rfl) ?_
          refine gx_nil ?_
          refine gx_thenN ?_
          refine hK10 _ _ ?_
          refine gx_yes (by kernel_rfl) ?_
          refine gx_seq (fun K33 hK34 => ?_)
          refine gx_region ?_
          obtain ⟨b39, hc36, hE7⟩ := bind_in hE7
          try dsimp only at hE7
          refine gx_call (fWorks_R  b39 w0) (by kernel_rfl) (by kernel_rfl) (fWorks_ok N  _ hc36 w0 ) ?_
          rintro _ w37 ⟨rfl, hT40⟩
          have hS38 : St _ _ w37 [] := hS0.take _ hT40
          refine gx_val (.bool b39) w37 (by kernel_rfl) (by kernel_rfl) ?_
          refine gx_nil ?_
          refine gx_thenN ?_
          refine hK34 _ _ ?_
          refine gx_ret ?_
          refine gx_thenR ?_
          obtain rfl := Option.some.inj hE7
          try dsimp only at hO8
          obtain rfl := Option.some.inj hO8
          exact gx_fin (.bool b39) (by kernel_rfl) (by kernel_rfl) ⟨_, rfl, rfl, hS38⟩
        · refine gx_val (.bool false) w0 (by kernel_rfl) (run_boolE (decide_eq_false h32) (by kernel_rfl)) ?_
          refine gx_val (.bool false) w0 (by kernel_rfl) (by kernel_rfl) ?_
          refine gx_val (.bool false) w0 (by kernel_rfl) (by kernel_rfl) ?_
          refine gx_nil ?_
          refine gx_thenN ?_
          refine hK10 _ _ ?_
          refine gx_no (by kernel_rfl) ?_
          refine gx_pass ?_
          refine gx_thenN ?_
          exact ⟨(fun i => List.getD ((.bool false) :: (.slice A0 p0.length c0) :: (.int .i64 ((p0.length : Nat) : Int)) :: (.bool false) :: (.bool false) :: undef :: undef :: undef :: (.bool false) :: (.bool false) :: (.slice A1 p1.length c1) :: (.int .i64 ((p1.length : Nat) : Int)) :: (.bool true) :: (.bool true) :: (.slice A1 p1.length c1) :: (.int .i64 ((p1.length : Nat) : Int)) :: (.bool false) :: (.bool false) :: (.bool false) :: undef :: []) i undef), by kernel_rfl, (Option.some.inj hE7), hS0⟩
      · refine gx_val (.bool false) w0 (by kernel_rfl) (run_boolE (decide_eq_false h31) (by kernel_rfl)) ?_
        refine gx_val (.bool false) w0 (by kernel_rfl) (by kernel_rfl) ?_
        refine gx_off (by kernel_rfl) ?_
        refine gx_off (by kernel_rfl) ?_
        refine gx_off (by kernel_rfl) ?_
        refine gx_val (.bool false) w0 (by kernel_rfl) (by kernel_rfl) ?_
        refine gx_val (.bool false) w0 (by kernel_rfl) (by kernel_rfl) ?_
        refine gx_nil ?_
        refine gx_thenN ?_
        refine hK10 _ _ ?_
        refine gx_no (by kernel_rfl) ?_
        refine gx_pass ?_
        refine gx_thenN ?_
        exact ⟨(fun i => List.getD ((.bool false) :: (.slice A0 p0.length c0) :: (.int .i64 ((p0.length : Nat) : Int)) :: (.bool false) :: (.bool false) :: undef :: undef :: undef :: (.bool false) :: (.bool false) :: (.slice A1 p1.length c1) :: (.int .i64 ((p1.length : Nat) : Int)) :: (.bool false) :: (.bool false) :: undef :: undef :: undef :: (.bool false) :: (.bool false) :: undef :: []) i undef), by kernel_rfl, (Option.some.inj hE7), hS0⟩
  · rintro _ w3 ⟨u5, rfl, rfl, hS4⟩
    try dsimp only at hO8
    refine gx_seq (fun K41 hK42 => ?_)
    refine gx_region ?_
    refine gx_val (.slice A0 p0.length c0) w3 (by kernel_rfl) (by kernel_rfl) ?_
    obtain ⟨⟨l47, x50⟩, hc44, hO8⟩ := bind_in hO8
    try dsimp only at hO8
    refine gx_call (cPutCov_R  (l47, x50) w3) (by kernel_rfl) (by kernel_rfl) (cPutCov_ok N p0 A0 c0 _ hc44 w3 (Vw.of (hS4.view hv0) hv0.nn)) ?_
    rintro _ w45 ⟨A48, c49, rfl, hT51⟩
    have hS46 : St _ _ w45 [rowE .u8 5 A48 c49 l47] := hS4.take _ hT51
    refine gx_val (.tuple #[.slice A48 l47.length c49, .int .i64 x50]) w45 (by kernel_rfl) (by kernel_rfl) ?_
    refine gx_val (.slice A48 l47.length c49) w45 (by kernel_rfl) (by kernel_rfl) ?_
    refine gx_val (.int .i64 x50) w45 (by kernel_rfl) (by kernel_rfl) ?_
    refine gx_val (.slice A48 l47.length c49) w45 (by kernel_rfl) (by kernel_rfl) ?_
    refine gx_val (.int .i64 x50) w45 (by kernel_rfl) (by kernel_rfl) ?_
    refine gx_nil ?_
    refine gx_thenN ?_
    refine hK42 _ _ ?_
    refine gx_seq (fun K52 hK53 => ?_)
    refine gx_region ?_
    refine gx_val (.slice A0 p0.length c0) w45 (by kernel_rfl) (by kernel_rfl) ?_
    obtain ⟨⟨l58, x61⟩, hc55, hO8⟩ := bind_in hO8
    try dsimp only at hO8
    refine gx_call (rPutCov_R  (l58, x61) w45) (by kernel_rfl) (by kernel_rfl) (rPutCov_ok N p0 A0 c0 _ hc55 w45 (Vw.of (hS46.view hv0) hv0.nn)) ?_
    rintro _ w56 ⟨A59, c60, rfl, hT62⟩
    have hS57 : St _ _ w56 [rowE .u8 5 A48 c49 l47, rowE .u8 5 A59 c60 l58] := hS46.take _ hT62
    refine gx_val (.tuple #[.slice A59 l58.length c60, .int .i64 x61]) w56 (by kernel_rfl) (by kernel_rfl) ?_
    refine gx_val (.slice A59 l58.length c60) w56 (by kernel_rfl) (by kernel_rfl) ?_
    refine gx_val (.int .i64 x61) w56 (by kernel_rfl) (by kernel_rfl) ?_
    refine gx_val (.slice A59 l58.length c60) w56 (by kernel_rfl) (by kernel_rfl) ?_
    refine gx_val (.int .i64 x61) w56 (by kernel_rfl) (by kernel_rfl) ?_
    refine gx_nil ?_
    refine gx_thenN ?_
    refine hK53 _ _ ?_
    refine gx_seq (fun K63 hK64 => ?_)
    refine gx_region ?_
    refine gx_val (.slice A1 p1.length c1) w56 (by kernel_rfl) (by kernel_rfl) ?_
    obtain ⟨⟨l69, x72⟩, hc66, hO8⟩ := bind_in hO8
    try dsimp only at hO8
    refine gx_call (cPutCls_R  (l69, x72) w56) (by kernel_rfl) (by kernel_rfl) (cPutCls_ok N p1 A1 c1 _ hc66 w56 (Vw.of (hS57.view hv1) hv1.nn)) ?_
    rintro _ w67 ⟨A70, c71, rfl, hT73⟩
    have hS68 : St _ _ w67 [rowE .u8 5 A48 c49 l47, rowE .u8 5 A59 c60 l58, rowE .u8 5 A70 c71 l69] := hS57.take _ hT73
    refine gx_val (.tuple #[.slice A70 l69.length c71, .int .i64 x72]) w67 (by kernel_rfl) (by kernel_rfl) ?_
    refine gx_val (.slice A70 l69.length c71) w67 (by kernel_rfl) (by kernel_rfl) ?_
    refine gx_val (.int .i64 x72) w67 (by kernel_rfl) (by kernel_rfl) ?_
    refine gx_val (.slice A70 l69.length c71) w67 (by kernel_rfl) (by kernel_rfl) ?_
    refine gx_val (.int .i64 x72) w67 (by kernel_rfl) (by kernel_rfl) ?_
    refine gx_nil ?_
    refine gx_thenN ?_
    refine hK64 _ _ ?_
    refine gx_seq (fun K74 hK75 => ?_)
    refine gx_region ?_
    refine gx_val (.slice A1 p1.length c1) w67 (by kernel_rfl) (by kernel_rfl) ?_
    obtain ⟨⟨l80, x83⟩, hc77, hO8⟩ := bind_in hO8
    try dsimp only at hO8
    refine gx_call (rPutCls_R  (l80, x83) w67) (by kernel_rfl) (by kernel_rfl) (rPutCls_ok N p1 A1 c1 _ hc77 w67 (Vw.of (hS68.view hv1) hv1.nn)) ?_
    rintro _ w78 ⟨A81, c82, rfl, hT84⟩
    have hS79 : St _ _ w78 [rowE .u8 5 A48 c49 l47, rowE .u8 5 A59 c60 l58, rowE .u8 5 A70 c71 l69, rowE .u8 5 A81 c82 l80] := hS68.take _ hT84
    refine gx_val (.tuple #[.slice A81 l80.length c82, .int .i64 x83]) w78 (by kernel_rfl) (by kernel_rfl) ?_
    refine gx_val (.slice A81 l80.length c82) w78 (by kernel_rfl) (by kernel_rfl) ?_
    refine gx_val (.int .i64 x83) w78 (by kernel_rfl) (by kernel_rfl) ?_
    refine gx_val (.slice A81 l80.length c82) w78 (by kernel_rfl) (by kernel_rfl) ?_
    refine gx_val (.int .i64 x83) w78 (by kernel_rfl) (by kernel_rfl) ?_
    refine gx_nil ?_
    refine gx_thenN ?_
    refine hK75 _ _ ?_
    obtain ⟨c88, hE89, hO90⟩ := bind_in hO8
    refine gx_cut (fun a w => ∃ (u87 : Nat → Value), a = ⟨((.slice A0 p0.length c0) :: (.slice A1 p1.length c1) :: undef :: undef :: (u87 0) :: (.slice A48 l47.length c49) :: (.int .i64 x50) :: (.slice A59 l58.length c60) :: (.int .i64 x61) :: (.slice A70 l69.length c71) :: (.int .i64 x72) :: (u87 1) :: (.int .i64 x83) :: undef :: undef :: undef :: undef :: undef :: (u5 1) :: (u5 2) :: (u5 3) :: (u5 4) :: (u5 5) :: (u5 6) :: (u5 7) :: (u5 8) :: (u5 9) :: (u5 10) :: (u5 11) :: (u5 12) :: (u5 13) :: (u5 14) :: (u5 15) :: (u5 16) :: (u5 17) :: (u5 18) :: (u5 19) :: (.tuple #[.slice A48 l47.length c49, .int .i64 x50]) :: (.slice A0 p0.length c0) :: (.tuple #[.slice A48 l47.length c49, .int .i64 x50]) :: (u87 2) :: (.int .i64 x50) :: (.tuple #[.slice A59 l58.length c60, .int .i64 x61]) :: (.slice A0 p0.length c0) :: (.tuple #[.slice A59 l58.length c60, .int .i64 x61]) :: (u87 3) :: (.int .i64 x61) :: (.tuple #[.slice A70 l69.length c71, .int .i64 x72]) :: (.slice A1 p1.length c1) :: (.tuple #[.slice A70 l69.length c71, .int .i64 x72]) :: (u87 4) :: (.int .i64 x72) :: (.tuple #[.slice A81 l80.length c82, .int .i64 x83]) :: (.slice A1 p1.length c1) :: (.tuple #[.slice A81 l80.length c82, .int .i64 x83]) :: (u87 5) :: (.int .i64 x83) :: (u87 6) :: (u87 7) :: (u87 8) :: (u87 9) :: (u87 10) :: (u87 11) :: (u87 12) :: (u87 13) :: (u87 14) :: (u87 15) :: (u87 16) :: (u87 17) :: (u87 18) :: (u87 19) :: (u87 20) :: (u87 21) :: (u87 22) :: (u87 23) :: (u87 24) :: (u87 25) :: undef :: undef :: undef :: undef :: undef :: undef :: undef :: undef :: undef :: undef :: undef :: undef :: undef :: undef :: undef :: undef :: undef :: undef :: undef :: undef :: undef :: undef :: undef :: undef :: undef :: undef :: undef :: undef :: undef :: undef :: undef :: undef :: undef :: undef :: undef :: undef :: undef :: undef :: undef :: undef :: undef :: undef :: undef :: undef :: undef :: undef :: undef :: undef :: undef :: undef :: undef :: undef :: undef :: undef :: undef :: undef :: undef :: undef :: []).toArray, []⟩ ∧ Ctl.go () = c88 ∧ St [] w0 w [rowE .u8 5 A48 c49 l47, rowE .u8 5 A59 c60 l58, rowE .u8 5 A70 c71 l69]) ?_ ?_
    · refine gx_seq (fun K91 hK92 => ?_)
      refine gx_region ?_
      refine gx_val (.int .i64 x50) w78 (by kernel_rfl) (by kernel_rfl) ?_
      refine gx_val (.int .i64 x61) w78 (by kernel_rfl) (by kernel_rfl) ?_
      rcases if_in hE89 with ⟨h93, hE89⟩ | ⟨h93, hE89⟩
      · refine gx_val (.bool true) w78 (by kernel_rfl) (run_boolE (ne_yes h93) (by kernel_rfl)) ?_
        refine gx_val (.bool true) w78 (by kernel_rfl) (by kernel_rfl) ?_
        refine gx_off (by kernel_rfl) ?_
        refine gx_off (by kernel_rfl) ?_
        refine gx_off (by kernel_rfl) ?_
        refine gx_off (by kernel_rfl) ?_
        refine gx_val (.bool true) w78 (by kernel_rfl) (by kernel_rfl) ?_
        refine gx_val (.bool true) w78 (by kernel_rfl) (by kernel_rfl) ?_
        refine gx_off (by kernel_rfl) ?_
        refine gx_off (by kernel_rfl) ?_
        refine gx_off (by kernel_rfl) ?_
        refine gx_val (.bool true) w78 (by kernel_rfl) (by kernel_rfl) ?_
        refine gx_val (.bool true) w78 (by kernel_rfl) (by kernel_rfl) ?_
        refine gx_off (by kernel_rfl) ?_
        refine gx_off (by kernel_rfl) ?_
        refine gx_off (by kernel_rfl) ?_
        refine gx_off (by kernel_rfl) ?_
        refine gx_val (.bool true) w78 (by kernel_rfl) (by kernel_rfl) ?_
        refine gx_nil ?_
        refine gx_thenN ?_
        refine hK92 _ _ ?_
        refine gx_yes (by kernel_rfl) ?_
        refine gx_seq (fun K94 hK95 => ?_)
        refine gx_region ?_
        refine gx_val (.bool false) w78 (by kernel_rfl) (by kernel_rfl) ?_
        refine gx_nil ?_
        refine gx_thenN ?_
        refine hK95 _ _ ?_
        refine gx_ret ?_
        refine gx_thenR ?_
        obtain rfl := Option.some.inj hE89
        try dsimp only at hO90
        obtain rfl := Option.some.inj hO90
        exact gx_fin (.bool false) (by kernel_rfl) (by kernel_rfl) ⟨_, rfl, rfl, (hS79.pick [] rfl rfl)⟩
      · refine gx_val (.bool false) w78 (by kernel_rfl) (run_boolE (ne_no h93) (by kernel_rfl)) ?_
        refine gx_val (.bool false) w78 (by kernel_rfl) (by kernel_rfl) ?_
        refine gx_val (.slice A48 l47.length c49) w78 (by kernel_rfl) (by kernel_rfl) ?_
        refine gx_val (.slice A59 l58.length c60) w78 (by kernel_rfl) (by kernel_rfl) ?_
        obtain ⟨b100, hc97, hE89⟩ := bind_in hE89
        try dsimp only at hE89
        refine gx_call (kBytes_R  b100 w78) (by kernel_rfl) (by kernel_rfl) (kBytes_ok N l47 l58 A48 c49 A59 c60 _ hc97 w78 (Vw.of (hS79.row 0 rfl).1 (hS79.row 0 rfl).2) (Vw.of (hS79.row 1 rfl).1 (hS79.row 1 rfl).2)) ?_
        rintro _ w98 ⟨rfl, hT101⟩
        have hS99 : St _ _ w98 [rowE .u8 5 A48 c49 l47, rowE .u8 5 A59 c60 l58, rowE .u8 5 A70 c71 l69, rowE .u8 5 A81 c82 l80] := hS79.take _ hT101
        cases b100 with
        | true =>
          try dsimp only at hE89
          refine gx_val (.bool false) w98 (by kernel_rfl) (by kernel_rfl) ?_
          refine gx_val (.bool false) w98 (by kernel_rfl) (by kernel_rfl) ?_
          refine gx_val (.bool false) w98 (by kernel_rfl) (by kernel_rfl) ?_
          refine gx_val (.int .i64 x72) w98 (by kernel_rfl) (by kernel_rfl) ?_
          refine gx_val (.int .i64 x83) w98 (by kernel_rfl) (by kernel_rfl) ?_
          rcases if_in hE89 with ⟨h102, hE89⟩ | ⟨h102, hE89⟩
          · refine gx_val (.bool true) w98 (by kernel_rfl) (run_boolE (ne_yes h102) (by kernel_rfl)) ?_
            refine gx_val (.bool true) w98 (by kernel_rfl) (by kernel_rfl) ?_
            refine gx_val (.bool true) w98 (by kernel_rfl) (by kernel_rfl) ?_
            refine gx_off (by kernel_rfl) ?_
            refine gx_off (by kernel_rfl) ?_
            refine gx_off (by kernel_rfl) ?_
            refine gx_off (by kernel_rfl) ?_
            refine gx_val (.bool true) w98 (by kernel_rfl) (by kernel_rfl) ?_
            refine gx_nil ?_
            refine gx_thenN ?_
            refine hK92 _ _ ?_
            refine gx_yes (by kernel_rfl) ?_
            refine gx_seq (fun K103 hK104 => ?_)
            refine gx_region ?_
            refine gx_val (.bool false) w98 (by kernel_rfl) (by kernel_rfl) ?_
            refine gx_nil ?_
            refine gx_thenN ?_
            refine hK104 _ _ ?_
            refine gx_ret ?_
            refine gx_thenR ?_
            obtain rfl := Option.some.inj hE89
            try dsimp only at hO90
            obtain rfl := Option.some.inj hO90
            exact gx_fin (.bool false) (by kernel_rfl) (by kernel_rfl) ⟨_, rfl, rfl, (hS99.pick [] rfl rfl)⟩
          · refine gx_val (.bool false) w98 (by kernel_rfl) (run_boolE (ne_no h102) (by kernel_rfl)) ?_
            refine gx_val (.bool false) w98 (by kernel_rfl) (by kernel_rfl) ?_
            refine gx_val (.bool false) w98 (by kernel_rfl) (by kernel_rfl) ?_
            refine gx_val (.slice A70 l69.length c71) w98 (by kernel_rfl) (by kernel_rfl) ?_
            refine gx_val (.slice A81 l80.length c82) w98 (by kernel_rfl) (by kernel_rfl) ?_
            obtain ⟨b109, hc106, hE89⟩ := bind_in hE89
            try dsimp only at hE89
            refine gx_call (kBytes_R  b109 w98) (by kernel_rfl) (by kernel_rfl) (kBytes_ok N l69 l80 A70 c71 A81 c82 _ hc106 w98 (Vw.of (hS99.row 2 rfl).1 (hS99.row 2 rfl).2) (Vw.of (hS99.row 3 rfl).1 (hS99.row 3 rfl).2)) ?_
            rintro _ w107 ⟨rfl, hT110⟩
            have hS108 : St _ _ w107 [rowE .u8 5 A48 c49 l47, rowE .u8 5 A59 c60 l58, rowE .u8 5 A70 c71 l69, rowE .u8 5 A81 c82 l80] := hS99.take _ hT110
            cases b109 with
            | true =>
              try dsimp only at hE89
              refine gx_val (.bool false) w107 (by kernel_rfl) (by kernel_rfl) ?_
              refine gx_val (.bool false) w107 (by kernel_rfl) (by kernel_rfl) ?_
              refine gx_nil ?_
              refine gx_thenN ?_
              refine hK92 _ _ ?_
              refine gx_no (by kernel_rfl) ?_
              refine gx_pass ?_
              refine gx_thenN ?_
              exact ⟨(fun i => List.getD ((u5 0) :: (.slice A81 l80.length c82) :: (.slice A48 l47.length c49) :: (.slice A59 l58.length c60) :: (.slice A70 l69.length c71) :: (.slice A81 l80.length c82) :: (.int .i64 x50) :: (.int .i64 x61) :: (.bool false) :: (.bool false) :: (.slice A48 l47.length c49) :: (.slice A59 l58.length c60) :: (.bool true) :: (.bool false) :: (.bool false) :: (.bool false) :: (.int .i64 x72) :: (.int .i64 x83) :: (.bool false) :: (.bool false) :: (.bool false) :: (.slice A70 l69.length c71) :: (.slice A81 l80.length c82) :: (.bool true) :: (.bool false) :: (.bool false) :: []) i undef), by kernel_rfl, (Option.some.inj hE89), (hS108.pick [0, 1, 2] rfl rfl)⟩
            | false =>
              try dsimp only at hE89
              refine gx_val (.bool true) w107 (by kernel_rfl) (by kernel_rfl) ?_
              refine gx_val (.bool true) w107 (by kernel_rfl) (by kernel_rfl) ?_
              refine gx_nil ?_
              refine gx_thenN ?_
              refine hK92 _ _ ?_
              refine gx_yes (by kernel_rfl) ?_
              refine gx_seq (fun K111 hK112 => ?_)
              refine gx_region ?_
              refine gx_val (.bool false) w107 (by kernel_rfl) (by kernel_rfl) ?_
              refine gx_nil ?_
              refine gx_thenN ?_
              refine hK112 _ _ ?_
              refine gx_ret ?_
              refine gx_thenR ?_
              obtain rfl := Option.some.inj hE89
              try dsimp only at hO90
              obtain rfl := Option.some.inj hO90
              exact gx_fin (.bool false) (by kernel_rfl) (by kernel_rfl) ⟨_, rfl, rfl, (hS108.pick [] rfl rfl)⟩
        | false =>
          try dsimp only at hE89
          refine gx_val (.bool true) w98 (by kernel_rfl) (by kernel_rfl) ?_
          refine gx_val (.bool true) w98 (by kernel_rfl) (by kernel_rfl) ?_
          refine gx_val (.bool true) w98 (by kernel_rfl) (by kernel_rfl) ?_
          refine gx_off (by kernel_rfl) ?_
          refine gx_off (by kernel_rfl) ?_
          refine gx_off (by kernel_rfl) ?_
          refine gx_val (.bool true) w98 (by kernel_rfl) (by kernel_rfl) ?_
          refine gx_val (.bool true) w98 (by kernel_rfl) (by kernel_rfl) ?_
          refine gx_off (by kernel_rfl) ?_
          refine gx_off (by kernel_rfl) ?_
          refine gx_off (by kernel_rfl) ?_
          refine gx_off (by kernel_rfl) ?_
          refine gx_val (.bool true) w98 (by kernel_rfl) (by kernel_rfl) ?_
          refine gx_nil ?_
          refine gx_thenN ?_
          refine hK92 _ _ ?_
          refine gx_yes (by kernel_rfl) ?_
          refine gx_seq (fun K113 hK114 => ?_)
          refine gx_region ?_
          refine gx_val (.bool false) w98 (by kernel_rfl) (by kernel_rfl) ?_
          refine gx_nil ?_
          refine gx_thenN ?_
          refine hK114 _ _ ?_
          refine gx_ret ?_
          refine gx_thenR ?_
          obtain rfl := Option.some.inj hE89
          try dsimp only at hO90
          obtain rfl := Option.some.inj hO90
          exact gx_fin (.bool false) (by kernel_rfl) (by kernel_rfl) ⟨_, rfl, rfl, (hS99.pick [] rfl rfl)⟩
    · rintro _ w85 ⟨u87, rfl, rfl, hS86⟩
      try dsimp only at hO90
      obtain ⟨c118, hE119, hO120⟩ := bind_in hO90
      refine gx_cut (fun a w => ∃ (u117 : Nat → Value), a = ⟨((.slice A0 p0.length c0) :: (.slice A1 p1.length c1) :: undef :: undef :: (u87 0) :: (u117 0) :: (.int .i64 x50) :: (.slice A59 l58.length c60) :: (.int .i64 x61) :: (.slice A70 l69.length c71) :: (.int .i64 x72) :: (u87 1) :: (.int .i64 x83) :: (u117 1) :: undef :: undef :: undef :: undef :: (u5 1) :: (u5 2) :: (u5 3) :: (u5 4) :: (u5 5) :: (u5 6) :: (u5 7) :: (u5 8) :: (u5 9) :: (u5 10) :: (u5 11) :: (u5 12) :: (u5 13) :: (u5 14) :: (u5 15) :: (u5 16) :: (u5 17) :: (u5 18) :: (u5 19) :: (.tuple #[.slice A48 l47.length c49, .int .i64 x50]) :: (.slice A0 p0.length c0) :: (.tuple #[.slice A48 l47.length c49, .int .i64 x50]) :: (u87 2) :: (.int .i64 x50) :: (.tuple #[.slice A59 l58.length c60, .int .i64 x61]) :: (.slice A0 p0.length c0) :: (.tuple #[.slice A59 l58.length c60, .int .i64 x61]) :: (u87 3) :: (.int .i64 x61) :: (.tuple #[.slice A70 l69.length c71, .int .i64 x72]) :: (.slice A1 p1.length c1) :: (.tuple #[.slice A70 l69.length c71, .int .i64 x72]) :: (u87 4) :: (.int .i64 x72) :: (.tuple #[.slice A81 l80.length c82, .int .i64 x83]) :: (.slice A1 p1.length c1) :: (.tuple #[.slice A81 l80.length c82, .int .i64 x83]) :: (u87 5) :: (.int .i64 x83) :: (u87 6) :: (u87 7) :: (u87 8) :: (u87 9) :: (u87 10) :: (u87 11) :: (u87 12) :: (u87 13) :: (u87 14) :: (u87 15) :: (u87 16) :: (u87 17) :: (u87 18) :: (u87 19) :: (u87 20) :: (u87 21) :: (u87 22) :: (u87 23) :: (u87 24) :: (u87 25) :: (u117 2) :: (u117 3) :: (u117 4) :: (u117 5) :: (u117 6) :: (u117 7) :: (u117 8) :: (u117 9) :: (u117 10) :: (u117 11) :: (u117 12) :: (u117 13) :: (u117 14) :: (u117 15) :: undef :: undef :: undef :: undef :: undef :: undef :: undef :: undef :: undef :: undef :: undef :: undef :: undef :: undef :: undef :: undef :: undef :: undef :: undef :: undef :: undef :: undef :: undef :: undef :: undef :: undef :: undef :: undef :: undef :: undef :: undef :: undef :: undef :: undef :: undef :: undef :: undef :: undef :: undef :: undef :: undef :: undef :: undef :: undef :: []).toArray, []⟩ ∧ () = c118 ∧ St [] w0 w [rowE .u8 5 A59 c60 l58, rowE .u8 5 A70 c71 l69]) ?_ ?_
      · refine gx_seq (fun K121 hK122 => ?_)
        refine gx_region ?_
        refine gx_val (.int .i64 0) w85 (by kernel_rfl) (by kernel_rfl) ?_
        refine gx_nil ?_
        refine gx_thenN ?_
        refine hK122 _ _ ?_
        refine gx_block ?_
        refine gx_loop (fun k a w => ∃ (l126 : List Int) (x128 : Int) (u125 : Nat → Value), a = ⟨((.slice A0 p0.length c0) :: (.slice A1 p1.length c1) :: undef :: undef :: (u87 0) :: (.slice A48 l47.length c49) :: (.int .i64 x50) :: (.slice A59 l58.length c60) :: (.int .i64 x61) :: (.slice A70 l69.length c71) :: (.int .i64 x72) :: (u87 1) :: (.int .i64 x83) :: (.int .i64 x128) :: undef :: undef :: undef :: undef :: (u5 1) :: (u5 2) :: (u5 3) :: (u5 4) :: (u5 5) :: (u5 6) :: (u5 7) :: (u5 8) :: (u5 9) :: (u5 10) :: (u5 11) :: (u5 12) :: (u5 13) :: (u5 14) :: (u5 15) :: (u5 16) :: (u5 17) :: (u5 18) :: (u5 19) :: (.tuple #[.slice A48 l47.length c49, .int .i64 x50]) :: (.slice A0 p0.length c0) :: (.tuple #[.slice A48 l47.length c49, .int .i64 x50]) :: (u87 2) :: (.int .i64 x50) :: (.tuple #[.slice A59 l58.length c60, .int .i64 x61]) :: (.slice A0 p0.length c0) :: (.tuple #[.slice A59 l58.length c60, .int .i64 x61]) :: (u87 3) :: (.int .i64 x61) :: (.tuple #[.slice A70 l69.length c71, .int .i64 x72]) :: (.slice A1 p1.length c1) :: (.tuple #[.slice A70 l69.length c71, .int .i64 x72]) :: (u87 4) :: (.int .i64 x72) :: (.tuple #[.slice A81 l80.length c82, .int .i64 x83]) :: (.slice A1 p1.length c1) :: (.tuple #[.slice A81 l80.length c82, .int .i64 x83]) :: (u87 5) :: (.int .i64 x83) :: (u87 6) :: (u87 7) :: (u87 8) :: (u87 9) :: (u87 10) :: (u87 11) :: (u87 12) :: (u87 13) :: (u87 14) :: (u87 15) :: (u87 16) :: (u87 17) :: (u87 18) :: (u87 19) :: (u87 20) :: (u87 21) :: (u87 22) :: (u87 23) :: (u87 24) :: (u87 25) :: (u125 0) :: (u125 1) :: (u125 2) :: (u125 3) :: (u125 4) :: (u125 5) :: (u125 6) :: (u125 7) :: (u125 8) :: (u125 9) :: (u125 10) :: (u125 11) :: (u125 12) :: (u125 13) :: undef :: undef :: undef :: undef :: undef :: undef :: undef :: undef :: undef :: undef :: undef :: undef :: undef :: undef :: undef :: undef :: undef :: undef :: undef :: undef :: undef :: undef :: undef :: undef :: undef :: undef :: undef :: undef :: undef :: undef :: undef :: undef :: undef :: undef :: undef :: undef :: undef :: undef :: undef :: undef :: undef :: undef :: undef :: undef :: []).toArray, []⟩ ∧ fPuts_L1 N l47 k l126 x128 = some c118 ∧ St [] w0 w [rowE .u8 5 A48 c49 l126, rowE .u8 5 A59 c60 l58, rowE .u8 5 A70 c71 l69] ∧ l47.length = l126.length) N ?_ ?_
        · exact ⟨l47, 0, (fun i => List.getD (undef :: undef :: undef :: undef :: undef :: undef :: undef :: undef :: undef :: undef :: undef :: undef :: undef :: undef :: []) i undef), by kernel_rfl, hE119, hS86, rfl⟩
        · rintro k129 _ w123 ⟨l126, x128, u125, rfl, hL130, hS124, hn127⟩
          cases k129 with
          | zero => cases hL130
          | succ k129 =>
            rw [fPuts_L1] at hL130
            refine gx_seq (fun K131 hK132 => ?_)
            refine gx_seq (fun K133 hK134 => ?_)
            refine gx_region ?_
            refine gx_val (.int .i64 x128) w123 (by kernel_rfl) (by kernel_rfl) ?_
            refine gx_val (.slice A48 l47.length c49) w123 (by kernel_rfl) (by kernel_rfl) ?_
            refine gx_val (.int .i64 ((l47.length : Nat) : Int)) w123 (by kernel_rfl) (by kernel_rfl) ?_
            rcases if_in hL130 with ⟨h135, hL130⟩ | ⟨h135, hL130⟩
            · refine gx_val (.bool true) w123 (by kernel_rfl) (run_boolE (decide_eq_true h135) (by kernel_rfl)) ?_
              refine gx_nil ?_
              refine gx_thenN ?_
              refine hK134 _ _ ?_
              refine gx_yes (by kernel_rfl) ?_
              refine gx_pass ?_
              refine gx_thenN ?_
              refine hK132 _ _ ?_
              refine gx_seq (fun K136 hK137 => ?_)
              refine gx_block ?_
              refine gx_region ?_
              refine gx_val (.slice A48 l47.length c49) w123 (by kernel_rfl) (by kernel_rfl) ?_
              refine gx_val (.int .i64 x128) w123 (by kernel_rfl) (by kernel_rfl) ?_
              refine gx_val (.slice A48 l47.length c49) w123 (by kernel_rfl) (by kernel_rfl) ?_
              refine gx_val (.int .i64 x128) w123 (by kernel_rfl) (by kernel_rfl) ?_
              obtain ⟨x138, hx139, hL130⟩ := bind_in hL130
              refine gx_val (.pointer (Option.map (fun p => p.add (Int.toNat x128 * 1)) A48)) w123 (by kernel_rfl) (run_ixaddr (E := 5) (s := 1) (k := .i64) (c := c49) rfl (by kernel_rfl) (by kernel_rfl) (by kernel_rfl) (fun _ => by kernel_rfl) (ix_in hx139).1 (lt_len hn127 (ix_in hx139).2.1) (nil_len hn127 (num_nil (hS124.row 0 rfl).1))) ?_
              refine gx_val (.int .u8 x138) w123 (by kernel_rfl) (run_loadix rfl (by kernel_rfl) (fun _ => by kernel_rfl) (hS124.row 0 rfl).1 hx139) ?_
              refine gx_val (.int .u8 (ixor .u8 x138 255)) w123 (by kernel_rfl) (by kernel_rfl) ?_
              obtain ⟨x140, hx141, hL130⟩ := bind_in hL130
              refine gx_val (.pointer (Option.map (fun p => p.add (Int.toNat x128 * 1)) A48)) w123 (by kernel_rfl) (run_ixaddr (E := 5) (s := 1) (k := .i64) (c := c49) rfl (by kernel_rfl) (by kernel_rfl) (by kernel_rfl) (fun _ => by kernel_rfl) (ix_in hx141).1 (lt_len hn127 (ix_in hx141).2.1) (nil_len hn127 (num_nil (hS124.row 0 rfl).1))) ?_
              obtain ⟨l144, hx145, hL130⟩ := bind_in hL130
              refine gx_S (by kernel_rfl) (st_storeix rfl (by kernel_rfl) (by kernel_rfl) (fun _ => by kernel_rfl) hS124 0 rfl hx145) ?_
              rintro w142 hS143
              have hS143 : St _ _ w142 [rowE .u8 5 A48 c49 l144, rowE .u8 5 A59 c60 l58, rowE .u8 5 A70 c71 l69] := hS143
              refine gx_nil ?_
              refine gx_blkN ?_
              refine gx_thenN ?_
              refine hK137 _ _ ?_
              refine gx_region ?_
              refine gx_val (.int .i64 x128) w142 (by kernel_rfl) (by kernel_rfl) ?_
              refine gx_val (.int .i64 (IntKind.i64.wrap (x128 + 1))) w142 (by kernel_rfl) (by kernel_rfl) ?_
              refine gx_val (.int .i64 (IntKind.i64.wrap (x128 + 1))) w142 (by kernel_rfl) (by kernel_rfl) ?_
              refine gx_nil ?_
              refine gx_thenN ?_
              exact ⟨k129, Nat.lt_succ_self k129, l144, (IntKind.i64.wrap (x128 + 1)), (fun i => List.getD ((.int .i64 x128) :: (.slice A48 l47.length c49) :: (.int .i64 ((l47.length : Nat) : Int)) :: (.bool true) :: (.int .i64 x128) :: (.int .i64 (IntKind.i64.wrap (x128 + 1))) :: (.slice A48 l47.length c49) :: (.int .i64 x128) :: (.slice A48 l47.length c49) :: (.int .i64 x128) :: (.pointer (Option.map (fun p => p.add (Int.toNat x128 * 1)) A48)) :: (.int .u8 x138) :: (.int .u8 (ixor .u8 x138 255)) :: (.pointer (Option.map (fun p => p.add (Int.toNat x128 * 1)) A48)) :: []) i undef), by kernel_rfl, hL130, hS143, (hn127.trans (setx_len hx145).symm)⟩
            · refine gx_val (.bool false) w123 (by kernel_rfl) (run_boolE (decide_eq_false h135) (by kernel_rfl)) ?_
              refine gx_nil ?_
              refine gx_thenN ?_
              refine hK134 _ _ ?_
              refine gx_no (by kernel_rfl) ?_
              refine gx_exit ?_
              refine gx_thenE ?_
              refine gx_thenE ?_
              refine gx_blkE ?_
              refine gx_thenN ?_
              exact ⟨(fun i => List.getD ((.slice A48 l47.length c49) :: (.int .i64 x128) :: (.int .i64 x128) :: (.slice A48 l47.length c49) :: (.int .i64 ((l47.length : Nat) : Int)) :: (.bool false) :: (u125 4) :: (u125 5) :: (u125 6) :: (u125 7) :: (u125 8) :: (u125 9) :: (u125 10) :: (u125 11) :: (u125 12) :: (u125 13) :: []) i undef), by kernel_rfl, (Option.some.inj hL130), (hS124.pick [1, 2] rfl rfl)⟩
      · rintro _ w115 ⟨u117, rfl, rfl, hS116⟩
        try dsimp only at hO120
        refine gx_seq (fun K146 hK147 => ?_)
        refine gx_region ?_
        refine gx_val (.slice A0 p0.length c0) w115 (by kernel_rfl) (by kernel_rfl) ?_
        obtain ⟨⟨l152, x155⟩, hc149, hO120⟩ := bind_in hO120
        try dsimp only at hO120
        refine gx_call (cPutCov_R  (l152, x155) w115) (by kernel_rfl) (by kernel_rfl) (cPutCov_ok N p0 A0 c0 _ hc149 w115 (Vw.of (hS116.view hv0) hv0.nn)) ?_
        rintro _ w150 ⟨A153, c154, rfl, hT156⟩
        have hS151 : St _ _ w150 [rowE .u8 5 A59 c60 l58, rowE .u8 5 A70 c71 l69, rowE .u8 5 A153 c154 l152] := hS116.take _ hT156
        refine gx_val (.tuple #[.slice A153 l152.length c154, .int .i64 x155]) w150 (by kernel_rfl) (by kernel_rfl) ?_
        refine gx_val (.slice A153 l152.length c154) w150 (by kernel_rfl) (by kernel_rfl) ?_
        refine gx_val (.int .i64 x155) w150 (by kernel_rfl) (by kernel_rfl) ?_
        refine gx_val (.slice A153 l152.length c154) w150 (by kernel_rfl) (by kernel_rfl) ?_
        refine gx_nil ?_
        refine gx_thenN ?_
        refine hK147 _ _ ?_
        refine gx_seq (fun K157 hK158 => ?_)
        refine gx_seq (fun K159 hK160 => ?_)
        refine gx_region ?_
        refine gx_val (.slice A153 l152.length c154) w150 (by kernel_rfl) (by kernel_rfl) ?_
        refine gx_val (.slice A59 l58.length c60) w150 (by kernel_rfl) (by kernel_rfl) ?_
        obtain ⟨b165, hc162, hO120⟩ := bind_in hO120
        try dsimp only at hO120
        refine gx_call (kBytes_R  b165 w150) (by kernel_rfl) (by kernel_rfl) (kBytes_ok N l152 l58 A153 c154 A59 c60 _ hc162 w150 (Vw.of (hS151.row 2 rfl).1 (hS151.row 2 rfl).2) (Vw.of (hS151.row 0 rfl).1 (hS151.row 0 rfl).2)) ?_
        rintro _ w163 ⟨rfl, hT166⟩
        have hS164 : St _ _ w163 [rowE .u8 5 A59 c60 l58, rowE .u8 5 A70 c71 l69, rowE .u8 5 A153 c154 l152] := hS151.take _ hT166
        cases b165 with
        | true =>
          try dsimp only at hO120
          refine gx_val (.bool false) w163 (by kernel_rfl) (by kernel_rfl) ?_
          refine gx_nil ?_
          refine gx_thenN ?_
          refine hK160 _ _ ?_
          refine gx_no (by kernel_rfl) ?_
          refine gx_pass ?_
          refine gx_thenN ?_
          refine hK158 _ _ ?_
          obtain ⟨c170, hE171, hO172⟩ := bind_in hO120
          refine gx_cut (fun a w => ∃ (u169 : Nat → Value), a = ⟨((.slice A0 p0.length c0) :: (.slice A1 p1.length c1) :: undef :: undef :: (u169 0) :: (u169 1) :: (.int .i64 x50) :: (u169 2) :: (.int .i64 x61) :: (.slice A70 l69.length c71) :: (.int .i64 x72) :: (u87 1) :: (.int .i64 x83) :: (u117 1) :: (u169 3) :: (u169 4) :: undef :: undef :: (u5 1) :: (u5 2) :: (u5 3) :: (u5 4) :: (u5 5) :: (u5 6) :: (u5 7) :: (u5 8) :: (u5 9) :: (u5 10) :: (u5 11) :: (u5 12) :: (u5 13) :: (u5 14) :: (u5 15) :: (u5 16) :: (u5 17) :: (u5 18) :: (u5 19) :: (.tuple #[.slice A48 l47.length c49, .int .i64 x50]) :: (.slice A0 p0.length c0) :: (.tuple #[.slice A48 l47.length c49, .int .i64 x50]) :: (u87 2) :: (.int .i64 x50) :: (.tuple #[.slice A59 l58.length c60, .int .i64 x61]) :: (.slice A0 p0.length c0) :: (.tuple #[.slice A59 l58.length c60, .int .i64 x61]) :: (u87 3) :: (.int .i64 x61) :: (.tuple #[.slice A70 l69.length c71, .int .i64 x72]) :: (.slice A1 p1.length c1) :: (.tuple #[.slice A70 l69.length c71, .int .i64 x72]) :: (u87 4) :: (.int .i64 x72) :: (.tuple #[.slice A81 l80.length c82, .int .i64 x83]) :: (.slice A1 p1.length c1) :: (.tuple #[.slice A81 l80.length c82, .int .i64 x83]) :: (u87 5) :: (.int .i64 x83) :: (u87 6) :: (u87 7) :: (u87 8) :: (u87 9) :: (u87 10) :: (u87 11) :: (u87 12) :: (u87 13) :: (u87 14) :: (u87 15) :: (u87 16) :: (u87 17) :: (u87 18) :: (u87 19) :: (u87 20) :: (u87 21) :: (u87 22) :: (u87 23) :: (u87 24) :: (u87 25) :: (u117 2) :: (u117 3) :: (u117 4) :: (u117 5) :: (u117 6) :: (u117 7) :: (u117 8) :: (u117 9) :: (u117 10) :: (u117 11) :: (u117 12) :: (u117 13) :: (u117 14) :: (u117 15) :: (.tuple #[.slice A153 l152.length c154, .int .i64 x155]) :: (.slice A0 p0.length c0) :: (.tuple #[.slice A153 l152.length c154, .int .i64 x155]) :: (u169 5) :: (.int .i64 x155) :: (u169 6) :: (u169 7) :: (.bool true) :: (.bool false) :: (u169 8) :: (u169 9) :: (u169 10) :: (u169 11) :: (u169 12) :: (u169 13) :: (u169 14) :: (u169 15) :: (u169 16) :: (u169 17) :: (u169 18) :: (u169 19) :: (u169 20) :: (u169 21) :: (u169 22) :: (u169 23) :: undef :: undef :: undef :: undef :: undef :: undef :: undef :: undef :: undef :: undef :: undef :: undef :: undef :: undef :: undef :: undef :: undef :: undef :: undef :: []).toArray, []⟩ ∧ Ctl.go () = c170 ∧ St [] w0 w [rowE .u8 5 A70 c71 l69]) ?_ ?_
          · refine gx_seq (fun K173 hK174 => ?_)
            refine gx_region ?_
            refine gx_val (.int .i64 x50) w163 (by kernel_rfl) (by kernel_rfl) ?_
            rcases if_in hE171 with ⟨h175, hE171⟩ | ⟨h175, hE171⟩
            · refine gx_val (.bool true) w163 (by kernel_rfl) (run_boolE (decide_eq_true h175) (by kernel_rfl)) ?_
              refine gx_nil ?_
              refine gx_thenN ?_
              refine hK174 _ _ ?_
              refine gx_yes (by kernel_rfl) ?_
              refine gx_seq (fun K176 hK177 => ?_)
              refine gx_region ?_
              refine gx_val (.slice A153 l152.length c154) w163 (by kernel_rfl) (by kernel_rfl) ?_
              obtain ⟨⟨l182, b183⟩, hc179, hE171⟩ := bind_in hE171
              try dsimp only at hE171
              refine gx_call (bOpen_R  (l182, b183) w163) (by kernel_rfl) (by kernel_rfl) (bOpen_ok N l152 A153 c154 _ hc179 w163 (Vw.of (hS164.row 2 rfl).1 (hS164.row 2 rfl).2)) ?_
              rintro _ w180 ⟨g184, g185, A186, c187, rfl, hT188⟩
              have hS181 : St _ _ w180 [rowE .u8 5 A59 c60 l58, rowE .u8 5 A70 c71 l69, rowE .u8 5 A153 c154 l152, boxE g184 [.pointer (some ⟨g185, 0, none⟩), .slice A186 l182.length c187] 60, boxE g185 [.bool b183] 57, rowE .u8 5 A186 c187 l182] := hS164.take _ hT188
              obtain ⟨⟨l193, x196, b197⟩, hc190, hE171⟩ := bind_in hE171
              try dsimp only at hE171
              refine gx_call (cCov_R l182 g184 g185 A186 c187 (l193, x196, b197) w180) (by kernel_rfl) (by kernel_rfl) (cCov_ok N l182 b183 (0 : Int) (65536 : Int) g184 g185 A186 c187 _ hc190 w180 (hS181.get 3 rfl) (hS181.get 4 rfl) (hS181.ne 3 4 rfl rfl (by decide)) (hS181.rowv 5 3 4 rfl rfl rfl (by decide) (by decide))) ?_
              rintro _ w191 ⟨A194, c195, rfl, hT198⟩
              have hS192 : St _ _ w191 [rowE .u8 5 A59 c60 l58, rowE .u8 5 A70 c71 l69, rowE .u8 5 A153 c154 l152, boxE g184 [.pointer (some ⟨g185, 0, none⟩), .slice A186 l182.length c187] 60, boxE g185 [.bool b197] 57, rowE .u8 5 A186 c187 l182, rowE .u16 49 A194 c195 l193] := hS181.lend 3 4 rfl rfl _ hT198
              refine gx_val (.tuple #[.slice A194 l193.length c195, .int .i64 x196]) w191 (by kernel_rfl) (by kernel_rfl) ?_
              refine gx_val (.slice A194 l193.length c195) w191 (by kernel_rfl) (by kernel_rfl) ?_
              refine gx_val (.int .i64 x196) w191 (by kernel_rfl) (by kernel_rfl) ?_
              refine gx_val (.slice A194 l193.length c195) w191 (by kernel_rfl) (by kernel_rfl) ?_
              refine gx_val (.int .i64 x196) w191 (by kernel_rfl) (by kernel_rfl) ?_
              refine gx_nil ?_
              refine gx_thenN ?_
              refine hK177 _ _ ?_
              refine gx_seq (fun K199 hK200 => ?_)
              refine gx_region ?_
              refine gx_val (.int .i64 x196) w191 (by kernel_rfl) (by kernel_rfl) ?_
              rcases if_in hE171 with ⟨h201, hE171⟩ | ⟨h201, hE171⟩
              · refine gx_val (.bool true) w191 (by kernel_rfl) (run_boolE (ne_yes h201) (by kernel_rfl)) ?_
                refine gx_val (.bool true) w191 (by kernel_rfl) (by kernel_rfl) ?_
                refine gx_off (by kernel_rfl) ?_
                refine gx_off (by kernel_rfl) ?_
                refine gx_off (by kernel_rfl) ?_
                refine gx_off (by kernel_rfl) ?_
                refine gx_val (.bool true) w191 (by kernel_rfl) (by kernel_rfl) ?_
                refine gx_nil ?_
                refine gx_thenN ?_
                refine hK200 _ _ ?_
                refine gx_yes (by kernel_rfl) ?_
                refine gx_seq (fun K202 hK203 => ?_)
                refine gx_region ?_
                refine gx_val (.bool false) w191 (by kernel_rfl) (by kernel_rfl) ?_
                refine gx_nil ?_
                refine gx_thenN ?_
                refine hK203 _ _ ?_
                refine gx_ret ?_
                refine gx_thenR ?_
                obtain rfl := Option.some.inj hE171
                try dsimp only at hO172
                obtain rfl := Option.some.inj hO172
                exact gx_fin (.bool false) (by kernel_rfl) (by kernel_rfl) ⟨_, rfl, rfl, (hS192.pick [] rfl rfl)⟩
              · refine gx_val (.bool false) w191 (by kernel_rfl) (run_boolE (ne_no h201) (by kernel_rfl)) ?_
                refine gx_val (.bool false) w191 (by kernel_rfl) (by kernel_rfl) ?_
                refine gx_val (.slice A194 l193.length c195) w191 (by kernel_rfl) (by kernel_rfl) ?_
                refine gx_val (.slice A0 p0.length c0) w191 (by kernel_rfl) (by kernel_rfl) ?_
                obtain ⟨b208, hc205, hE171⟩ := bind_in hE171
                try dsimp only at hE171
                refine gx_call (kWords_R  b208 w191) (by kernel_rfl) (by kernel_rfl) (kWords_ok N l193 p0 A194 c195 A0 c0 _ hc205 w191 (Vw.of (hS192.row 6 rfl).1 (hS192.row 6 rfl).2) (Vw.of (hS192.view hv0) hv0.nn)) ?_
                rintro _ w206 ⟨rfl, hT209⟩
                have hS207 : St _ _ w206 [rowE .u8 5 A59 c60 l58, rowE .u8 5 A70 c71 l69, rowE .u8 5 A153 c154 l152, boxE g184 [.pointer (some ⟨g185, 0, none⟩), .slice A186 l182.length c187] 60, boxE g185 [.bool b197] 57, rowE .u8 5 A186 c187 l182, rowE .u16 49 A194 c195 l193] := hS192.take _ hT209
                cases b208 with
                | true =>
                  try dsimp only at hE171
                  refine gx_val (.bool false) w206 (by kernel_rfl) (by kernel_rfl) ?_
                  refine gx_val (.bool false) w206 (by kernel_rfl) (by kernel_rfl) ?_
                  refine gx_nil ?_
                  refine gx_thenN ?_
                  refine hK200 _ _ ?_
                  refine gx_no (by kernel_rfl) ?_
                  refine gx_pass ?_
                  refine gx_thenN ?_
                  exact ⟨(fun i => List.getD ((u87 0) :: (.slice A153 l152.length c154) :: (.slice A59 l58.length c60) :: (.slice A194 l193.length c195) :: (.int .i64 x196) :: (.slice A153 l152.length c154) :: (.slice A153 l152.length c154) :: (.slice A59 l58.length c60) :: (.int .i64 x50) :: (.bool true) :: (.tuple #[.slice A194 l193.length c195, .int .i64 x196]) :: (.slice A153 l152.length c154) :: (.pointer (some ⟨g184, 0, none⟩)) :: (.tuple #[.slice A194 l193.length c195, .int .i64 x196]) :: (.slice A194 l193.length c195) :: (.int .i64 x196) :: (.int .i64 x196) :: (.bool false) :: (.bool false) :: (.slice A194 l193.length c195) :: (.slice A0 p0.length c0) :: (.bool true) :: (.bool false) :: (.bool false) :: []) i undef), by kernel_rfl, (Option.some.inj hE171), (hS207.pick [1] rfl rfl)⟩
                | false =>
                  try dsimp only at hE171
                  refine gx_val (.bool true) w206 (by kernel_rfl) (by kernel_rfl) ?_
                  refine gx_val (.bool true) w206 (by kernel_rfl) (by kernel_rfl) ?_
                  refine gx_nil ?_
                  refine gx_thenN ?_
                  refine hK200 _ _ ?_
                  refine gx_yes (by kernel_rfl) ?_
                  refine gx_seq (fun K210 hK211 => ?_)
                  refine gx_region ?_
                  refine gx_val (.bool false) w206 (by kernel_rfl) (by kernel_rfl) ?_
                  refine gx_nil ?_
                  refine gx_thenN ?_
                  refine hK211 _ _ ?_
                  refine gx_ret ?_
                  refine gx_thenR ?_
                  obtain rfl := Option.some.inj hE171
                  try dsimp only at hO172
                  obtain rfl := Option.some.inj hO172
                  exact gx_fin (.bool false) (by kernel_rfl) (by kernel_rfl) ⟨_, rfl, rfl, (hS207.pick [] rfl rfl)⟩
            · refine gx_val (.bool false) w163 (by kernel_rfl) (run_boolE (decide_eq_false h175) (by kernel_rfl)) ?_
              refine gx_nil ?_
              refine gx_thenN ?_
              refine hK174 _ _ ?_
              refine gx_no (by kernel_rfl) ?_
              refine gx_pass ?_
              refine gx_thenN ?_
              exact ⟨(fun i => List.getD ((u87 0) :: (.slice A153 l152.length c154) :: (.slice A59 l58.length c60) :: undef :: undef :: (.slice A153 l152.length c154) :: (.slice A153 l152.length c154) :: (.slice A59 l58.length c60) :: (.int .i64 x50) :: (.bool false) :: undef :: undef :: undef :: undef :: undef :: undef :: undef :: undef :: undef :: undef :: undef :: undef :: undef :: undef :: []) i undef), by kernel_rfl, (Option.some.inj hE171), (hS164.pick [1] rfl rfl)⟩
          · rintro _ w167 ⟨u169, rfl, rfl, hS168⟩
            try dsimp only at hO172
            refine gx_seq (fun K212 hK213 => ?_)
            refine gx_seq (fun K214 hK215 => ?_)
            refine gx_region ?_
            refine gx_val (.int .i64 x72) w167 (by kernel_rfl) (by kernel_rfl) ?_
            rcases if_in hO172 with ⟨h216, hO172⟩ | ⟨h216, hO172⟩
            · refine gx_val (.bool true) w167 (by kernel_rfl) (run_boolE (decide_eq_true h216) (by kernel_rfl)) ?_
              refine gx_nil ?_
              refine gx_thenN ?_
              refine hK215 _ _ ?_
              refine gx_yes (by kernel_rfl) ?_
              refine gx_seq (fun K217 hK218 => ?_)
              refine gx_region ?_
              refine gx_val (.slice A70 l69.length c71) w167 (by kernel_rfl) (by kernel_rfl) ?_
              obtain ⟨⟨l223, b224⟩, hc220, hO172⟩ := bind_in hO172
              try dsimp only at hO172
              refine gx_call (bOpen_R  (l223, b224) w167) (by kernel_rfl) (by kernel_rfl) (bOpen_ok N l69 A70 c71 _ hc220 w167 (Vw.of (hS168.row 0 rfl).1 (hS168.row 0 rfl).2)) ?_
              rintro _ w221 ⟨g225, g226, A227, c228, rfl, hT229⟩
              have hS222 : St _ _ w221 [rowE .u8 5 A70 c71 l69, boxE g225 [.pointer (some ⟨g226, 0, none⟩), .slice A227 l223.length c228] 60, boxE g226 [.bool b224] 57, rowE .u8 5 A227 c228 l223] := hS168.take _ hT229
              refine gx_val (.slice A1 p1.length c1) w221 (by kernel_rfl) (by kernel_rfl) ?_
              refine gx_val (.int .i64 ((p1.length : Nat) : Int)) w221 (by kernel_rfl) (by kernel_rfl) ?_
              obtain ⟨⟨l234, x237, b238⟩, hc231, hO172⟩ := bind_in hO172
              try dsimp only at hO172
              refine gx_call (cCls_R l223 g225 g226 A227 c228 (l234, x237, b238) w221) (by kernel_rfl) (by kernel_rfl) (cCls_ok N l223 b224 (0 : Int) ((p1.length : Nat) : Int) g225 g226 A227 c228 _ hc231 w221 (hS222.get 1 rfl) (hS222.get 2 rfl) (hS222.ne 1 2 rfl rfl (by decide)) (hS222.rowv 3 1 2 rfl rfl rfl (by decide) (by decide))) ?_
              rintro _ w232 ⟨A235, c236, rfl, hT239⟩
              have hS233 : St _ _ w232 [rowE .u8 5 A70 c71 l69, boxE g225 [.pointer (some ⟨g226, 0, none⟩), .slice A227 l223.length c228] 60, boxE g226 [.bool b238] 57, rowE .u8 5 A227 c228 l223, rowE .u8 5 A235 c236 l234] := hS222.lend 1 2 rfl rfl _ hT239
              refine gx_val (.tuple #[.slice A235 l234.length c236, .int .i64 x237]) w232 (by kernel_rfl) (by kernel_rfl) ?_
              refine gx_val (.slice A235 l234.length c236) w232 (by kernel_rfl) (by kernel_rfl) ?_
              refine gx_val (.int .i64 x237) w232 (by kernel_rfl) (by kernel_rfl) ?_
              refine gx_val (.slice A235 l234.length c236) w232 (by kernel_rfl) (by kernel_rfl) ?_
              refine gx_val (.int .i64 x237) w232 (by kernel_rfl) (by kernel_rfl) ?_
              refine gx_nil ?_
              refine gx_thenN ?_
              refine hK218 _ _ ?_
              refine gx_seq (fun K240 hK241 => ?_)
              refine gx_region ?_
              refine gx_val (.int .i64 x237) w232 (by kernel_rfl) (by kernel_rfl) ?_
              rcases if_in hO172 with ⟨h242, hO172⟩ | ⟨h242, hO172⟩
              · refine gx_val (.bool true) w232 (by kernel_rfl) (run_boolE (ne_yes h242) (by kernel_rfl)) ?_
                refine gx_val (.bool true) w232 (by kernel_rfl) (by kernel_rfl) ?_
                refine gx_off (by kernel_rfl) ?_
                refine gx_off (by kernel_rfl) ?_
                refine gx_off (by kernel_rfl) ?_
                refine gx_off (by kernel_rfl) ?_
                refine gx_val (.bool true) w232 (by kernel_rfl) (by kernel_rfl) ?_
                refine gx_nil ?_
                refine gx_thenN ?_
                refine hK241 _ _ ?_
                refine gx_yes (by kernel_rfl) ?_
                refine gx_seq (fun K243 hK244 => ?_)
                refine gx_region ?_
                refine gx_val (.bool false) w232 (by kernel_rfl) (by kernel_rfl) ?_
                refine gx_nil ?_
                refine gx_thenN ?_
                refine hK244 _ _ ?_
                refine gx_ret ?_
                refine gx_thenR ?_
                obtain rfl := Option.some.inj hO172
                exact gx_fin (.bool false) (by kernel_rfl) (by kernel_rfl) ⟨_, rfl, rfl, (hS233.pick [] rfl rfl)⟩
              · refine gx_val (.bool false) w232 (by kernel_rfl) (run_boolE (ne_no h242) (by kernel_rfl)) ?_
                refine gx_val (.bool false) w232 (by kernel_rfl) (by kernel_rfl) ?_
                refine gx_val (.slice A235 l234.length c236) w232 (by kernel_rfl) (by kernel_rfl) ?_
                refine gx_val (.slice A1 p1.length c1) w232 (by kernel_rfl) (by kernel_rfl) ?_
                obtain ⟨b249, hc246, hO172⟩ := bind_in hO172
                try dsimp only at hO172
                refine gx_call (kBytes_R  b249 w232) (by kernel_rfl) (by kernel_rfl) (kBytes_ok N l234 p1 A235 c236 A1 c1 _ hc246 w232 (Vw.of (hS233.row 4 rfl).1 (hS233.row 4 rfl).2) (Vw.of (hS233.view hv1) hv1.nn)) ?_
                rintro _ w247 ⟨rfl, hT250⟩
                have hS248 : St _ _ w247 [rowE .u8 5 A70 c71 l69, boxE g225 [.pointer (some ⟨g226, 0, none⟩), .slice A227 l223.length c228] 60, boxE g226 [.bool b238] 57, rowE .u8 5 A227 c228 l223, rowE .u8 5 A235 c236 l234] := hS233.take _ hT250
                cases b249 with
                | true =>
                  try dsimp only at hO172
                  refine gx_val (.bool false) w247 (by kernel_rfl) (by kernel_rfl) ?_
                  refine gx_val (.bool false) w247 (by kernel_rfl) (by kernel_rfl) ?_
                  refine gx_nil ?_
                  refine gx_thenN ?_
                  refine hK241 _ _ ?_
                  refine gx_no (by kernel_rfl) ?_
                  refine gx_pass ?_
                  refine gx_thenN ?_
                  refine hK213 _ _ ?_
                  refine gx_seq (fun K251 hK252 => ?_)
                  refine gx_region ?_
                  obtain ⟨b257, hc254, hO172⟩ := bind_in hO172
                  try dsimp only at hO172
                  refine gx_call (fWorks_R  b257 w247) (by kernel_rfl) (by kernel_rfl) (fWorks_ok N  _ hc254 w247 ) ?_
                  rintro _ w255 ⟨rfl, hT258⟩
                  have hS256 : St _ _ w255 [rowE .u8 5 A70 c71 l69, boxE g225 [.pointer (some ⟨g226, 0, none⟩), .slice A227 l223.length c228] 60, boxE g226 [.bool b238] 57, rowE .u8 5 A227 c228 l223, rowE .u8 5 A235 c236 l234] := hS248.take _ hT258
                  refine gx_val (.bool b257) w255 (by kernel_rfl) (by kernel_rfl) ?_
                  refine gx_nil ?_
                  refine gx_thenN ?_
                  refine hK252 _ _ ?_
                  refine gx_ret ?_
                  obtain rfl := Option.some.inj hO172
                  exact gx_fin (.bool b257) (by kernel_rfl) (by kernel_rfl) ⟨_, rfl, rfl, (hS256.pick [] rfl rfl)⟩
                | false =>
                  try dsimp only at hO172
                  refine gx_val (.bool true) w247 (by kernel_rfl) (by kernel_rfl) ?_
                  refine gx_val (.bool true) w247 (by kernel_rfl) (by kernel_rfl) ?_
                  refine gx_nil ?_
                  refine gx_thenN ?_
                  refine hK241 _ _ ?_
                  refine gx_yes (by kernel_rfl) ?_
                  refine gx_seq (fun K259 hK260 => ?_)
                  refine gx_region ?_
                  refine gx_val (.bool false) w247 (by kernel_rfl) (by kernel_rfl) ?_
                  refine gx_nil ?_
                  refine gx_thenN ?_
                  refine hK260 _ _ ?_
                  refine gx_ret ?_
                  refine gx_thenR ?_
                  obtain rfl := Option.some.inj hO172
                  exact gx_fin (.bool false) (by kernel_rfl) (by kernel_rfl) ⟨_, rfl, rfl, (hS248.pick [] rfl rfl)⟩
            · refine gx_val (.bool false) w167 (by kernel_rfl) (run_boolE (decide_eq_false h216) (by kernel_rfl)) ?_
              refine gx_nil ?_
              refine gx_thenN ?_
              refine hK215 _ _ ?_
              refine gx_no (by kernel_rfl) ?_
              refine gx_pass ?_
              refine gx_thenN ?_
              refine hK213 _ _ ?_
              refine gx_seq (fun K261 hK262 => ?_)
              refine gx_region ?_
              obtain ⟨b267, hc264, hO172⟩ := bind_in hO172
              try dsimp only at hO172
              refine gx_call (fWorks_R  b267 w167) (by kernel_rfl) (by kernel_rfl) (fWorks_ok N  _ hc264 w167 ) ?_
              rintro _ w265 ⟨rfl, hT268⟩
              have hS266 : St _ _ w265 [rowE .u8 5 A70 c71 l69] := hS168.take _ hT268
              refine gx_val (.bool b267) w265 (by kernel_rfl) (by kernel_rfl) ?_
              refine gx_nil ?_
              refine gx_thenN ?_
              refine hK262 _ _ ?_
              refine gx_ret ?_
              obtain rfl := Option.some.inj hO172
              exact gx_fin (.bool b267) (by kernel_rfl) (by kernel_rfl) ⟨_, rfl, rfl, (hS266.pick [] rfl rfl)⟩
        | false =>
          try dsimp only at hO120
          refine gx_val (.bool true) w163 (by kernel_rfl) (by kernel_rfl) ?_
          refine gx_nil ?_
          refine gx_thenN ?_
          refine hK160 _ _ ?_
          refine gx_yes (by kernel_rfl) ?_
          refine gx_seq (fun K269 hK270 => ?_)
          refine gx_region ?_
          refine gx_val (.bool false) w163 (by kernel_rfl) (by kernel_rfl) ?_
          refine gx_nil ?_
          refine gx_thenN ?_
          refine hK270 _ _ ?_
          refine gx_ret ?_
          refine gx_thenR ?_
          obtain rfl := Option.some.inj hO120
          exact gx_fin (.bool false) (by kernel_rfl) (by kernel_rfl) ⟨_, rfl, rfl, (hS164.pick [] rfl rfl)⟩

end Go.Proofs.Ytfgienbhdpmekaa

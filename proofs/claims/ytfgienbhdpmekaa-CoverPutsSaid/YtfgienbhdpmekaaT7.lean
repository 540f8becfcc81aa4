/-
  A statement.
-/
import Derived.Test.YtfgienbhdpmekaaT6
namespace Go.Proofs.Ytfgienbhdpmekaa
open Go Go.RowKit

def fBoth_L2 (N : Nat) (p0 : List Int) : Nat → Int → Option (Int)
  | 0, _ => none
  | k108+1, x107 => (if (IntKind.i64.wrap (x107 + 1)) < ((p0.length : Nat) : Int) then ((ix p0 x107).bind fun x117 => (if x117 < 65535 then ((ix p0 (IntKind.i64.wrap (x107 + 1))).bind fun x120 => ((ix p0 x107).bind fun x122 => (if x120 = (IntKind.u16.wrap (x122 + 1)) then fBoth_L2 N p0 k108 (IntKind.i64.wrap (x107 + 1)) else some (x107)))) else some (x107))) else some (x107))
def fBoth_L3 (N : Nat) (p0 : List Int) (x100 : Int) : Nat → List Int → Int → Option (List Int)
  | 0, _, _ => none
  | k164+1, l162, x163 => (if x163 ≤ x100 then ((ix p0 x163).bind fun x175 => ((ix p0 x163).bind fun x177 => ((apx l162 ([(IntKind.u8.wrap (Int.fdiv x175 256)), (IntKind.u8.wrap x177)])).bind fun l181 => fBoth_L3 N p0 x100 k164 l181 (IntKind.i64.wrap (x163 + 1))))) else some (l162))
def fBoth_L1 (N : Nat) (p0 : List Int) : Nat → List Int → List Int → Int → Int → Option (Ctl (List Int × List Int × Int) (Bool))
  | 0, _, _, _, _ => none
  | k64+1, l58, l61, x62, x63 => (if x63 < ((p0.length : Nat) : Int) then (((if x63 > 0 then ((ix p0 x63).bind fun x82 => ((ix p0 (IntKind.i64.wrap (x63 - 1))).bind fun x84 => (if x82 ≤ x84 then ((fWorks N ).bind fun b93 => some (Ctl.ret b93)) else some (Ctl.go ())))) else some (Ctl.go ())) : Option (Ctl (Unit) (Bool))).bind fun | Ctl.go () => ((fBoth_L2 N p0 N x63 : Option (Int)).bind fun x100 => ((ix p0 x63).bind fun x129 => ((ix p0 x63).bind fun x131 => ((ix p0 x100).bind fun x133 => ((ix p0 x100).bind fun x135 => ((apx l61 ([(IntKind.u8.wrap (Int.fdiv x129 256)), (IntKind.u8.wrap x131), (IntKind.u8.wrap (Int.fdiv x133 256)), (IntKind.u8.wrap x135), (IntKind.u8.wrap (Int.fdiv x63 256)), (IntKind.u8.wrap x63)])).bind fun l139 => ((fBoth_L3 N p0 x100 N l58 x63 : Option (List Int)).bind fun l151 => fBoth_L1 N p0 k64 l151 l139 (IntKind.i64.wrap (x62 + 1)) (IntKind.i64.wrap (x100 + 1))))))))) | Ctl.ret r => some (Ctl.ret r)) else some (Ctl.go (l58, l61, x62)))
def fBoth (N : Nat) (p0 : List Int) : Option (Bool) :=
  (((if ((p0.length : Nat) : Int) > 1000 then ((fWorks N ).bind fun b18 => some (Ctl.ret b18)) else (if ((p0.length : Nat) : Int) = 0 then ((fWorks N ).bind fun b27 => some (Ctl.ret b27)) else some (Ctl.go ()))) : Option (Ctl (Unit) (Bool))).bind fun | Ctl.go () => ((fBoth_L1 N p0 N ([0, 1, (IntKind.u8.wrap (Int.fdiv ((p0.length : Nat) : Int) 256)), (IntKind.u8.wrap ((p0.length : Nat) : Int))]) ([]) 0 0 : Option (Ctl (List Int × List Int × Int) (Bool))).bind fun | Ctl.go (l42, l45, x46) => ((apx ([0, 2, (IntKind.u8.wrap (Int.fdiv x46 256)), (IntKind.u8.wrap x46)]) l45).bind fun l194 => ((bOpen N l42).bind fun (l207, b208) => ((cCov N l207 b208 (0 : Int) (65536 : Int)).bind fun (l218, x221, _b222) => ((bOpen N l194).bind fun (l230, b231) => ((cCov N l230 b231 (0 : Int) (65536 : Int)).bind fun (l241, x244, _b245) => (if x221 = 0 then (if x244 = 0 then ((kWords N l218 p0).bind fun b255 => (match b255 with | true => ((kWords N l241 p0).bind fun b261 => (match b261 with | true => ((fWorks N ).bind fun b267 => some b267) | false => some false)) | false => some false)) else some false) else some false)))))) | Ctl.ret r => some r) | Ctl.ret r => some r)

def fBoth_R (r : Bool) (w0 : World) (v : Value) (w : World) : Prop := v = .bool r ∧ St [] w0 w []

set_option maxRecDepth 100000 in
set_option maxHeartbeats 4000000 in
theorem fBoth_ok (N : Nat) (p0 : List Int) (A0 : Option Addr) (c0 : Nat) (r : Bool) (hF : fBoth N p0 = some r) (w0 : World) (hv0 : Vw [] .u16 w0 A0 c0 p0) :
    Calls Try.prog 5 #[.slice A0 p0.length c0] w0 fun e w => ∃ v, e = .returned v ∧ fBoth_R r w0 v w := by
  have hS0 := St.start w0
  unfold fBoth at hF
  refine calls_of Try.func5 rfl ⟨((.slice A0 p0.length c0) :: undef :: undef :: undef :: undef :: undef :: undef :: undef :: undef :: undef :: undef :: undef :: undef :: undef :: undef :: undef :: undef :: undef :: undef :: undef :: undef :: undef :: undef :: undef :: undef :: undef :: undef :: undef :: undef :: undef :: undef :: undef :: undef :: undef :: undef :: undef :: undef :: undef :: undef :: undef :: undef :: undef :: undef :: undef :: undef :: undef :: undef :: undef :: undef :: undef :: undef :: undef :: undef :: undef :: undef :: undef :: undef :: undef :: undef :: undef :: undef :: undef :: undef :: undef :: undef :: undef :: undef :: undef :: undef :: undef :: undef :: undef :: undef :: undef :: undef :: undef :: undef :: undef :: undef :: undef :: undef :: undef :: undef :: undef :: undef :: undef :: undef :: undef :: undef :: undef :: undef :: undef :: undef :: undef :: undef :: undef :: undef :: undef :: undef :: undef :: undef :: undef :: undef :: undef :: undef :: undef :: undef :: undef :: undef :: undef :: undef :: undef :: undef :: undef :: undef :: undef :: undef :: undef :: undef :: undef :: undef :: undef :: undef :: undef :: undef :: undef :: undef :: undef :: undef :: undef :: undef :: undef :: undef :: undef :: undef :: undef :: undef :: undef :: undef :: undef :: undef :: undef :: undef :: undef :: undef :: undef :: undef :: undef :: undef :: undef :: undef :: undef :: undef :: undef :: undef :: undef :: undef :: undef :: undef :: undef :: undef :: undef :: undef :: undef :: undef :: undef :: undef :: undef :: undef :: undef :: undef :: []).toArray, []⟩ (by kernel_rfl) ?_
  refine gx_seq (fun K1 hK2 => ?_)
  refine gx_region ?_
  refine gx_val (.bool false) w0 (by kernel_rfl) (by kernel_rfl) ?_
  refine gx_nil ?_
  refine gx_thenN ?_
  refine hK2 _ _ ?_
  obtain ⟨c6, hE7, hO8⟩ := bind_in hF
  refine gx_cut (fun a w => ∃ (u5 : Nat → Value), a = ⟨((.slice A0 p0.length c0) :: undef :: (u5 0) :: undef :: undef :: undef :: undef :: undef :: undef :: undef :: undef :: undef :: undef :: undef :: (u5 1) :: (u5 2) :: (u5 3) :: (u5 4) :: (u5 5) :: (u5 6) :: (u5 7) :: (u5 8) :: (u5 9) :: undef :: undef :: undef :: undef :: undef :: undef :: undef :: undef :: undef :: undef :: undef :: undef :: undef :: undef :: undef :: undef :: undef :: undef :: undef :: undef :: undef :: undef :: undef :: undef :: undef :: undef :: undef :: undef :: undef :: undef :: undef :: undef :: undef :: undef :: undef :: undef :: undef :: undef :: undef :: undef :: undef :: undef :: undef :: undef :: undef :: undef :: undef :: undef :: undef :: undef :: undef :: undef :: undef :: undef :: undef :: undef :: undef :: undef :: undef :: undef :: undef :: undef :: undef :: undef :: undef :: undef :: undef :: undef :: undef :: undef :: undef :: undef :: undef :: undef :: undef :: undef :: undef :: undef :: undef :: undef :: undef :: undef :: undef :: undef :: undef :: undef :: undef :: undef :: undef :: undef :: undef :: undef :: undef :: undef :: undef :: undef :: undef :: undef :: undef :: undef :: undef :: undef :: undef :: undef :: undef :: undef :: undef :: undef :: undef :: undef :: undef :: undef :: undef :: undef :: undef :: undef :: undef :: undef :: undef :: undef :: undef :: undef :: undef :: undef :: undef :: undef :: undef :: undef :: undef :: undef :: undef :: undef :: undef :: undef :: undef :: undef :: undef :: undef :: undef :: undef :: undef :: undef :: undef :: undef :: undef :: undef :: undef :: undef :: []).toArray, []⟩ ∧ Ctl.go () = c6 ∧ St [] w0 w []) ?_ ?_
  · refine gx_seq (fun K9 hK10 => ?_)
    refine gx_region ?_
    refine gx_val (.slice A0 p0.length c0) w0 (by kernel_rfl) (by kernel_rfl) ?_
    refine gx_val (.int .i64 ((p0.length : Nat) : Int)) w0 (by kernel_rfl) (by kernel_rfl) ?_
    rcases if_in hE7 with ⟨h11, hE7⟩ | ⟨h11, hE7⟩
    · refine gx_val (.bool true) w0 (by kernel_rfl) (run_boolE (decide_eq_true h11) (by kernel_rfl)) ?_
      refine gx_val (.bool true) w0 (by kernel_rfl) (by kernel_rfl) ?_
      refine gx_off (by kernel_rfl) ?_
      refine gx_off (by kernel_rfl) ?_
      refine gx_off (by kernel_rfl) ?_
      refine gx_val (.bool true) w0 (by kernel_rfl) (by kernel_rfl) ?_
      refine gx_nil ?_
      refine gx_thenN ?_
      refine hK10 _ _ ?_
      refine gx_yes (by kernel_rfl) ?_
      refine gx_seq (fun K12 hK13 => ?_)
      refine gx_region ?_
      obtain ⟨b18, hc15, hE7⟩ := bind_in hE7
      try dsimp only at hE7
      refine gx_call (fWorks_R  b18 w0) (by kernel_rfl) (by kernel_rfl) (fWorks_ok N  _ hc15 w0 ) ?_
      rintro _ w16 ⟨rfl, hT19⟩
      have hS17 : St _ _ w16 [] := hS0.take _ hT19
      refine gx_val (.bool b18) w16 (by kernel_rfl) (by kernel_rfl) ?_
      refine gx_nil ?_
      refine gx_thenN ?_
      refine hK13 _ _ ?_
      refine gx_ret ?_
      refine gx_thenR ?_
      obtain rfl := Option.some.inj hE7
      try dsimp only at hO8
      obtain rfl := Option.some.inj hO8
      exact gx_fin (.bool b18) (by kernel_rfl) (by kernel_rfl) ⟨_, rfl, rfl, hS17⟩
    · refine gx_val (.bool false) w0 (by kernel_rfl) (run_boolE (decide_eq_false h11) (by kernel_rfl)) ?_
      refine gx_val (.bool false) w0 (by kernel_rfl) (by kernel_rfl) ?_
      refine gx_val (.slice A0 p0.length c0) w0 (by kernel_rfl) (by kernel_rfl) ?_
      refine gx_val (.int .i64 ((p0.length : Nat) : Int)) w0 (by kernel_rfl) (by kernel_rfl) ?_
      rcases if_in hE7 with ⟨h20, hE7⟩ | ⟨h20, hE7⟩
      · refine gx_val (.bool true) w0 (by kernel_rfl) (run_boolE (decide_eq_true h20) (by kernel_rfl)) ?_
        refine gx_val (.bool true) w0 (by kernel_rfl) (by kernel_rfl) ?_
        refine gx_nil ?_
        refine gx_thenN ?_
        refine hK10 _ _ ?_
        refine gx_yes (by kernel_rfl) ?_
        refine gx_seq (fun K21 hK22 => ?_)
        refine gx_region ?_
        obtain ⟨b27, hc24, hE7⟩ := bind_in hE7
        try dsimp only at hE7
        refine gx_call (fWorks_R  b27 w0) (by kernel_rfl) (by kernel_rfl) (fWorks_ok N  _ hc24 w0 ) ?_
        rintro _ w25 ⟨rfl, hT28⟩
        have hS26 : St _ _ w25 [] := hS0.take _ hT28
        refine gx_val (.bool b27) w25 (by kernel_rfl) (by kernel_rfl) ?_
        refine gx_nil ?_
        refine gx_thenN ?_
        refine hK22 _ _ ?_
        refine gx_ret ?_
        refine gx_thenR ?_
        obtain rfl := Option.some.inj hE7
        try dsimp only at hO8
        obtain rfl := Option.some.inj hO8
        exact gx_fin (.bool b27) (by kernel_rfl) (by kernel_rfl) ⟨_, rfl, rfl, hS26⟩
      · refine gx_val (.bool false) w0 (by kernel_rfl) (run_boolE (decide_eq_false h20) (by kernel_rfl)) ?_
        refine gx_val (.bool false) w0 (by kernel_rfl) (by kernel_rfl) ?_
        refine gx_nil ?_
        refine gx_thenN ?_
        refine hK10 _ _ ?_
        refine gx_no (by kernel_rfl) ?_
        refine gx_pass ?_
        refine gx_thenN ?_
        exact ⟨(fun i => List.getD ((.bool false) :: (.slice A0 p0.length c0) :: (.int .i64 ((p0.length : Nat) : Int)) :: (.bool false) :: (.bool false) :: (.slice A0 p0.length c0) :: (.int .i64 ((p0.length : Nat) : Int)) :: (.bool false) :: (.bool false) :: undef :: []) i undef), by kernel_rfl, (Option.some.inj hE7), hS0⟩
  · rintro _ w3 ⟨u5, rfl, rfl, hS4⟩
    try dsimp only at hO8
    refine gx_seq (fun K29 hK30 => ?_)
    refine gx_region ?_
    refine gx_val (.slice A0 p0.length c0) w3 (by kernel_rfl) (by kernel_rfl) ?_
    refine gx_val (.int .i64 ((p0.length : Nat) : Int)) w3 (by kernel_rfl) (by kernel_rfl) ?_
    refine gx_val (.int .i64 (Int.fdiv ((p0.length : Nat) : Int) 256)) w3 (by kernel_rfl) (by kernel_rfl) ?_
    refine gx_val (.int .u8 (IntKind.u8.wrap (Int.fdiv ((p0.length : Nat) : Int) 256))) w3 (by kernel_rfl) (by kernel_rfl) ?_
    refine gx_val (.slice A0 p0.length c0) w3 (by kernel_rfl) (by kernel_rfl) ?_
    refine gx_val (.int .i64 ((p0.length : Nat) : Int)) w3 (by kernel_rfl) (by kernel_rfl) ?_
    refine gx_val (.int .u8 (IntKind.u8.wrap ((p0.length : Nat) : Int))) w3 (by kernel_rfl) (by kernel_rfl) ?_
    refine gx_R (by kernel_rfl) (st_made .u8 5 [0, 1, (IntKind.u8.wrap (Int.fdiv ((p0.length : Nat) : Int) 256)), (IntKind.u8.wrap ((p0.length : Nat) : Int))] hS4 (by show 4 ≤ 1000000000; decide) (by kernel_rfl)) ?_
    rintro _ w31 ⟨rfl, hS32⟩
    have hS32 : St _ _ w31 [rowE .u8 5 (some ⟨w3.heap.size, 0, none⟩) 4 ([0, 1, (IntKind.u8.wrap (Int.fdiv ((p0.length : Nat) : Int) 256)), (IntKind.u8.wrap ((p0.length : Nat) : Int))])] := hS32
    refine gx_val (.slice (some ⟨w3.heap.size, 0, none⟩) (([0, 1, (IntKind.u8.wrap (Int.fdiv ((p0.length : Nat) : Int) 256)), (IntKind.u8.wrap ((p0.length : Nat) : Int))]).length) 4) w31 (by kernel_rfl) (by kernel_rfl) ?_
    refine gx_nil ?_
    refine gx_thenN ?_
    refine hK30 _ _ ?_
    refine gx_seq (fun K33 hK34 => ?_)
    refine gx_region ?_
    refine gx_val (.slice none 0 0) w31 (by kernel_rfl) (by kernel_rfl) ?_
    refine gx_nil ?_
    refine gx_thenN ?_
    refine hK34 _ _ ?_
    refine gx_seq (fun K35 hK36 => ?_)
    refine gx_region ?_
    refine gx_val (.int .i64 0) w31 (by kernel_rfl) (by kernel_rfl) ?_
    refine gx_nil ?_
    refine gx_thenN ?_
    refine hK36 _ _ ?_
    obtain ⟨c47, hE48, hO49⟩ := bind_in hO8
    refine gx_cut (fun a w => ∃ (l42 : List Int) (l45 : List Int) (x46 : Int) (A40 : Option Addr) (c41 : Nat) (A43 : Option Addr) (c44 : Nat) (u39 : Nat → Value), a = ⟨((.slice A0 p0.length c0) :: undef :: (u39 0) :: (.slice A40 l42.length c41) :: (.slice A43 l45.length c44) :: (.int .i64 x46) :: (u39 1) :: (u39 2) :: (u39 3) :: undef :: undef :: undef :: undef :: undef :: (u5 1) :: (u5 2) :: (u5 3) :: (u5 4) :: (u5 5) :: (u5 6) :: (u5 7) :: (u5 8) :: (u5 9) :: (.slice A0 p0.length c0) :: (.int .i64 ((p0.length : Nat) : Int)) :: (.int .i64 (Int.fdiv ((p0.length : Nat) : Int) 256)) :: (.int .u8 (IntKind.u8.wrap (Int.fdiv ((p0.length : Nat) : Int) 256))) :: (.slice A0 p0.length c0) :: (.int .i64 ((p0.length : Nat) : Int)) :: (.int .u8 (IntKind.u8.wrap ((p0.length : Nat) : Int))) :: (u39 4) :: (u39 5) :: (u39 6) :: (u39 7) :: (u39 8) :: (u39 9) :: (u39 10) :: (u39 11) :: (u39 12) :: (u39 13) :: (u39 14) :: (u39 15) :: (u39 16) :: (u39 17) :: (u39 18) :: (u39 19) :: (u39 20) :: (u39 21) :: (u39 22) :: (u39 23) :: (u39 24) :: (u39 25) :: (u39 26) :: (u39 27) :: (u39 28) :: (u39 29) :: (u39 30) :: (u39 31) :: (u39 32) :: (u39 33) :: (u39 34) :: (u39 35) :: (u39 36) :: (u39 37) :: (u39 38) :: (u39 39) :: (u39 40) :: (u39 41) :: (u39 42) :: (u39 43) :: (u39 44) :: (u39 45) :: (u39 46) :: (u39 47) :: (u39 48) :: (u39 49) :: (u39 50) :: (u39 51) :: (u39 52) :: (u39 53) :: (u39 54) :: (u39 55) :: (u39 56) :: (u39 57) :: (u39 58) :: (u39 59) :: (u39 60) :: (u39 61) :: (u39 62) :: (u39 63) :: (u39 64) :: (u39 65) :: (u39 66) :: (u39 67) :: (u39 68) :: (u39 69) :: (u39 70) :: (u39 71) :: (u39 72) :: (u39 73) :: (u39 74) :: (u39 75) :: (u39 76) :: (u39 77) :: (u39 78) :: (u39 79) :: (u39 80) :: (u39 81) :: (u39 82) :: (u39 83) :: (u39 84) :: (u39 85) :: (u39 86) :: (u39 87) :: (u39 88) :: (u39 89) :: (u39 90) :: (u39 91) :: (u39 92) :: (u39 93) :: (u39 94) :: (u39 95) :: (u39 96) :: (u39 97) :: (u39 98) :: (u39 99) :: (u39 100) :: (u39 101) :: (u39 102) :: (u39 103) :: (u39 104) :: (u39 105) :: undef :: undef :: undef :: undef :: undef :: undef :: undef :: undef :: undef :: undef :: undef :: undef :: undef :: undef :: undef :: undef :: undef :: undef :: undef :: undef :: undef :: undef :: undef :: undef :: undef :: undef :: undef :: undef :: undef :: undef :: undef :: undef :: undef :: undef :: undef :: undef :: undef :: undef :: undef :: []).toArray, []⟩ ∧ Ctl.go (l42, l45, x46) = c47 ∧ St [] w0 w [rowE .u8 5 A40 c41 l42, rowE .u8 5 A43 c44 l45]) ?_ ?_
    · refine gx_seq (fun K50 hK51 => ?_)
      refine gx_region ?_
      refine gx_val (.int .i64 0) w31 (by kernel_rfl) (by kernel_rfl) ?_
      refine gx_nil ?_
      refine gx_thenN ?_
      refine hK51 _ _ ?_
      refine gx_block ?_
      have hS52 : St _ _ w31 [rowE .u8 5 (some ⟨w3.heap.size, 0, none⟩) 4 ([0, 1, (IntKind.u8.wrap (Int.fdiv ((p0.length : Nat) : Int) 256)), (IntKind.u8.wrap ((p0.length : Nat) : Int))]), rowE .u8 5 none 0 ([])] := hS32.nilrow .u8 5
      refine gx_loop (fun k a w => ∃ (l58 : List Int) (l61 : List Int) (x62 : Int) (x63 : Int) (A56 : Option Addr) (c57 : Nat) (A59 : Option Addr) (c60 : Nat) (u55 : Nat → Value), a = ⟨((.slice A0 p0.length c0) :: undef :: (u55 0) :: (.slice A56 l58.length c57) :: (.slice A59 l61.length c60) :: (.int .i64 x62) :: (.int .i64 x63) :: (u55 1) :: (u55 2) :: undef :: undef :: undef :: undef :: undef :: (u5 1) :: (u5 2) :: (u5 3) :: (u5 4) :: (u5 5) :: (u5 6) :: (u5 7) :: (u5 8) :: (u5 9) :: (.slice A0 p0.length c0) :: (.int .i64 ((p0.length : Nat) : Int)) :: (.int .i64 (Int.fdiv ((p0.length : Nat) : Int) 256)) :: (.int .u8 (IntKind.u8.wrap (Int.fdiv ((p0.length : Nat) : Int) 256))) :: (.slice A0 p0.length c0) :: (.int .i64 ((p0.length : Nat) : Int)) :: (.int .u8 (IntKind.u8.wrap ((p0.length : Nat) : Int))) :: (u55 3) :: (u55 4) :: (u55 5) :: (u55 6) :: (u55 7) :: (u55 8) :: (u55 9) :: (u55 10) :: (u55 11) :: (u55 12) :: (u55 13) :: (u55 14) :: (u55 15) :: (u55 16) :: (u55 17) :: (u55 18) :: (u55 19) :: (u55 20) :: (u55 21) :: (u55 22) :: (u55 23) :: (u55 24) :: (u55 25) :: (u55 26) :: (u55 27) :: (u55 28) :: (u55 29) :: (u55 30) :: (u55 31) :: (u55 32) :: (u55 33) :: (u55 34) :: (u55 35) :: (u55 36) :: (u55 37) :: (u55 38) :: (u55 39) :: (u55 40) :: (u55 41) :: (u55 42) :: (u55 43) :: (u55 44) :: (u55 45) :: (u55 46) :: (u55 47) :: (u55 48) :: (u55 49) :: (u55 50) :: (u55 51) :: (u55 52) :: (u55 53) :: (u55 54) :: (u55 55) :: (u55 56) :: (u55 57) :: (u55 58) :: (u55 59) :: (u55 60) :: (u55 61) :: (u55 62) :: (u55 63) :: (u55 64) :: (u55 65) :: (u55 66) :: (u55 67) :: (u55 68) :: (u55 69) :: (u55 70) :: (u55 71) :: (u55 72) :: (u55 73) :: (u55 74) :: (u55 75) :: (u55 76) :: (u55 77) :: (u55 78) :: (u55 79) :: (u55 80) :: (u55 81) :: (u55 82) :: (u55 83) :: (u55 84) :: (u55 85) :: (u55 86) :: (u55 87) :: (u55 88) :: (u55 89) :: (u55 90) :: (u55 91) :: (u55 92) :: (u55 93) :: (u55 94) :: (u55 95) :: (u55 96) :: (u55 97) :: (u55 98) :: (u55 99) :: (u55 100) :: (u55 101) :: (u55 102) :: (u55 103) :: (u55 104) :: undef :: undef :: undef :: undef :: undef :: undef :: undef :: undef :: undef :: undef :: undef :: undef :: undef :: undef :: undef :: undef :: undef :: undef :: undef :: undef :: undef :: undef :: undef :: undef :: undef :: undef :: undef :: undef :: undef :: undef :: undef :: undef :: undef :: undef :: undef :: undef :: undef :: undef :: undef :: []).toArray, []⟩ ∧ fBoth_L1 N p0 k l58 l61 x62 x63 = some c47 ∧ St [] w0 w [rowE .u8 5 A56 c57 l58, rowE .u8 5 A59 c60 l61]) N ?_ ?_
      · exact ⟨([0, 1, (IntKind.u8.wrap (Int.fdiv ((p0.length : Nat) : Int) 256)), (IntKind.u8.wrap ((p0.length : Nat) : Int))]), ([]), 0, 0, (some ⟨w3.heap.size, 0, none⟩), 4, none, 0, (fun i => List.getD ((u5 0) :: undef :: undef :: (.slice (some ⟨w3.heap.size, 0, none⟩) (([0, 1, (IntKind.u8.wrap (Int.fdiv ((p0.length : Nat) : Int) 256)), (IntKind.u8.wrap ((p0.length : Nat) : Int))]).length) 4) :: undef :: undef :: undef :: undef :: undef :: undef :: undef :: undef :: undef :: undef :: undef :: undef :: undef :: undef :: undef :: undef :: undef :: undef :: undef :: undef :: undef :: undef :: undef :: undef :: undef :: undef :: undef :: undef :: undef :: undef :: undef :: undef :: undef :: undef :: undef :: undef :: undef :: undef :: undef :: undef :: undef :: undef :: undef :: undef :: undef :: undef :: undef :: undef :: undef :: undef :: undef :: undef :: undef :: undef :: undef :: undef :: undef :: undef :: undef :: undef :: undef :: undef :: undef :: undef :: undef :: undef :: undef :: undef :: undef :: undef :: undef :: undef :: undef :: undef :: undef :: undef :: undef :: undef :: undef :: undef :: undef :: undef :: undef :: undef :: undef :: undef :: undef :: undef :: undef :: undef :: undef :: undef :: undef :: undef :: undef :: undef :: undef :: undef :: undef :: undef :: undef :: []) i undef), by kernel_rfl, hE48, hS52⟩
      · rintro k64 _ w53 ⟨l58, l61, x62, x63, A56, c57, A59, c60, u55, rfl, hL65, hS54⟩
        cases k64 with
        | zero => cases hL65
        | succ k64 =>
          rw [fBoth_L1] at hL65
          refine gx_seq (fun K66 hK67 => ?_)
          refine gx_seq (fun K68 hK69 => ?_)
          refine gx_region ?_
          refine gx_val (.int .i64 x63) w53 (by kernel_rfl) (by kernel_rfl) ?_
          refine gx_val (.slice A0 p0.length c0) w53 (by kernel_rfl) (by kernel_rfl) ?_
          refine gx_val (.int .i64 ((p0.length : Nat) : Int)) w53 (by kernel_rfl) (by kernel_rfl) ?_
          rcases if_in hL65 with ⟨h70, hL65⟩ | ⟨h70, hL65⟩
          · refine gx_val (.bool true) w53 (by kernel_rfl) (run_boolE (decide_eq_true h70) (by kernel_rfl)) ?_
            refine gx_nil ?_
            refine gx_thenN ?_
            refine hK69 _ _ ?_
            refine gx_yes (by kernel_rfl) ?_
            refine gx_pass ?_
            refine gx_thenN ?_
            refine hK67 _ _ ?_
            refine gx_block ?_
            obtain ⟨c74, hE75, hO76⟩ := bind_in hL65
            refine gx_cut (fun a w => ∃ (u73 : Nat → Value), a = ⟨((.slice A0 p0.length c0) :: undef :: (u73 0) :: (.slice A56 l58.length c57) :: (.slice A59 l61.length c60) :: (.int .i64 x62) :: (.int .i64 x63) :: (u55 1) :: (u55 2) :: undef :: undef :: undef :: undef :: undef :: (u5 1) :: (u5 2) :: (u5 3) :: (u5 4) :: (u5 5) :: (u5 6) :: (u5 7) :: (u5 8) :: (u5 9) :: (.slice A0 p0.length c0) :: (.int .i64 ((p0.length : Nat) : Int)) :: (.int .i64 (Int.fdiv ((p0.length : Nat) : Int) 256)) :: (.int .u8 (IntKind.u8.wrap (Int.fdiv ((p0.length : Nat) : Int) 256))) :: (.slice A0 p0.length c0) :: (.int .i64 ((p0.length : Nat) : Int)) :: (.int .u8 (IntKind.u8.wrap ((p0.length : Nat) : Int))) :: (u55 3) :: (.int .i64 x63) :: (.slice A0 p0.length c0) :: (.int .i64 ((p0.length : Nat) : Int)) :: (.bool true) :: (u73 1) :: (u73 2) :: (u73 3) :: (u73 4) :: (u73 5) :: (u73 6) :: (u73 7) :: (u73 8) :: (u73 9) :: (u73 10) :: (u73 11) :: (u73 12) :: (u73 13) :: (u73 14) :: (u73 15) :: (u55 23) :: (u55 24) :: (u55 25) :: (u55 26) :: (u55 27) :: (u55 28) :: (u55 29) :: (u55 30) :: (u55 31) :: (u55 32) :: (u55 33) :: (u55 34) :: (u55 35) :: (u55 36) :: (u55 37) :: (u55 38) :: (u55 39) :: (u55 40) :: (u55 41) :: (u55 42) :: (u55 43) :: (u55 44) :: (u55 45) :: (u55 46) :: (u55 47) :: (u55 48) :: (u55 49) :: (u55 50) :: (u55 51) :: (u55 52) :: (u55 53) :: (u55 54) :: (u55 55) :: (u55 56) :: (u55 57) :: (u55 58) :: (u55 59) :: (u55 60) :: (u55 61) :: (u55 62) :: (u55 63) :: (u55 64) :: (u55 65) :: (u55 66) :: (u55 67) :: (u55 68) :: (u55 69) :: (u55 70) :: (u55 71) :: (u55 72) :: (u55 73) :: (u55 74) :: (u55 75) :: (u55 76) :: (u55 77) :: (u55 78) :: (u55 79) :: (u55 80) :: (u55 81) :: (u55 82) :: (u55 83) :: (u55 84) :: (u55 85) :: (u55 86) :: (u55 87) :: (u55 88) :: (u55 89) :: (u55 90) :: (u55 91) :: (u55 92) :: (u55 93) :: (u55 94) :: (u55 95) :: (u55 96) :: (u55 97) :: (u55 98) :: (u55 99) :: (u55 100) :: (u55 101) :: (u55 102) :: (u55 103) :: (u55 104) :: undef :: undef :: undef :: undef :: undef :: undef :: undef :: undef :: undef :: undef :: undef :: undef :: undef :: undef :: undef :: undef :: undef :: undef :: undef :: undef :: undef :: undef :: undef :: undef :: undef :: undef :: undef :: undef :: undef :: undef :: undef :: undef :: undef :: undef :: undef :: undef :: undef :: undef :: undef :: []).toArray, []⟩ ∧ Ctl.go () = c74 ∧ St [] w0 w [rowE .u8 5 A56 c57 l58, rowE .u8 5 A59 c60 l61]) ?_ ?_
            · refine gx_seq (fun K77 hK78 => ?_)
              refine gd_start (fun w => St [] w0 w [rowE .u8 5 A56 c57 l58, rowE .u8 5 A59 c60 l61]) 14 #[false, false, false, false, false, false, false, false, false, false, false, false, false, false] (by kernel_rfl) (by kernel_rfl) ?_
              have hS80 := hS54.drew
              generalize w53.drew = w79 at hS80 ⊢
              refine gd1 0 { dst := some 35, op := _, type := _, pos := _, after := _, guard := _ } (.int .i64 x63) rfl hS80 (fun w hSw => by kernel_rfl) ?_
              rcases if_in hE75 with ⟨h81, hE75⟩ | ⟨h81, hE75⟩
              · refine gd1 1 { dst := some 36, op := _, type := _, pos := _, after := _, guard := _ } (.bool true) rfl hS80 (fun w hSw => run_boolE (decide_eq_true h81) (by kernel_rfl)) ?_
                refine gd1 2 { dst := some 37, op := _, type := _, pos := _, after := _, guard := _ } (.bool true) rfl hS80 (fun w hSw => by kernel_rfl) ?_
                refine gd1 3 { dst := some 38, op := _, type := _, pos := _, after := _, guard := _ } (.slice A0 p0.length c0) rfl hS80 (fun w hSw => by kernel_rfl) ?_
                refine gd1 4 { dst := some 39, op := _, type := _, pos := _, after := _, guard := _ } (.int .i64 x63) rfl hS80 (fun w hSw => by kernel_rfl) ?_
                obtain ⟨x82, hx83, hE75⟩ := bind_in hE75
                refine gd1 5 { dst := some 40, op := _, type := _, pos := _, after := _, guard := _ } (.pointer (Option.map (fun p => p.add (Int.toNat x63 * 1)) A0)) rfl hS80 (fun w hSw => run_ixaddr (E := 49) (s := 1) (k := .i64) (c := c0) rfl (by kernel_rfl) (by kernel_rfl) (by kernel_rfl) (fun _ => by kernel_rfl) (ix_in hx83).1 (ix_in hx83).2.1 (num_nil (hSw.view hv0))) ?_
                refine gd1 6 { dst := some 41, op := _, type := _, pos := _, after := _, guard := _ } (.int .u16 x82) rfl hS80 (fun w hSw => run_loadix rfl (by kernel_rfl) (fun _ => by kernel_rfl) (hSw.view hv0) hx83) ?_
                refine gd1 7 { dst := some 42, op := _, type := _, pos := _, after := _, guard := _ } (.slice A0 p0.length c0) rfl hS80 (fun w hSw => by kernel_rfl) ?_
                refine gd1 8 { dst := some 43, op := _, type := _, pos := _, after := _, guard := _ } (.int .i64 x63) rfl hS80 (fun w hSw => by kernel_rfl) ?_
                refine gd1 9 { dst := some 44, op := _, type := _, pos := _, after := _, guard := _ } (.int .i64 (IntKind.i64.wrap (x63 - 1))) rfl hS80 (fun w hSw => by kernel_rfl) ?_
                obtain ⟨x84, hx85, hE75⟩ := bind_in hE75
                refine gd1 10 { dst := some 45, op := _, type := _, pos := _, after := _, guard := _ } (.pointer (Option.map (fun p => p.add (Int.toNat (IntKind.i64.wrap (x63 - 1)) * 1)) A0)) rfl hS80 (fun w hSw => run_ixaddr (E := 49) (s := 1) (k := .i64) (c := c0) rfl (by kernel_rfl) (by kernel_rfl) (by kernel_rfl) (fun _ => by kernel_rfl) (ix_in hx85).1 (ix_in hx85).2.1 (num_nil (hSw.view hv0))) ?_
                refine gd1 11 { dst := some 46, op := _, type := _, pos := _, after := _, guard := _ } (.int .u16 x84) rfl hS80 (fun w hSw => run_loadix rfl (by kernel_rfl) (fun _ => by kernel_rfl) (hSw.view hv0) hx85) ?_
                rcases if_in hE75 with ⟨h86, hE75⟩ | ⟨h86, hE75⟩
                · refine gd1 12 { dst := some 47, op := _, type := _, pos := _, after := _, guard := _ } (.bool true) rfl hS80 (fun w hSw => run_boolE (decide_eq_true h86) (by kernel_rfl)) ?_
                  refine gd1 13 { dst := some 48, op := _, type := _, pos := _, after := _, guard := _ } (.bool true) rfl hS80 (fun w hSw => by kernel_rfl) ?_
                  refine gd_done (by kernel_rfl) ?_
                  refine gx_thenN ?_
                  refine hK78 _ _ ?_
                  refine gx_yes (by kernel_rfl) ?_
                  refine gx_seq (fun K87 hK88 => ?_)
                  refine gx_region ?_
                  obtain ⟨b93, hc90, hE75⟩ := bind_in hE75
                  try dsimp only at hE75
                  refine gx_call (fWorks_R  b93 w79) (by kernel_rfl) (by kernel_rfl) (fWorks_ok N  _ hc90 w79 ) ?_
                  rintro _ w91 ⟨rfl, hT94⟩
                  have hS92 : St _ _ w91 [rowE .u8 5 A56 c57 l58, rowE .u8 5 A59 c60 l61] := hS80.take _ hT94
                  refine gx_val (.bool b93) w91 (by kernel_rfl) (by kernel_rfl) ?_
                  refine gx_nil ?_
                  refine gx_thenN ?_
                  refine hK88 _ _ ?_
                  refine gx_ret ?_
                  refine gx_thenR ?_
                  obtain rfl := Option.some.inj hE75
                  try dsimp only at hO76
                  refine gx_blkR ?_
                  refine gx_thenR ?_
                  refine gx_blkR ?_
                  refine gx_thenR ?_
                  obtain rfl := Option.some.inj hO76
                  try dsimp only at hO49
                  obtain rfl := Option.some.inj hO49
                  exact gx_fin (.bool b93) (by kernel_rfl) (by kernel_rfl) ⟨_, rfl, rfl, (hS92.pick [] rfl rfl)⟩
                · refine gd1 12 { dst := some 47, op := _, type := _, pos := _, after := _, guard := _ } (.bool false) rfl hS80 (fun w hSw => run_boolE (decide_eq_false h86) (by kernel_rfl)) ?_
                  refine gd1 13 { dst := some 48, op := _, type := _, pos := _, after := _, guard := _ } (.bool false) rfl hS80 (fun w hSw => by kernel_rfl) ?_
                  refine gd_done (by kernel_rfl) ?_
                  refine gx_thenN ?_
                  refine hK78 _ _ ?_
                  refine gx_no (by kernel_rfl) ?_
                  refine gx_pass ?_
                  refine gx_thenN ?_
                  exact ⟨(fun i => List.getD ((u55 0) :: (.int .i64 x63) :: (.bool true) :: (.bool true) :: (.slice A0 p0.length c0) :: (.int .i64 x63) :: (.pointer (Option.map (fun p => p.add (Int.toNat x63 * 1)) A0)) :: (.int .u16 x82) :: (.slice A0 p0.length c0) :: (.int .i64 x63) :: (.int .i64 (IntKind.i64.wrap (x63 - 1))) :: (.pointer (Option.map (fun p => p.add (Int.toNat (IntKind.i64.wrap (x63 - 1)) * 1)) A0)) :: (.int .u16 x84) :: (.bool false) :: (.bool false) :: (u55 22) :: []) i undef), by kernel_rfl, (Option.some.inj hE75), hS80⟩
              · refine gd1 1 { dst := some 36, op := _, type := _, pos := _, after := _, guard := _ } (.bool false) rfl hS80 (fun w hSw => run_boolE (decide_eq_false h81) (by kernel_rfl)) ?_
                refine gd1 2 { dst := some 37, op := _, type := _, pos := _, after := _, guard := _ } (.bool false) rfl hS80 (fun w hSw => by kernel_rfl) ?_
                refine gd0 3 { dst := some 38, op := _, type := _, pos := _, after := _, guard := _ } rfl hS80 ?_
                refine gd0 4 { dst := some 39, op := _, type := _, pos := _, after := _, guard := _ } rfl hS80 ?_
                refine gd0 5 { dst := some 40, op := _, type := _, pos := _, after := _, guard := _ } rfl hS80 ?_
                refine gd0 6 { dst := some 41, op := _, type := _, pos := _, after := _, guard := _ } rfl hS80 ?_
                refine gd0 7 { dst := some 42, op := _, type := _, pos := _, after := _, guard := _ } rfl hS80 ?_
                refine gd0 8 { dst := some 43, op := _, type := _, pos := _, after := _, guard := _ } rfl hS80 ?_
                refine gd0 9 { dst := some 44, op := _, type := _, pos := _, after := _, guard := _ } rfl hS80 ?_
                refine gd0 10 { dst := some 45, op := _, type := _, pos := _, after := _, guard := _ } rfl hS80 ?_
                refine gd0 11 { dst := some 46, op := _, type := _, pos := _, after := _, guard := _ } rfl hS80 ?_
                refine gd0 12 { dst := some 47, op := _, type := _, pos := _, after := _, guard := _ } rfl hS80 ?_
                refine gd1 13 { dst := some 48, op := _, type := _, pos := _, after := _, guard := _ } (.bool false) rfl hS80 (fun w hSw => by kernel_rfl) ?_
                refine gd_done (by kernel_rfl) ?_
                refine gx_thenN ?_
                refine hK78 _ _ ?_
                refine gx_no (by kernel_rfl) ?_
                refine gx_pass ?_
                refine gx_thenN ?_
                exact ⟨(fun i => List.getD ((u55 0) :: (.int .i64 x63) :: (.bool false) :: (.bool false) :: undef :: undef :: undef :: undef :: undef :: undef :: undef :: undef :: undef :: undef :: (.bool false) :: (u55 22) :: []) i undef), by kernel_rfl, (Option.some.inj hE75), hS80⟩
            · rintro _ w71 ⟨u73, rfl, rfl, hS72⟩
              try dsimp only at hO76
              refine gx_seq (fun K95 hK96 => ?_)
              refine gx_region ?_
              refine gx_val (.int .i64 x63) w71 (by kernel_rfl) (by kernel_rfl) ?_
              refine gx_val (.int .i64 x63) w71 (by kernel_rfl) (by kernel_rfl) ?_
              refine gx_nil ?_
              refine gx_thenN ?_
              refine hK96 _ _ ?_
              obtain ⟨c101, hE102, hO103⟩ := bind_in hO76
              refine gx_cut (fun a w => ∃ (x100 : Int) (u99 : Nat → Value), a = ⟨((.slice A0 p0.length c0) :: undef :: (u73 0) :: (.slice A56 l58.length c57) :: (.slice A59 l61.length c60) :: (.int .i64 x62) :: (.int .i64 x63) :: (.int .i64 x100) :: (u55 2) :: undef :: undef :: undef :: undef :: undef :: (u5 1) :: (u5 2) :: (u5 3) :: (u5 4) :: (u5 5) :: (u5 6) :: (u5 7) :: (u5 8) :: (u5 9) :: (.slice A0 p0.length c0) :: (.int .i64 ((p0.length : Nat) : Int)) :: (.int .i64 (Int.fdiv ((p0.length : Nat) : Int) 256)) :: (.int .u8 (IntKind.u8.wrap (Int.fdiv ((p0.length : Nat) : Int) 256))) :: (.slice A0 p0.length c0) :: (.int .i64 ((p0.length : Nat) : Int)) :: (.int .u8 (IntKind.u8.wrap ((p0.length : Nat) : Int))) :: (u55 3) :: (.int .i64 x63) :: (.slice A0 p0.length c0) :: (.int .i64 ((p0.length : Nat) : Int)) :: (.bool true) :: (u73 1) :: (u73 2) :: (u73 3) :: (u73 4) :: (u73 5) :: (u73 6) :: (u73 7) :: (u73 8) :: (u73 9) :: (u73 10) :: (u73 11) :: (u73 12) :: (u73 13) :: (u73 14) :: (u73 15) :: (.int .i64 x63) :: (u99 0) :: (u99 1) :: (u99 2) :: (u99 3) :: (u99 4) :: (u99 5) :: (u99 6) :: (u99 7) :: (u99 8) :: (u99 9) :: (u99 10) :: (u99 11) :: (u99 12) :: (u99 13) :: (u99 14) :: (u99 15) :: (u99 16) :: (u99 17) :: (u99 18) :: (u99 19) :: (u99 20) :: (u99 21) :: (u99 22) :: (u99 23) :: (u99 24) :: (u99 25) :: (u99 26) :: (u55 51) :: (u55 52) :: (u55 53) :: (u55 54) :: (u55 55) :: (u55 56) :: (u55 57) :: (u55 58) :: (u55 59) :: (u55 60) :: (u55 61) :: (u55 62) :: (u55 63) :: (u55 64) :: (u55 65) :: (u55 66) :: (u55 67) :: (u55 68) :: (u55 69) :: (u55 70) :: (u55 71) :: (u55 72) :: (u55 73) :: (u55 74) :: (u55 75) :: (u55 76) :: (u55 77) :: (u55 78) :: (u55 79) :: (u55 80) :: (u55 81) :: (u55 82) :: (u55 83) :: (u55 84) :: (u55 85) :: (u55 86) :: (u55 87) :: (u55 88) :: (u55 89) :: (u55 90) :: (u55 91) :: (u55 92) :: (u55 93) :: (u55 94) :: (u55 95) :: (u55 96) :: (u55 97) :: (u55 98) :: (u55 99) :: (u55 100) :: (u55 101) :: (u55 102) :: (u55 103) :: (u55 104) :: undef :: undef :: undef :: undef :: undef :: undef :: undef :: undef :: undef :: undef :: undef :: undef :: undef :: undef :: undef :: undef :: undef :: undef :: undef :: undef :: undef :: undef :: undef :: undef :: undef :: undef :: undef :: undef :: undef :: undef :: undef :: undef :: undef :: undef :: undef :: undef :: undef :: undef :: undef :: []).toArray, []⟩ ∧ x100 = c101 ∧ St [] w0 w [rowE .u8 5 A56 c57 l58, rowE .u8 5 A59 c60 l61]) ?_ ?_
              · refine gx_block ?_
                refine gx_loop (fun k a w => ∃ (x107 : Int) (u106 : Nat → Value), a = ⟨((.slice A0 p0.length c0) :: undef :: (u73 0) :: (.slice A56 l58.length c57) :: (.slice A59 l61.length c60) :: (.int .i64 x62) :: (.int .i64 x63) :: (.int .i64 x107) :: (u55 2) :: undef :: undef :: undef :: undef :: undef :: (u5 1) :: (u5 2) :: (u5 3) :: (u5 4) :: (u5 5) :: (u5 6) :: (u5 7) :: (u5 8) :: (u5 9) :: (.slice A0 p0.length c0) :: (.int .i64 ((p0.length : Nat) : Int)) :: (.int .i64 (Int.fdiv ((p0.length : Nat) : Int) 256)) :: (.int .u8 (IntKind.u8.wrap (Int.fdiv ((p0.length : Nat) : Int) 256))) :: (.slice A0 p0.length c0) :: (.int .i64 ((p0.length : Nat) : Int)) :: (.int .u8 (IntKind.u8.wrap ((p0.length : Nat) : Int))) :: (u55 3) :: (.int .i64 x63) :: (.slice A0 p0.length c0) :: (.int .i64 ((p0.length : Nat) : Int)) :: (.bool true) :: (u73 1) :: (u73 2) :: (u73 3) :: (u73 4) :: (u73 5) :: (u73 6) :: (u73 7) :: (u73 8) :: (u73 9) :: (u73 10) :: (u73 11) :: (u73 12) :: (u73 13) :: (u73 14) :: (u73 15) :: (.int .i64 x63) :: (u106 0) :: (u106 1) :: (u106 2) :: (u106 3) :: (u106 4) :: (u106 5) :: (u106 6) :: (u106 7) :: (u106 8) :: (u106 9) :: (u106 10) :: (u106 11) :: (u106 12) :: (u106 13) :: (u106 14) :: (u106 15) :: (u106 16) :: (u106 17) :: (u106 18) :: (u106 19) :: (u106 20) :: (u106 21) :: (u106 22) :: (u106 23) :: (u106 24) :: (u106 25) :: (u106 26) :: (u55 51) :: (u55 52) :: (u55 53) :: (u55 54) :: (u55 55) :: (u55 56) :: (u55 57) :: (u55 58) :: (u55 59) :: (u55 60) :: (u55 61) :: (u55 62) :: (u55 63) :: (u55 64) :: (u55 65) :: (u55 66) :: (u55 67) :: (u55 68) :: (u55 69) :: (u55 70) :: (u55 71) :: (u55 72) :: (u55 73) :: (u55 74) :: (u55 75) :: (u55 76) :: (u55 77) :: (u55 78) :: (u55 79) :: (u55 80) :: (u55 81) :: (u55 82) :: (u55 83) :: (u55 84) :: (u55 85) :: (u55 86) :: (u55 87) :: (u55 88) :: (u55 89) :: (u55 90) :: (u55 91) :: (u55 92) :: (u55 93) :: (u55 94) :: (u55 95) :: (u55 96) :: (u55 97) :: (u55 98) :: (u55 99) :: (u55 100) :: (u55 101) :: (u55 102) :: (u55 103) :: (u55 104) :: undef :: undef :: undef :: undef :: undef :: undef :: undef :: undef :: undef :: undef :: undef :: undef :: undef :: undef :: undef :: undef :: undef :: undef :: undef :: undef :: undef :: undef :: undef :: undef :: undef :: undef :: undef :: undef :: undef :: undef :: undef :: undef :: undef :: undef :: undef :: undef :: undef :: undef :: undef :: []).toArray, []⟩ ∧ fBoth_L2 N p0 k x107 = some c101 ∧ St [] w0 w [rowE .u8 5 A56 c57 l58, rowE .u8 5 A59 c60 l61]) N ?_ ?_
                · exact ⟨x63, (fun i => List.getD ((u55 24) :: (u55 25) :: (u55 26) :: (u55 27) :: (u55 28) :: (u55 29) :: (u55 30) :: (u55 31) :: (u55 32) :: (u55 33) :: (u55 34) :: (u55 35) :: (u55 36) :: (u55 37) :: (u55 38) :: (u55 39) :: (u55 40) :: (u55 41) :: (u55 42) :: (u55 43) :: (u55 44) :: (u55 45) :: (u55 46) :: (u55 47) :: (u55 48) :: (u55 49) :: (u55 50) :: []) i undef), by kernel_rfl, hE102, hS72⟩
                · rintro k108 _ w104 ⟨x107, u106, rfl, hL109, hS105⟩
                  cases k108 with
                  | zero => cases hL109
                  | succ k108 =>
                    rw [fBoth_L2] at hL109
                    refine gx_seq (fun K110 hK111 => ?_)
                    refine gx_seq (fun K112 hK113 => ?_)
                    refine gd_start (fun w => St [] w0 w [rowE .u8 5 A56 c57 l58, rowE .u8 5 A59 c60 l61]) 25 #[false, false, false, false, false, false, false, false, false, false, false, false, false, false, false, false, false, false, false, false, false, false, false, false, false] (by kernel_rfl) (by kernel_rfl) ?_
                    have hS115 := hS105.drew
                    generalize w104.drew = w114 at hS115 ⊢
                    refine gd1 0 { dst := some 51, op := _, type := _, pos := _, after := _, guard := _ } (.int .i64 x107) rfl hS115 (fun w hSw => by kernel_rfl) ?_
                    refine gd1 1 { dst := some 52, op := _, type := _, pos := _, after := _, guard := _ } (.int .i64 (IntKind.i64.wrap (x107 + 1))) rfl hS115 (fun w hSw => by kernel_rfl) ?_
                    refine gd1 2 { dst := some 53, op := _, type := _, pos := _, after := _, guard := _ } (.slice A0 p0.length c0) rfl hS115 (fun w hSw => by kernel_rfl) ?_
                    refine gd1 3 { dst := some 54, op := _, type := _, pos := _, after := _, guard := _ } (.int .i64 ((p0.length : Nat) : Int)) rfl hS115 (fun w hSw => by kernel_rfl) ?_
                    rcases if_in hL109 with ⟨h116, hL109⟩ | ⟨h116, hL109⟩
                    · refine gd1 4 { dst := some 55, op := _, type := _, pos := _, after := _, guard := _ } (.bool true) rfl hS115 (fun w hSw => run_boolE (decide_eq_true h116) (by kernel_rfl)) ?_
                      refine gd1 5 { dst := some 56, op := _, type := _, pos := _, after := _, guard := _ } (.bool true) rfl hS115 (fun w hSw => by kernel_rfl) ?_
                      refine gd1 6 { dst := some 57, op := _, type := _, pos := _, after := _, guard := _ } (.slice A0 p0.length c0) rfl hS115 (fun w hSw => by kernel_rfl) ?_
                      refine gd1 7 { dst := some 58, op := _, type := _, pos := _, after := _, guard := _ } (.int .i64 x107) rfl hS115 (fun w hSw => by kernel_rfl) ?_
                      obtain ⟨x117, hx118, hL109⟩ := bind_in hL109
                      refine gd1 8 { dst := some 59, op := _, type := _, pos := _, after := _, guard := _ } (.pointer (Option.map (fun p => p.add (Int.toNat x107 * 1)) A0)) rfl hS115 (fun w hSw => run_ixaddr (E := 49) (s := 1) (k := .i64) (c := c0) rfl (by kernel_rfl) (by kernel_rfl) (by kernel_rfl) (fun _ => by kernel_rfl) (ix_in hx118).1 (ix_in hx118).2.1 (num_nil (hSw.view hv0))) ?_
                      refine gd1 9 { dst := some 60, op := _, type := _, pos := _, after := _, guard := _ } (.int .u16 x117) rfl hS115 (fun w hSw => run_loadix rfl (by kernel_rfl) (fun _ => by kernel_rfl) (hSw.view hv0) hx118) ?_
                      rcases if_in hL109 with ⟨h119, hL109⟩ | ⟨h119, hL109⟩
                      · refine gd1 10 { dst := some 61, op := _, type := _, pos := _, after := _, guard := _ } (.bool true) rfl hS115 (fun w hSw => run_boolE (decide_eq_true h119) (by kernel_rfl)) ?_
                        refine gd1 11 { dst := some 62, op := _, type := _, pos := _, after := _, guard := _ } (.bool true) rfl hS115 (fun w hSw => by kernel_rfl) ?_
                        refine gd1 12 { dst := some 63, op := _, type := _, pos := _, after := _, guard := _ } (.bool true) rfl hS115 (fun w hSw => by kernel_rfl) ?_
                        refine gd1 13 { dst := some 64, op := _, type := _, pos := _, after := _, guard := _ } (.slice A0 p0.length c0) rfl hS115 (fun w hSw => by kernel_rfl) ?_
                        refine gd1 14 { dst := some 65, op := _, type := _, pos := _, after := _, guard := _ } (.int .i64 x107) rfl hS115 (fun w hSw => by kernel_rfl) ?_
                        refine gd1 15 { dst := some 66, op := _, type := _, pos := _, after := _, guard := _ } (.int .i64 (IntKind.i64.wrap (x107 + 1))) rfl hS115 (fun w hSw => by kernel_rfl) ?_
                        obtain ⟨x120, hx121, hL109⟩ := bind_in hL109
                        refine gd1 16 { dst := some 67, op := _, type := _, pos := _, after := _, guard := _ } (.pointer (Option.map (fun p => p.add (Int.toNat (IntKind.i64.wrap (x107 + 1)) * 1)) A0)) rfl hS115 (fun w hSw => run_ixaddr (E := 49) (s := 1) (k := .i64) (c := c0) rfl (by kernel_rfl) (by kernel_rfl) (by kernel_rfl) (fun _ => by kernel_rfl) (ix_in hx121).1 (ix_in hx121).2.1 (num_nil (hSw.view hv0))) ?_
                        refine gd1 17 { dst := some 68, op := _, type := _, pos := _, after := _, guard := _ } (.int .u16 x120) rfl hS115 (fun w hSw => run_loadix rfl (by kernel_rfl) (fun _ => by kernel_rfl) (hSw.view hv0) hx121) ?_
                        refine gd1 18 { dst := some 69, op := _, type := _, pos := _, after := _, guard := _ } (.slice A0 p0.length c0) rfl hS115 (fun w hSw => by kernel_rfl) ?_
                        refine gd1 19 { dst := some 70, op := _, type := _, pos := _, after := _, guard := _ } (.int .i64 x107) rfl hS115 (fun w hSw => by kernel_rfl) ?_
                        obtain ⟨x122, hx123, hL109⟩ := bind_in hL109
                        refine gd1 20 { dst := some 71, op := _, type := _, pos := _, after := _, guard := _ } (.pointer (Option.map (fun p => p.add (Int.toNat x107 * 1)) A0)) rfl hS115 (fun w hSw => run_ixaddr (E := 49) (s := 1) (k := .i64) (c := c0) rfl (by kernel_rfl) (by kernel_rfl) (by kernel_rfl) (fun _ => by kernel_rfl) (ix_in hx123).1 (ix_in hx123).2.1 (num_nil (hSw.view hv0))) ?_
                        refine gd1 21 { dst := some 72, op := _, type := _, pos := _, after := _, guard := _ } (.int .u16 x122) rfl hS115 (fun w hSw => run_loadix rfl (by kernel_rfl) (fun _ => by kernel_rfl) (hSw.view hv0) hx123) ?_
                        refine gd1 22 { dst := some 73, op := _, type := _, pos := _, after := _, guard := _ } (.int .u16 (IntKind.u16.wrap (x122 + 1))) rfl hS115 (fun w hSw => by kernel_rfl) ?_
                        rcases if_in hL109 with ⟨h124, hL109⟩ | ⟨h124, hL109⟩
                        · refine gd1 23 { dst := some 74, op := _, type := _, pos := _, after := _, guard := _ } (.bool true) rfl hS115 (fun w hSw => run_boolE (decide_eq_true h124) (by kernel_rfl)) ?_
                          refine gd1 24 { dst := some 75, op := _, type := _, pos := _, after := _, guard := _ } (.bool true) rfl hS115 (fun w hSw => by kernel_rfl) ?_
                          refine gd_done (by kernel_rfl) ?_
                          refine gx_thenN ?_
                          refine hK113 _ _ ?_
                          refine gx_yes (by kernel_rfl) ?_
                          refine gx_pass ?_
                          refine gx_thenN ?_
                          refine hK111 _ _ ?_
                          refine gx_block ?_
                          refine gx_region ?_
                          refine gx_val (.int .i64 x107) w114 (by kernel_rfl) (by kernel_rfl) ?_
                          refine gx_val (.int .i64 (IntKind.i64.wrap (x107 + 1))) w114 (by kernel_rfl) (by kernel_rfl) ?_
                          refine gx_val (.int .i64 (IntKind.i64.wrap (x107 + 1))) w114 (by kernel_rfl) (by kernel_rfl) ?_
                          refine gx_nil ?_
                          refine gx_blkN ?_
                          refine gx_thenN ?_
                          exact ⟨k108, Nat.lt_succ_self k108, (IntKind.i64.wrap (x107 + 1)), (fun i => List.getD ((.int .i64 x107) :: (.int .i64 (IntKind.i64.wrap (x107 + 1))) :: (.slice A0 p0.length c0) :: (.int .i64 ((p0.length : Nat) : Int)) :: (.bool true) :: (.bool true) :: (.slice A0 p0.length c0) :: (.int .i64 x107) :: (.pointer (Option.map (fun p => p.add (Int.toNat x107 * 1)) A0)) :: (.int .u16 x117) :: (.bool true) :: (.bool true) :: (.bool true) :: (.slice A0 p0.length c0) :: (.int .i64 x107) :: (.int .i64 (IntKind.i64.wrap (x107 + 1))) :: (.pointer (Option.map (fun p => p.add (Int.toNat (IntKind.i64.wrap (x107 + 1)) * 1)) A0)) :: (.int .u16 x120) :: (.slice A0 p0.length c0) :: (.int .i64 x107) :: (.pointer (Option.map (fun p => p.add (Int.toNat x107 * 1)) A0)) :: (.int .u16 x122) :: (.int .u16 (IntKind.u16.wrap (x122 + 1))) :: (.bool true) :: (.bool true) :: (.int .i64 x107) :: (.int .i64 (IntKind.i64.wrap (x107 + 1))) :: []) i undef), by kernel_rfl, hL109, hS115⟩
                        · refine gd1 23 { dst := some 74, op := _, type := _, pos := _, after := _, guard := _ } (.bool false) rfl hS115 (fun w hSw => run_boolE (decide_eq_false h124) (by kernel_rfl)) ?_
                          refine gd1 24 { dst := some 75, op := _, type := _, pos := _, after := _, guard := _ } (.bool false) rfl hS115 (fun w hSw => by kernel_rfl) ?_
                          refine gd_done (by kernel_rfl) ?_
                          refine gx_thenN ?_
                          refine hK113 _ _ ?_
                          refine gx_no (by kernel_rfl) ?_
                          refine gx_exit ?_
                          refine gx_thenE ?_
                          refine gx_thenE ?_
                          refine gx_blkE ?_
                          refine gx_thenN ?_
                          exact ⟨x107, (fun i => List.getD ((.int .i64 x107) :: (.int .i64 (IntKind.i64.wrap (x107 + 1))) :: (.slice A0 p0.length c0) :: (.int .i64 ((p0.length : Nat) : Int)) :: (.bool true) :: (.bool true) :: (.slice A0 p0.length c0) :: (.int .i64 x107) :: (.pointer (Option.map (fun p => p.add (Int.toNat x107 * 1)) A0)) :: (.int .u16 x117) :: (.bool true) :: (.bool true) :: (.bool true) :: (.slice A0 p0.length c0) :: (.int .i64 x107) :: (.int .i64 (IntKind.i64.wrap (x107 + 1))) :: (.pointer (Option.map (fun p => p.add (Int.toNat (IntKind.i64.wrap (x107 + 1)) * 1)) A0)) :: (.int .u16 x120) :: (.slice A0 p0.length c0) :: (.int .i64 x107) :: (.pointer (Option.map (fun p => p.add (Int.toNat x107 * 1)) A0)) :: (.int .u16 x122) :: (.int .u16 (IntKind.u16.wrap (x122 + 1))) :: (.bool false) :: (.bool false) :: (u106 25) :: (u106 26) :: []) i undef), by kernel_rfl, (Option.some.inj hL109), hS115⟩
                      · refine gd1 10 { dst := some 61, op := _, type := _, pos := _, after := _, guard := _ } (.bool false) rfl hS115 (fun w hSw => run_boolE (decide_eq_false h119) (by kernel_rfl)) ?_
                        refine gd1 11 { dst := some 62, op := _, type := _, pos := _, after := _, guard := _ } (.bool false) rfl hS115 (fun w hSw => by kernel_rfl) ?_
                        refine gd1 12 { dst := some 63, op := _, type := _, pos := _, after := _, guard := _ } (.bool false) rfl hS115 (fun w hSw => by kernel_rfl) ?_
                        refine gd0 13 { dst := some 64, op := _, type := _, pos := _, after := _, guard := _ } rfl hS115 ?_
                        refine gd0 14 { dst := some 65, op := _, type := _, pos := _, after := _, guard := _ } rfl hS115 ?_
                        refine gd0 15 { dst := some 66, op := _, type := _, pos := _, after := _, guard := _ } rfl hS115 ?_
                        refine gd0 16 { dst := some 67, op := _, type := _, pos := _, after := _, guard := _ } rfl hS115 ?_
                        refine gd0 17 { dst := some 68, op := _, type := _, pos := _, after := _, guard := _ } rfl hS115 ?_
                        refine gd0 18 { dst := some 69, op := _, type := _, pos := _, after := _, guard := _ } rfl hS115 ?_
                        refine gd0 19 { dst := some 70, op := _, type := _, pos := _, after := _, guard := _ } rfl hS115 ?_
                        refine gd0 20 { dst := some 71, op := _, type := _, pos := _, after := _, guard := _ } rfl hS115 ?_
                        refine gd0 21 { dst := some 72, op := _, type := _, pos := _, after := _, guard := _ } rfl hS115 ?_
                        refine gd0 22 { dst := some 73, op := _, type := _, pos := _, after := _, guard := _ } rfl hS115 ?_
                        refine gd0 23 { dst := some 74, op := _, type := _, pos := _, after := _, guard := _ } rfl hS115 ?_
                        refine gd1 24 { dst := some 75, op := _, type := _, pos := _, after := _, guard := _ } (.bool false) rfl hS115 (fun w hSw => by kernel_rfl) ?_
                        refine gd_done (by kernel_rfl) ?_
                        refine gx_thenN ?_
                        refine hK113 _ _ ?_
                        refine gx_no (by kernel_rfl) ?_
                        refine gx_exit ?_
                        refine gx_thenE ?_
                        refine gx_thenE ?_
                        refine gx_blkE ?_
                        refine gx_thenN ?_
                        exact ⟨x107, (fun i => List.getD ((.int .i64 x107) :: (.int .i64 (IntKind.i64.wrap (x107 + 1))) :: (.slice A0 p0.length c0) :: (.int .i64 ((p0.length : Nat) : Int)) :: (.bool true) :: (.bool true) :: (.slice A0 p0.length c0) :: (.int .i64 x107) :: (.pointer (Option.map (fun p => p.add (Int.toNat x107 * 1)) A0)) :: (.int .u16 x117) :: (.bool false) :: (.bool false) :: (.bool false) :: undef :: undef :: undef :: undef :: undef :: undef :: undef :: undef :: undef :: undef :: undef :: (.bool false) :: (u106 25) :: (u106 26) :: []) i undef), by kernel_rfl, (Option.some.inj hL109), hS115⟩
                    · refine gd1 4 { dst := some 55, op := _, type := _, pos := _, after := _, guard := _ } (.bool false) rfl hS115 (fun w hSw => run_boolE (decide_eq_false h116) (by kernel_rfl)) ?_
                      refine gd1 5 { dst := some 56, op := _, type := _, pos := _, after := _, guard := _ } (.bool false) rfl hS115 (fun w hSw => by kernel_rfl) ?_
                      refine gd0 6 { dst := some 57, op := _, type := _, pos := _, after := _, guard := _ } rfl hS115 ?_
                      refine gd0 7 { dst := some 58, op := _, type := _, pos := _, after := _, guard := _ } rfl hS115 ?_
                      refine gd0 8 { dst := some 59, op := _, type := _, pos := _, after := _, guard := _ } rfl hS115 ?_
                      refine gd0 9 { dst := some 60, op := _, type := _, pos := _, after := _, guard := _ } rfl hS115 ?_
                      refine gd0 10 { dst := some 61, op := _, type := _, pos := _, after := _, guard := _ } rfl hS115 ?_
                      refine gd1 11 { dst := some 62, op := _, type := _, pos := _, after := _, guard := _ } (.bool false) rfl hS115 (fun w hSw => by kernel_rfl) ?_
                      refine gd1 12 { dst := some 63, op := _, type := _, pos := _, after := _, guard := _ } (.bool false) rfl hS115 (fun w hSw => by kernel_rfl) ?_
                      refine gd0 13 { dst := some 64, op := _, type := _, pos := _, after := _, guard := _ } rfl hS115 ?_
                      refine gd0 14 { dst := some 65, op := _, type := _, pos := _, after := _, guard := _ } rfl hS115 ?_
                      refine gd0 15 { dst := some 66, op := _, type := _, pos := _, after := _, guard := _ } rfl hS115 ?_
                      refine gd0 16 { dst := some 67, op := _, type := _, pos := _, after := _, guard := _ } rfl hS115 ?_
                      refine gd0 17 { dst := some 68, op := _, type := _, pos := _, after := _, guard := _ } rfl hS115 ?_
                      refine gd0 18 { dst := some 69, op := _, type := _, pos := _, after := _, guard := _ } rfl hS115 ?_
                      refine gd0 19 { dst := some 70, op := _, type := _, pos := _, after := _, guard := _ } rfl hS115 ?_
                      refine gd0 20 { dst := some 71, op := _, type := _, pos := _, after := _, guard := _ } rfl hS115 ?_
                      refine gd0 21 { dst := some 72, op := _, type := _, pos := _, after := _, guard := _ } rfl hS115 ?_
                      refine gd0 22 { dst := some 73, op := _, type := _, pos := _, after := _, guard := _ } rfl hS115 ?_
                      refine gd0 23 { dst := some 74, op := _, type := _, pos := _, after := _, guard := _ } rfl hS115 ?_
                      refine gd1 24 { dst := some 75, op := _, type := _, pos := _, after := _, guard := _ } (.bool false) rfl hS115 (fun w hSw => by kernel_rfl) ?_
                      refine gd_done (by kernel_rfl) ?_
                      refine gx_thenN ?_
                      refine hK113 _ _ ?_
                      refine gx_no (by kernel_rfl) ?_
                      refine gx_exit ?_
                      refine gx_thenE ?_
                      refine gx_thenE ?_
                      refine gx_blkE ?_
                      refine gx_thenN ?_
                      exact ⟨x107, (fun i => List.getD ((.int .i64 x107) :: (.int .i64 (IntKind.i64.wrap (x107 + 1))) :: (.slice A0 p0.length c0) :: (.int .i64 ((p0.length : Nat) : Int)) :: (.bool false) :: (.bool false) :: undef :: undef :: undef :: undef :: undef :: (.bool false) :: (.bool false) :: undef :: undef :: undef :: undef :: undef :: undef :: undef :: undef :: undef :: undef :: undef :: (.bool false) :: (u106 25) :: (u106 26) :: []) i undef), by kernel_rfl, (Option.some.inj hL109), hS115⟩
              · rintro _ w97 ⟨x100, u99, rfl, rfl, hS98⟩
                try dsimp only at hO103
                refine gx_seq (fun K125 hK126 => ?_)
                refine gd_start (fun w => St [] w0 w [rowE .u8 5 A56 c57 l58]) 31 #[false, false, false, false, false, false, false, false, false, false, false, false, false, false, false, false, false, false, false, false, false, false, false, false, false, false, false, false, false, false, false] (by kernel_rfl) (by kernel_rfl) ?_
                have hS128 := hS98.drew
                generalize w97.drew = w127 at hS128 ⊢
                refine gd1 0 { dst := some 78, op := _, type := _, pos := _, after := _, guard := _ } (.slice A59 l61.length c60) rfl (hS128.pick [0] rfl rfl) (fun w hSw => by kernel_rfl) ?_
                refine gd1 1 { dst := some 79, op := _, type := _, pos := _, after := _, guard := _ } (.slice A0 p0.length c0) rfl (hS128.pick [0] rfl rfl) (fun w hSw => by kernel_rfl) ?_
                refine gd1 2 { dst := some 80, op := _, type := _, pos := _, after := _, guard := _ } (.int .i64 x63) rfl (hS128.pick [0] rfl rfl) (fun w hSw => by kernel_rfl) ?_
                obtain ⟨x129, hx130, hO103⟩ := bind_in hO103
                refine gd1 3 { dst := some 81, op := _, type := _, pos := _, after := _, guard := _ } (.pointer (Option.map (fun p => p.add (Int.toNat x63 * 1)) A0)) rfl (hS128.pick [0] rfl rfl) (fun w hSw => run_ixaddr (E := 49) (s := 1) (k := .i64) (c := c0) rfl (by kernel_rfl) (by kernel_rfl) (by kernel_rfl) (fun _ => by kernel_rfl) (ix_in hx130).1 (ix_in hx130).2.1 (num_nil (hSw.view hv0))) ?_
                refine gd1 4 { dst := some 82, op := _, type := _, pos := _, after := _, guard := _ } (.int .u16 x129) rfl (hS128.pick [0] rfl rfl) (fun w hSw => run_loadix rfl (by kernel_rfl) (fun _ => by kernel_rfl) (hSw.view hv0) hx130) ?_
                refine gd1 5 { dst := some 83, op := _, type := _, pos := _, after := _, guard := _ } (.int .u16 (Int.fdiv x129 256)) rfl (hS128.pick [0] rfl rfl) (fun w hSw => by kernel_rfl) ?_
                refine gd1 6 { dst := some 84, op := _, type := _, pos := _, after := _, guard := _ } (.int .u8 (IntKind.u8.wrap (Int.fdiv x129 256))) rfl (hS128.pick [0] rfl rfl) (fun w hSw => by kernel_rfl) ?_
                refine gd1 7 { dst := some 85, op := _, type := _, pos := _, after := _, guard := _ } (.slice A0 p0.length c0) rfl (hS128.pick [0] rfl rfl) (fun w hSw => by kernel_rfl) ?_
                refine gd1 8 { dst := some 86, op := _, type := _, pos := _, after := _, guard := _ } (.int .i64 x63) rfl (hS128.pick [0] rfl rfl) (fun w hSw => by kernel_rfl) ?_
                obtain ⟨x131, hx132, hO103⟩ := bind_in hO103
                refine gd1 9 { dst := some 87, op := _, type := _, pos := _, after := _, guard := _ } (.pointer (Option.map (fun p => p.add (Int.toNat x63 * 1)) A0)) rfl (hS128.pick [0] rfl rfl) (fun w hSw => run_ixaddr (E := 49) (s := 1) (k := .i64) (c := c0) rfl (by kernel_rfl) (by kernel_rfl) (by kernel_rfl) (fun _ => by kernel_rfl) (ix_in hx132).1 (ix_in hx132).2.1 (num_nil (hSw.view hv0))) ?_
                refine gd1 10 { dst := some 88, op := _, type := _, pos := _, after := _, guard := _ } (.int .u16 x131) rfl (hS128.pick [0] rfl rfl) (fun w hSw => run_loadix rfl (by kernel_rfl) (fun _ => by kernel_rfl) (hSw.view hv0) hx132) ?_
                refine gd1 11 { dst := some 89, op := _, type := _, pos := _, after := _, guard := _ } (.int .u8 (IntKind.u8.wrap x131)) rfl (hS128.pick [0] rfl rfl) (fun w hSw => by kernel_rfl) ?_
                refine gd1 12 { dst := some 90, op := _, type := _, pos := _, after := _, guard := _ } (.slice A0 p0.length c0) rfl (hS128.pick [0] rfl rfl) (fun w hSw => by kernel_rfl) ?_
                refine gd1 13 { dst := some 91, op := _, type := _, pos := _, after := _, guard := _ } (.int .i64 x100) rfl (hS128.pick [0] rfl rfl) (fun w hSw => by kernel_rfl) ?_
                obtain ⟨x133, hx134, hO103⟩ := bind_in hO103
                refine gd1 14 { dst := some 92, op := _, type := _, pos := _, after := _, guard := _ } (.pointer (Option.map (fun p => p.add (Int.toNat x100 * 1)) A0)) rfl (hS128.pick [0] rfl rfl) (fun w hSw => run_ixaddr (E := 49) (s := 1) (k := .i64) (c := c0) rfl (by kernel_rfl) (by kernel_rfl) (by kernel_rfl) (fun _ => by kernel_rfl) (ix_in hx134).1 (ix_in hx134).2.1 (num_nil (hSw.view hv0))) ?_
                refine gd1 15 { dst := some 93, op := _, type := _, pos := _, after := _, guard := _ } (.int .u16 x133) rfl (hS128.pick [0] rfl rfl) (fun w hSw => run_loadix rfl (by kernel_rfl) (fun _ => by kernel_rfl) (hSw.view hv0) hx134) ?_
                refine gd1 16 { dst := some 94, op := _, type := _, pos := _, after := _, guard := _ } (.int .u16 (Int.fdiv x133 256)) rfl (hS128.pick [0] rfl rfl) (fun w hSw => by kernel_rfl) ?_
                refine gd1 17 { dst := some 95, op := _, type := _, pos := _, after := _, guard := _ } (.int .u8 (IntKind.u8.wrap (Int.fdiv x133 256))) rfl (hS128.pick [0] rfl rfl) (fun w hSw => by kernel_rfl) ?_
                refine gd1 18 { dst := some 96, op := _, type := _, pos := _, after := _, guard := _ } (.slice A0 p0.length c0) rfl (hS128.pick [0] rfl rfl) (fun w hSw => by kernel_rfl) ?_
                refine gd1 19 { dst := some 97, op := _, type := _, pos := _, after := _, guard := _ } (.int .i64 x100) rfl (hS128.pick [0] rfl rfl) (fun w hSw => by kernel_rfl) ?_
                obtain ⟨x135, hx136, hO103⟩ := bind_in hO103
                refine gd1 20 { dst := some 98, op := _, type := _, pos := _, after := _, guard := _ } (.pointer (Option.map (fun p => p.add (Int.toNat x100 * 1)) A0)) rfl (hS128.pick [0] rfl rfl) (fun w hSw => run_ixaddr (E := 49) (s := 1) (k := .i64) (c := c0) rfl (by kernel_rfl) (by kernel_rfl) (by kernel_rfl) (fun _ => by kernel_rfl) (ix_in hx136).1 (ix_in hx136).2.1 (num_nil (hSw.view hv0))) ?_
                refine gd1 21 { dst := some 99, op := _, type := _, pos := _, after := _, guard := _ } (.int .u16 x135) rfl (hS128.pick [0] rfl rfl) (fun w hSw => run_loadix rfl (by kernel_rfl) (fun _ => by kernel_rfl) (hSw.view hv0) hx136) ?_
                refine gd1 22 { dst := some 100, op := _, type := _, pos := _, after := _, guard := _ } (.int .u8 (IntKind.u8.wrap x135)) rfl (hS128.pick [0] rfl rfl) (fun w hSw => by kernel_rfl) ?_
                refine gd1 23 { dst := some 101, op := _, type := _, pos := _, after := _, guard := _ } (.int .i64 x63) rfl (hS128.pick [0] rfl rfl) (fun w hSw => by kernel_rfl) ?_
                refine gd1 24 { dst := some 102, op := _, type := _, pos := _, after := _, guard := _ } (.int .i64 (Int.fdiv x63 256)) rfl (hS128.pick [0] rfl rfl) (fun w hSw => by kernel_rfl) ?_
                refine gd1 25 { dst := some 103, op := _, type := _, pos := _, after := _, guard := _ } (.int .u8 (IntKind.u8.wrap (Int.fdiv x63 256))) rfl (hS128.pick [0] rfl rfl) (fun w hSw => by kernel_rfl) ?_
                refine gd1 26 { dst := some 104, op := _, type := _, pos := _, after := _, guard := _ } (.int .i64 x63) rfl (hS128.pick [0] rfl rfl) (fun w hSw => by kernel_rfl) ?_
                refine gd1 27 { dst := some 105, op := _, type := _, pos := _, after := _, guard := _ } (.int .u8 (IntKind.u8.wrap x63)) rfl (hS128.pick [0] rfl rfl) (fun w hSw => by kernel_rfl) ?_
                refine gdR 28 { dst := some 106, op := _, type := _, pos := _, after := _, guard := _ } rfl (st_made .u8 5 [(IntKind.u8.wrap (Int.fdiv x129 256)), (IntKind.u8.wrap x131), (IntKind.u8.wrap (Int.fdiv x133 256)), (IntKind.u8.wrap x135), (IntKind.u8.wrap (Int.fdiv x63 256)), (IntKind.u8.wrap x63)] hS128 (by show 6 ≤ 1000000000; decide) (by kernel_rfl)) ?_
                rintro _ w137 ⟨rfl, hS138⟩
                have hS138 : St _ _ w137 [rowE .u8 5 A56 c57 l58, rowE .u8 5 A59 c60 l61, rowE .u8 5 (some ⟨w127.heap.size, 0, none⟩) 6 ([(IntKind.u8.wrap (Int.fdiv x129 256)), (IntKind.u8.wrap x131), (IntKind.u8.wrap (Int.fdiv x133 256)), (IntKind.u8.wrap x135), (IntKind.u8.wrap (Int.fdiv x63 256)), (IntKind.u8.wrap x63)])] := hS138
                refine ⟨(hS138.pick [0] rfl rfl), ?_⟩
                obtain ⟨l139, ha140, hO103⟩ := bind_in hO103
                obtain ⟨ha140, hq141⟩ := apx_in ha140
                refine gdR 29 { dst := some 107, op := _, type := _, pos := _, after := _, guard := _ } rfl (st_append rfl (by kernel_rfl) (by kernel_rfl) hS138 1 rfl (hS138.row 2 rfl).1 (hS138.row 2 rfl).2 ha140 (by kernel_rfl) (by kernel_rfl)) ?_
                rintro _ w144 ⟨A142, c143, rfl, hS145⟩
                rw [← hq141] at hS145 ⊢
                have hS145 : St _ _ w144 [rowE .u8 5 A56 c57 l58, rowE .u8 5 A142 c143 l139, rowE .u8 5 (some ⟨w127.heap.size, 0, none⟩) 6 ([(IntKind.u8.wrap (Int.fdiv x129 256)), (IntKind.u8.wrap x131), (IntKind.u8.wrap (Int.fdiv x133 256)), (IntKind.u8.wrap x135), (IntKind.u8.wrap (Int.fdiv x63 256)), (IntKind.u8.wrap x63)])] := hS145
                refine ⟨(hS145.pick [0] rfl rfl), ?_⟩
                refine gd1 30 { dst := some 4, op := _, type := _, pos := _, after := _, guard := _ } (.slice A142 l139.length c143) rfl (hS145.pick [0] rfl rfl) (fun w hSw => by kernel_rfl) ?_
                refine gd_done (by kernel_rfl) ?_
                refine gx_thenN ?_
                refine hK126 _ _ ?_
                obtain ⟨c152, hE153, hO154⟩ := bind_in hO103
                refine gx_cut (fun a w => ∃ (l151 : List Int) (A149 : Option Addr) (c150 : Nat) (u148 : Nat → Value), a = ⟨((.slice A0 p0.length c0) :: undef :: (u73 0) :: (.slice A149 l151.length c150) :: (.slice A142 l139.length c143) :: (.int .i64 x62) :: (.int .i64 x63) :: (.int .i64 x100) :: (u148 0) :: undef :: undef :: undef :: undef :: undef :: (u5 1) :: (u5 2) :: (u5 3) :: (u5 4) :: (u5 5) :: (u5 6) :: (u5 7) :: (u5 8) :: (u5 9) :: (.slice A0 p0.length c0) :: (.int .i64 ((p0.length : Nat) : Int)) :: (.int .i64 (Int.fdiv ((p0.length : Nat) : Int) 256)) :: (.int .u8 (IntKind.u8.wrap (Int.fdiv ((p0.length : Nat) : Int) 256))) :: (.slice A0 p0.length c0) :: (.int .i64 ((p0.length : Nat) : Int)) :: (.int .u8 (IntKind.u8.wrap ((p0.length : Nat) : Int))) :: (u55 3) :: (.int .i64 x63) :: (.slice A0 p0.length c0) :: (.int .i64 ((p0.length : Nat) : Int)) :: (.bool true) :: (u73 1) :: (u73 2) :: (u73 3) :: (u73 4) :: (u73 5) :: (u73 6) :: (u73 7) :: (u73 8) :: (u73 9) :: (u73 10) :: (u73 11) :: (u73 12) :: (u73 13) :: (u73 14) :: (u73 15) :: (.int .i64 x63) :: (u99 0) :: (u99 1) :: (u99 2) :: (u99 3) :: (u99 4) :: (u99 5) :: (u99 6) :: (u99 7) :: (u99 8) :: (u99 9) :: (u99 10) :: (u99 11) :: (u99 12) :: (u99 13) :: (u99 14) :: (u99 15) :: (u99 16) :: (u99 17) :: (u99 18) :: (u99 19) :: (u99 20) :: (u99 21) :: (u99 22) :: (u99 23) :: (u99 24) :: (u99 25) :: (u99 26) :: (u148 1) :: (.slice A0 p0.length c0) :: (.int .i64 x63) :: (.pointer (Option.map (fun p => p.add (Int.toNat x63 * 1)) A0)) :: (.int .u16 x129) :: (.int .u16 (Int.fdiv x129 256)) :: (.int .u8 (IntKind.u8.wrap (Int.fdiv x129 256))) :: (.slice A0 p0.length c0) :: (.int .i64 x63) :: (.pointer (Option.map (fun p => p.add (Int.toNat x63 * 1)) A0)) :: (.int .u16 x131) :: (.int .u8 (IntKind.u8.wrap x131)) :: (.slice A0 p0.length c0) :: (.int .i64 x100) :: (.pointer (Option.map (fun p => p.add (Int.toNat x100 * 1)) A0)) :: (.int .u16 x133) :: (.int .u16 (Int.fdiv x133 256)) :: (.int .u8 (IntKind.u8.wrap (Int.fdiv x133 256))) :: (.slice A0 p0.length c0) :: (.int .i64 x100) :: (.pointer (Option.map (fun p => p.add (Int.toNat x100 * 1)) A0)) :: (.int .u16 x135) :: (.int .u8 (IntKind.u8.wrap x135)) :: (.int .i64 x63) :: (.int .i64 (Int.fdiv x63 256)) :: (.int .u8 (IntKind.u8.wrap (Int.fdiv x63 256))) :: (.int .i64 x63) :: (.int .u8 (IntKind.u8.wrap x63)) :: (u148 2) :: (u148 3) :: (u148 4) :: (u148 5) :: (u148 6) :: (u148 7) :: (u148 8) :: (u148 9) :: (u148 10) :: (u148 11) :: (u148 12) :: (u148 13) :: (u148 14) :: (u148 15) :: (u148 16) :: (u148 17) :: (u148 18) :: (u148 19) :: (u148 20) :: (u148 21) :: (u148 22) :: (u148 23) :: (u55 101) :: (u55 102) :: (u55 103) :: (u55 104) :: undef :: undef :: undef :: undef :: undef :: undef :: undef :: undef :: undef :: undef :: undef :: undef :: undef :: undef :: undef :: undef :: undef :: undef :: undef :: undef :: undef :: undef :: undef :: undef :: undef :: undef :: undef :: undef :: undef :: undef :: undef :: undef :: undef :: undef :: undef :: undef :: undef :: undef :: undef :: []).toArray, []⟩ ∧ l151 = c152 ∧ St [] w0 w [rowE .u8 5 A149 c150 l151, rowE .u8 5 A142 c143 l139]) ?_ ?_
                · refine gx_seq (fun K155 hK156 => ?_)
                  refine gx_region ?_
                  refine gx_val (.int .i64 x63) w144 (by kernel_rfl) (by kernel_rfl) ?_
                  refine gx_val (.int .i64 x63) w144 (by kernel_rfl) (by kernel_rfl) ?_
                  refine gx_nil ?_
                  refine gx_thenN ?_
                  refine hK156 _ _ ?_
                  refine gx_block ?_
                  refine gx_loop (fun k a w => ∃ (l162 : List Int) (x163 : Int) (A160 : Option Addr) (c161 : Nat) (u159 : Nat → Value), a = ⟨((.slice A0 p0.length c0) :: undef :: (u73 0) :: (.slice A160 l162.length c161) :: (.slice A142 l139.length c143) :: (.int .i64 x62) :: (.int .i64 x63) :: (.int .i64 x100) :: (.int .i64 x163) :: undef :: undef :: undef :: undef :: undef :: (u5 1) :: (u5 2) :: (u5 3) :: (u5 4) :: (u5 5) :: (u5 6) :: (u5 7) :: (u5 8) :: (u5 9) :: (.slice A0 p0.length c0) :: (.int .i64 ((p0.length : Nat) : Int)) :: (.int .i64 (Int.fdiv ((p0.length : Nat) : Int) 256)) :: (.int .u8 (IntKind.u8.wrap (Int.fdiv ((p0.length : Nat) : Int) 256))) :: (.slice A0 p0.length c0) :: (.int .i64 ((p0.length : Nat) : Int)) :: (.int .u8 (IntKind.u8.wrap ((p0.length : Nat) : Int))) :: (u55 3) :: (.int .i64 x63) :: (.slice A0 p0.length c0) :: (.int .i64 ((p0.length : Nat) : Int)) :: (.bool true) :: (u73 1) :: (u73 2) :: (u73 3) :: (u73 4) :: (u73 5) :: (u73 6) :: (u73 7) :: (u73 8) :: (u73 9) :: (u73 10) :: (u73 11) :: (u73 12) :: (u73 13) :: (u73 14) :: (u73 15) :: (.int .i64 x63) :: (u99 0) :: (u99 1) :: (u99 2) :: (u99 3) :: (u99 4) :: (u99 5) :: (u99 6) :: (u99 7) :: (u99 8) :: (u99 9) :: (u99 10) :: (u99 11) :: (u99 12) :: (u99 13) :: (u99 14) :: (u99 15) :: (u99 16) :: (u99 17) :: (u99 18) :: (u99 19) :: (u99 20) :: (u99 21) :: (u99 22) :: (u99 23) :: (u99 24) :: (u99 25) :: (u99 26) :: (u159 0) :: (.slice A0 p0.length c0) :: (.int .i64 x63) :: (.pointer (Option.map (fun p => p.add (Int.toNat x63 * 1)) A0)) :: (.int .u16 x129) :: (.int .u16 (Int.fdiv x129 256)) :: (.int .u8 (IntKind.u8.wrap (Int.fdiv x129 256))) :: (.slice A0 p0.length c0) :: (.int .i64 x63) :: (.pointer (Option.map (fun p => p.add (Int.toNat x63 * 1)) A0)) :: (.int .u16 x131) :: (.int .u8 (IntKind.u8.wrap x131)) :: (.slice A0 p0.length c0) :: (.int .i64 x100) :: (.pointer (Option.map (fun p => p.add (Int.toNat x100 * 1)) A0)) :: (.int .u16 x133) :: (.int .u16 (Int.fdiv x133 256)) :: (.int .u8 (IntKind.u8.wrap (Int.fdiv x133 256))) :: (.slice A0 p0.length c0) :: (.int .i64 x100) :: (.pointer (Option.map (fun p => p.add (Int.toNat x100 * 1)) A0)) :: (.int .u16 x135) :: (.int .u8 (IntKind.u8.wrap x135)) :: (.int .i64 x63) :: (.int .i64 (Int.fdiv x63 256)) :: (.int .u8 (IntKind.u8.wrap (Int.fdiv x63 256))) :: (.int .i64 x63) :: (.int .u8 (IntKind.u8.wrap x63)) :: (u159 1) :: (u159 2) :: (.int .i64 x63) :: (u159 3) :: (u159 4) :: (u159 5) :: (u159 6) :: (u159 7) :: (u159 8) :: (u159 9) :: (u159 10) :: (u159 11) :: (u159 12) :: (u159 13) :: (u159 14) :: (u159 15) :: (u159 16) :: (u159 17) :: (u159 18) :: (u159 19) :: (u159 20) :: (u159 21) :: (u55 101) :: (u55 102) :: (u55 103) :: (u55 104) :: undef :: undef :: undef :: undef :: undef :: undef :: undef :: undef :: undef :: undef :: undef :: undef :: undef :: undef :: undef :: undef :: undef :: undef :: undef :: undef :: undef :: undef :: undef :: undef :: undef :: undef :: undef :: undef :: undef :: undef :: undef :: undef :: undef :: undef :: undef :: undef :: undef :: undef :: undef :: []).toArray, []⟩ ∧ fBoth_L3 N p0 x100 k l162 x163 = some c152 ∧ St [] w0 w [rowE .u8 5 A160 c161 l162, rowE .u8 5 A142 c143 l139]) N ?_ ?_
                  · exact ⟨l58, x63, A56, c57, (fun i => List.getD ((.slice A59 l61.length c60) :: (.slice (some ⟨w127.heap.size, 0, none⟩) (([(IntKind.u8.wrap (Int.fdiv x129 256)), (IntKind.u8.wrap x131), (IntKind.u8.wrap (Int.fdiv x133 256)), (IntKind.u8.wrap x135), (IntKind.u8.wrap (Int.fdiv x63 256)), (IntKind.u8.wrap x63)]).length) 6) :: (.slice A142 l139.length c143) :: (u55 82) :: (u55 83) :: (u55 84) :: (u55 85) :: (u55 86) :: (u55 87) :: (u55 88) :: (u55 89) :: (u55 90) :: (u55 91) :: (u55 92) :: (u55 93) :: (u55 94) :: (u55 95) :: (u55 96) :: (u55 97) :: (u55 98) :: (u55 99) :: (u55 100) :: []) i undef), by kernel_rfl, hE153, (hS145.pick [0, 1] rfl rfl)⟩
                  · rintro k164 _ w157 ⟨l162, x163, A160, c161, u159, rfl, hL165, hS158⟩
                    cases k164 with
                    | zero => cases hL165
                    | succ k164 =>
                      rw [fBoth_L3] at hL165
                      refine gx_seq (fun K166 hK167 => ?_)
                      refine gx_seq (fun K168 hK169 => ?_)
                      refine gx_region ?_
                      refine gx_val (.int .i64 x163) w157 (by kernel_rfl) (by kernel_rfl) ?_
                      refine gx_val (.int .i64 x100) w157 (by kernel_rfl) (by kernel_rfl) ?_
                      rcases if_in hL165 with ⟨h170, hL165⟩ | ⟨h170, hL165⟩
                      · refine gx_val (.bool true) w157 (by kernel_rfl) (run_boolE (decide_eq_true h170) (by kernel_rfl)) ?_
                        refine gx_nil ?_
                        refine gx_thenN ?_
                        refine hK169 _ _ ?_
                        refine gx_yes (by kernel_rfl) ?_
                        refine gx_pass ?_
                        refine gx_thenN ?_
                        refine hK167 _ _ ?_
                        refine gx_seq (fun K171 hK172 => ?_)
                        refine gx_block ?_
                        refine gd_start (fun w => St [] w0 w [rowE .u8 5 A142 c143 l139]) 15 #[false, false, false, false, false, false, false, false, false, false, false, false, false, false, false] (by kernel_rfl) (by kernel_rfl) ?_
                        have hS174 := hS158.drew
                        generalize w157.drew = w173 at hS174 ⊢
                        refine gd1 0 { dst := some 114, op := _, type := _, pos := _, after := _, guard := _ } (.slice A160 l162.length c161) rfl (hS174.pick [1] rfl rfl) (fun w hSw => by kernel_rfl) ?_
                        refine gd1 1 { dst := some 115, op := _, type := _, pos := _, after := _, guard := _ } (.slice A0 p0.length c0) rfl (hS174.pick [1] rfl rfl) (fun w hSw => by kernel_rfl) ?_
                        refine gd1 2 { dst := some 116, op := _, type := _, pos := _, after := _, guard := _ } (.int .i64 x163) rfl (hS174.pick [1] rfl rfl) (fun w hSw => by kernel_rfl) ?_
                        obtain ⟨x175, hx176, hL165⟩ := bind_in hL165
                        refine gd1 3 { dst := some 117, op := _, type := _, pos := _, after := _, guard := _ } (.pointer (Option.map (fun p => p.add (Int.toNat x163 * 1)) A0)) rfl (hS174.pick [1] rfl rfl) (fun w hSw => run_ixaddr (E := 49) (s := 1) (k := .i64) (c := c0) rfl (by kernel_rfl) (by kernel_rfl) (by kernel_rfl) (fun _ => by kernel_rfl) (ix_in hx176).1 (ix_in hx176).2.1 (num_nil (hSw.view hv0))) ?_
                        refine gd1 4 { dst := some 118, op := _, type := _, pos := _, after := _, guard := _ } (.int .u16 x175) rfl (hS174.pick [1] rfl rfl) (fun w hSw => run_loadix rfl (by kernel_rfl) (fun _ => by kernel_rfl) (hSw.view hv0) hx176) ?_
                        refine gd1 5 { dst := some 119, op := _, type := _, pos := _, after := _, guard := _ } (.int .u16 (Int.fdiv x175 256)) rfl (hS174.pick [1] rfl rfl) (fun w hSw => by kernel_rfl) ?_
                        refine gd1 6 { dst := some 120, op := _, type := _, pos := _, after := _, guard := _ } (.int .u8 (IntKind.u8.wrap (Int.fdiv x175 256))) rfl (hS174.pick [1] rfl rfl) (fun w hSw => by kernel_rfl) ?_
                        refine gd1 7 { dst := some 121, op := _, type := _, pos := _, after := _, guard := _ } (.slice A0 p0.length c0) rfl (hS174.pick [1] rfl rfl) (fun w hSw => by kernel_rfl) ?_
                        refine gd1 8 { dst := some 122, op := _, type := _, pos := _, after := _, guard := _ } (.int .i64 x163) rfl (hS174.pick [1] rfl rfl) (fun w hSw => by kernel_rfl) ?_
                        obtain ⟨x177, hx178, hL165⟩ := bind_in hL165
                        refine gd1 9 { dst := some 123, op := _, type := _, pos := _, after := _, guard := _ } (.pointer (Option.map (fun p => p.add (Int.toNat x163 * 1)) A0)) rfl (hS174.pick [1] rfl rfl) (fun w hSw => run_ixaddr (E := 49) (s := 1) (k := .i64) (c := c0) rfl (by kernel_rfl) (by kernel_rfl) (by kernel_rfl) (fun _ => by kernel_rfl) (ix_in hx178).1 (ix_in hx178).2.1 (num_nil (hSw.view hv0))) ?_
                        refine gd1 10 { dst := some 124, op := _, type := _, pos := _, after := _, guard := _ } (.int .u16 x177) rfl (hS174.pick [1] rfl rfl) (fun w hSw => run_loadix rfl (by kernel_rfl) (fun _ => by kernel_rfl) (hSw.view hv0) hx178) ?_
                        refine gd1 11 { dst := some 125, op := _, type := _, pos := _, after := _, guard := _ } (.int .u8 (IntKind.u8.wrap x177)) rfl (hS174.pick [1] rfl rfl) (fun w hSw => by kernel_rfl) ?_
                        refine gdR 12 { dst := some 126, op := _, type := _, pos := _, after := _, guard := _ } rfl (st_made .u8 5 [(IntKind.u8.wrap (Int.fdiv x175 256)), (IntKind.u8.wrap x177)] hS174 (by show 2 ≤ 1000000000; decide) (by kernel_rfl)) ?_
                        rintro _ w179 ⟨rfl, hS180⟩
                        have hS180 : St _ _ w179 [rowE .u8 5 A160 c161 l162, rowE .u8 5 A142 c143 l139, rowE .u8 5 (some ⟨w173.heap.size, 0, none⟩) 2 ([(IntKind.u8.wrap (Int.fdiv x175 256)), (IntKind.u8.wrap x177)])] := hS180
                        refine ⟨(hS180.pick [1] rfl rfl), ?_⟩
                        obtain ⟨l181, ha182, hL165⟩ := bind_in hL165
                        obtain ⟨ha182, hq183⟩ := apx_in ha182
                        refine gdR 13 { dst := some 127, op := _, type := _, pos := _, after := _, guard := _ } rfl (st_append rfl (by kernel_rfl) (by kernel_rfl) hS180 0 rfl (hS180.row 2 rfl).1 (hS180.row 2 rfl).2 ha182 (by kernel_rfl) (by kernel_rfl)) ?_
                        rintro _ w186 ⟨A184, c185, rfl, hS187⟩
                        rw [← hq183] at hS187 ⊢
                        have hS187 : St _ _ w186 [rowE .u8 5 A184 c185 l181, rowE .u8 5 A142 c143 l139, rowE .u8 5 (some ⟨w173.heap.size, 0, none⟩) 2 ([(IntKind.u8.wrap (Int.fdiv x175 256)), (IntKind.u8.wrap x177)])] := hS187
                        refine ⟨(hS187.pick [1] rfl rfl), ?_⟩
                        refine gd1 14 { dst := some 3, op := _, type := _, pos := _, after := _, guard := _ } (.slice A184 l181.length c185) rfl (hS187.pick [1] rfl rfl) (fun w hSw => by kernel_rfl) ?_
                        refine gd_done (by kernel_rfl) ?_
                        refine gx_blkN ?_
                        refine gx_thenN ?_
                        refine hK172 _ _ ?_
                        refine gx_region ?_
                        refine gx_val (.int .i64 x163) w186 (by kernel_rfl) (by kernel_rfl) ?_
                        refine gx_val (.int .i64 (IntKind.i64.wrap (x163 + 1))) w186 (by kernel_rfl) (by kernel_rfl) ?_
                        refine gx_val (.int .i64 (IntKind.i64.wrap (x163 + 1))) w186 (by kernel_rfl) (by kernel_rfl) ?_
                        refine gx_nil ?_
                        refine gx_thenN ?_
                        exact ⟨k164, Nat.lt_succ_self k164, l181, (IntKind.i64.wrap (x163 + 1)), A184, c185, (fun i => List.getD ((u159 0) :: (u159 1) :: (u159 2) :: (.int .i64 x163) :: (.int .i64 x100) :: (.bool true) :: (.int .i64 x163) :: (.int .i64 (IntKind.i64.wrap (x163 + 1))) :: (.slice A160 l162.length c161) :: (.slice A0 p0.length c0) :: (.int .i64 x163) :: (.pointer (Option.map (fun p => p.add (Int.toNat x163 * 1)) A0)) :: (.int .u16 x175) :: (.int .u16 (Int.fdiv x175 256)) :: (.int .u8 (IntKind.u8.wrap (Int.fdiv x175 256))) :: (.slice A0 p0.length c0) :: (.int .i64 x163) :: (.pointer (Option.map (fun p => p.add (Int.toNat x163 * 1)) A0)) :: (.int .u16 x177) :: (.int .u8 (IntKind.u8.wrap x177)) :: (.slice (some ⟨w173.heap.size, 0, none⟩) (([(IntKind.u8.wrap (Int.fdiv x175 256)), (IntKind.u8.wrap x177)]).length) 2) :: (.slice A184 l181.length c185) :: []) i undef), by kernel_rfl, hL165, (hS187.pick [0, 1] rfl rfl)⟩
                      · refine gx_val (.bool false) w157 (by kernel_rfl) (run_boolE (decide_eq_false h170) (by kernel_rfl)) ?_
                        refine gx_nil ?_
                        refine gx_thenN ?_
                        refine hK169 _ _ ?_
                        refine gx_no (by kernel_rfl) ?_
                        refine gx_exit ?_
                        refine gx_thenE ?_
                        refine gx_thenE ?_
                        refine gx_blkE ?_
                        refine gx_thenN ?_
                        exact ⟨l162, A160, c161, (fun i => List.getD ((.int .i64 x163) :: (u159 0) :: (u159 1) :: (u159 2) :: (.int .i64 x63) :: (.int .i64 x163) :: (.int .i64 x100) :: (.bool false) :: (u159 6) :: (u159 7) :: (u159 8) :: (u159 9) :: (u159 10) :: (u159 11) :: (u159 12) :: (u159 13) :: (u159 14) :: (u159 15) :: (u159 16) :: (u159 17) :: (u159 18) :: (u159 19) :: (u159 20) :: (u159 21) :: []) i undef), by kernel_rfl, (Option.some.inj hL165), hS158⟩
                · rintro _ w146 ⟨l151, A149, c150, u148, rfl, rfl, hS147⟩
                  try dsimp only at hO154
                  refine gx_seq (fun K188 hK189 => ?_)
                  refine gx_region ?_
                  refine gx_val (.int .i64 x62) w146 (by kernel_rfl) (by kernel_rfl) ?_
                  refine gx_val (.int .i64 (IntKind.i64.wrap (x62 + 1))) w146 (by kernel_rfl) (by kernel_rfl) ?_
                  refine gx_val (.int .i64 (IntKind.i64.wrap (x62 + 1))) w146 (by kernel_rfl) (by kernel_rfl) ?_
                  refine gx_nil ?_
                  refine gx_thenN ?_
                  refine hK189 _ _ ?_
                  refine gx_region ?_
                  refine gx_val (.int .i64 x100) w146 (by kernel_rfl) (by kernel_rfl) ?_
                  refine gx_val (.int .i64 (IntKind.i64.wrap (x100 + 1))) w146 (by kernel_rfl) (by kernel_rfl) ?_
                  refine gx_val (.int .i64 (IntKind.i64.wrap (x100 + 1))) w146 (by kernel_rfl) (by kernel_rfl) ?_
                  refine gx_nil ?_
                  refine gx_blkN ?_
                  refine gx_thenN ?_
                  exact ⟨k64, Nat.lt_succ_self k64, l151, l139, (IntKind.i64.wrap (x62 + 1)), (IntKind.i64.wrap (x100 + 1)), A149, c150, A142, c143, (fun i => List.getD ((u73 0) :: (.int .i64 x100) :: (u148 0) :: (u55 3) :: (.int .i64 x63) :: (.slice A0 p0.length c0) :: (.int .i64 ((p0.length : Nat) : Int)) :: (.bool true) :: (u73 1) :: (u73 2) :: (u73 3) :: (u73 4) :: (u73 5) :: (u73 6) :: (u73 7) :: (u73 8) :: (u73 9) :: (u73 10) :: (u73 11) :: (u73 12) :: (u73 13) :: (u73 14) :: (u73 15) :: (.int .i64 x63) :: (u99 0) :: (u99 1) :: (u99 2) :: (u99 3) :: (u99 4) :: (u99 5) :: (u99 6) :: (u99 7) :: (u99 8) :: (u99 9) :: (u99 10) :: (u99 11) :: (u99 12) :: (u99 13) :: (u99 14) :: (u99 15) :: (u99 16) :: (u99 17) :: (u99 18) :: (u99 19) :: (u99 20) :: (u99 21) :: (u99 22) :: (u99 23) :: (u99 24) :: (u99 25) :: (u99 26) :: (u148 1) :: (.slice A0 p0.length c0) :: (.int .i64 x63) :: (.pointer (Option.map (fun p => p.add (Int.toNat x63 * 1)) A0)) :: (.int .u16 x129) :: (.int .u16 (Int.fdiv x129 256)) :: (.int .u8 (IntKind.u8.wrap (Int.fdiv x129 256))) :: (.slice A0 p0.length c0) :: (.int .i64 x63) :: (.pointer (Option.map (fun p => p.add (Int.toNat x63 * 1)) A0)) :: (.int .u16 x131) :: (.int .u8 (IntKind.u8.wrap x131)) :: (.slice A0 p0.length c0) :: (.int .i64 x100) :: (.pointer (Option.map (fun p => p.add (Int.toNat x100 * 1)) A0)) :: (.int .u16 x133) :: (.int .u16 (Int.fdiv x133 256)) :: (.int .u8 (IntKind.u8.wrap (Int.fdiv x133 256))) :: (.slice A0 p0.length c0) :: (.int .i64 x100) :: (.pointer (Option.map (fun p => p.add (Int.toNat x100 * 1)) A0)) :: (.int .u16 x135) :: (.int .u8 (IntKind.u8.wrap x135)) :: (.int .i64 x63) :: (.int .i64 (Int.fdiv x63 256)) :: (.int .u8 (IntKind.u8.wrap (Int.fdiv x63 256))) :: (.int .i64 x63) :: (.int .u8 (IntKind.u8.wrap x63)) :: (u148 2) :: (u148 3) :: (u148 4) :: (u148 5) :: (u148 6) :: (u148 7) :: (u148 8) :: (u148 9) :: (u148 10) :: (u148 11) :: (u148 12) :: (u148 13) :: (u148 14) :: (u148 15) :: (u148 16) :: (u148 17) :: (u148 18) :: (u148 19) :: (u148 20) :: (u148 21) :: (u148 22) :: (u148 23) :: (.int .i64 x62) :: (.int .i64 (IntKind.i64.wrap (x62 + 1))) :: (.int .i64 x100) :: (.int .i64 (IntKind.i64.wrap (x100 + 1))) :: []) i undef), by kernel_rfl, hO154, hS147⟩
          · refine gx_val (.bool false) w53 (by kernel_rfl) (run_boolE (decide_eq_false h70) (by kernel_rfl)) ?_
            refine gx_nil ?_
            refine gx_thenN ?_
            refine hK69 _ _ ?_
            refine gx_no (by kernel_rfl) ?_
            refine gx_exit ?_
            refine gx_thenE ?_
            refine gx_thenE ?_
            refine gx_blkE ?_
            refine gx_thenN ?_
            exact ⟨l58, l61, x62, A56, c57, A59, c60, (fun i => List.getD ((u55 0) :: (.int .i64 x63) :: (u55 1) :: (u55 2) :: (u55 3) :: (.int .i64 x63) :: (.slice A0 p0.length c0) :: (.int .i64 ((p0.length : Nat) : Int)) :: (.bool false) :: (u55 8) :: (u55 9) :: (u55 10) :: (u55 11) :: (u55 12) :: (u55 13) :: (u55 14) :: (u55 15) :: (u55 16) :: (u55 17) :: (u55 18) :: (u55 19) :: (u55 20) :: (u55 21) :: (u55 22) :: (u55 23) :: (u55 24) :: (u55 25) :: (u55 26) :: (u55 27) :: (u55 28) :: (u55 29) :: (u55 30) :: (u55 31) :: (u55 32) :: (u55 33) :: (u55 34) :: (u55 35) :: (u55 36) :: (u55 37) :: (u55 38) :: (u55 39) :: (u55 40) :: (u55 41) :: (u55 42) :: (u55 43) :: (u55 44) :: (u55 45) :: (u55 46) :: (u55 47) :: (u55 48) :: (u55 49) :: (u55 50) :: (u55 51) :: (u55 52) :: (u55 53) :: (u55 54) :: (u55 55) :: (u55 56) :: (u55 57) :: (u55 58) :: (u55 59) :: (u55 60) :: (u55 61) :: (u55 62) :: (u55 63) :: (u55 64) :: (u55 65) :: (u55 66) :: (u55 67) :: (u55 68) :: (u55 69) :: (u55 70) :: (u55 71) :: (u55 72) :: (u55 73) :: (u55 74) :: (u55 75) :: (u55 76) :: (u55 77) :: (u55 78) :: (u55 79) :: (u55 80) :: (u55 81) :: (u55 82) :: (u55 83) :: (u55 84) :: (u55 85) :: (u55 86) :: (u55 87) :: (u55 88) :: (u55 89) :: (u55 90) :: (u55 91) :: (u55 92) :: (u55 93) :: (u55 94) :: (u55 95) :: (u55 96) :: (u55 97) :: (u55 98) :: (u55 99) :: (u55 100) :: (u55 101) :: (u55 102) :: (u55 103) :: (u55 104) :: []) i undef), by kernel_rfl, (Option.some.inj hL65), hS54⟩
    · rintro _ w37 ⟨l42, l45, x46, A40, c41, A43, c44, u39, rfl, rfl, hS38⟩
      try dsimp only at hO49
      refine gx_seq (fun K190 hK191 => ?_)
      refine gx_region ?_
      refine gx_val (.int .i64 x46) w37 (by kernel_rfl) (by kernel_rfl) ?_
      refine gx_val (.int .i64 (Int.fdiv x46 256)) w37 (by kernel_rfl) (by kernel_rfl) ?_
      refine gx_val (.int .u8 (IntKind.u8.wrap (Int.fdiv x46 256))) w37 (by kernel_rfl) (by kernel_rfl) ?_
      refine gx_val (.int .i64 x46) w37 (by kernel_rfl) (by kernel_rfl) ?_
      refine gx_val (.int .u8 (IntKind.u8.wrap x46)) w37 (by kernel_rfl) (by kernel_rfl) ?_
      refine gx_R (by kernel_rfl) (st_made .u8 5 [0, 2, (IntKind.u8.wrap (Int.fdiv x46 256)), (IntKind.u8.wrap x46)] hS38 (by show 4 ≤ 1000000000; decide) (by kernel_rfl)) ?_
      rintro _ w192 ⟨rfl, hS193⟩
      have hS193 : St _ _ w192 [rowE .u8 5 A40 c41 l42, rowE .u8 5 A43 c44 l45, rowE .u8 5 (some ⟨w37.heap.size, 0, none⟩) 4 ([0, 2, (IntKind.u8.wrap (Int.fdiv x46 256)), (IntKind.u8.wrap x46)])] := hS193
      refine gx_val (.slice A43 l45.length c44) w192 (by kernel_rfl) (by kernel_rfl) ?_
      obtain ⟨l194, ha195, hO49⟩ := bind_in hO49
      obtain ⟨ha195, hq196⟩ := apx_in ha195
      refine gx_R (by kernel_rfl) (st_append rfl (by kernel_rfl) (by kernel_rfl) hS193 2 rfl (hS193.row 1 rfl).1 (hS193.row 1 rfl).2 ha195 (by kernel_rfl) (by kernel_rfl)) ?_
      rintro _ w199 ⟨A197, c198, rfl, hS200⟩
      rw [← hq196] at hS200 ⊢
      have hS200 : St _ _ w199 [rowE .u8 5 A40 c41 l42, rowE .u8 5 A43 c44 l45, rowE .u8 5 A197 c198 l194] := hS200
      refine gx_val (.slice A197 l194.length c198) w199 (by kernel_rfl) (by kernel_rfl) ?_
      refine gx_nil ?_
      refine gx_thenN ?_
      refine hK191 _ _ ?_
      refine gx_seq (fun K201 hK202 => ?_)
      refine gx_region ?_
      refine gx_val (.slice A40 l42.length c41) w199 (by kernel_rfl) (by kernel_rfl) ?_
      obtain ⟨⟨l207, b208⟩, hc204, hO49⟩ := bind_in hO49
      try dsimp only at hO49
      refine gx_call (bOpen_R  (l207, b208) w199) (by kernel_rfl) (by kernel_rfl) (bOpen_ok N l42 A40 c41 _ hc204 w199 (Vw.of (hS200.row 0 rfl).1 (hS200.row 0 rfl).2)) ?_
      rintro _ w205 ⟨g209, g210, A211, c212, rfl, hT213⟩
      have hS206 : St _ _ w205 [rowE .u8 5 A40 c41 l42, rowE .u8 5 A43 c44 l45, rowE .u8 5 A197 c198 l194, boxE g209 [.pointer (some ⟨g210, 0, none⟩), .slice A211 l207.length c212] 60, boxE g210 [.bool b208] 57, rowE .u8 5 A211 c212 l207] := hS200.take _ hT213
      obtain ⟨⟨l218, x221, b222⟩, hc215, hO49⟩ := bind_in hO49
      try dsimp only at hO49
      refine gx_call (cCov_R l207 g209 g210 A211 c212 (l218, x221, b222) w205) (by kernel_rfl) (by kernel_rfl) (cCov_ok N l207 b208 (0 : Int) (65536 : Int) g209 g210 A211 c212 _ hc215 w205 (hS206.get 3 rfl) (hS206.get 4 rfl) (hS206.ne 3 4 rfl rfl (by decide)) (hS206.rowv 5 3 4 rfl rfl rfl (by decide) (by decide))) ?_
      rintro _ w216 ⟨A219, c220, rfl, hT223⟩
      have hS217 : St _ _ w216 [rowE .u8 5 A40 c41 l42, rowE .u8 5 A43 c44 l45, rowE .u8 5 A197 c198 l194, boxE g209 [.pointer (some ⟨g210, 0, none⟩), .slice A211 l207.length c212] 60, boxE g210 [.bool b222] 57, rowE .u8 5 A211 c212 l207, rowE .u16 49 A219 c220 l218] := hS206.lend 3 4 rfl rfl _ hT223
      refine gx_val (.tuple #[.slice A219 l218.length c220, .int .i64 x221]) w216 (by kernel_rfl) (by kernel_rfl) ?_
      refine gx_val (.slice A219 l218.length c220) w216 (by kernel_rfl) (by kernel_rfl) ?_
      refine gx_val (.int .i64 x221) w216 (by kernel_rfl) (by kernel_rfl) ?_
      refine gx_val (.slice A219 l218.length c220) w216 (by kernel_rfl) (by kernel_rfl) ?_
      refine gx_val (.int .i64 x221) w216 (by kernel_rfl) (by kernel_rfl) ?_
      refine gx_nil ?_
      refine gx_thenN ?_
      refine hK202 _ _ ?_
      refine gx_seq (fun K224 hK225 => ?_)
      refine gx_region ?_
      refine gx_val (.slice A197 l194.length c198) w216 (by kernel_rfl) (by kernel_rfl) ?_
      obtain ⟨⟨l230, b231⟩, hc227, hO49⟩ := bind_in hO49
      try dsimp only at hO49
      refine gx_call (bOpen_R  (l230, b231) w216) (by kernel_rfl) (by kernel_rfl) (bOpen_ok N l194 A197 c198 _ hc227 w216 (Vw.of (hS217.row 2 rfl).1 (hS217.row 2 rfl).2)) ?_
      rintro _ w228 ⟨g232, g233, A234, c235, rfl, hT236⟩
      have hS229 : St _ _ w228 [rowE .u8 5 A40 c41 l42, rowE .u8 5 A43 c44 l45, rowE .u8 5 A197 c198 l194, boxE g209 [.pointer (some ⟨g210, 0, none⟩), .slice A211 l207.length c212] 60, boxE g210 [.bool b222] 57, rowE .u8 5 A211 c212 l207, rowE .u16 49 A219 c220 l218, boxE g232 [.pointer (some ⟨g233, 0, none⟩), .slice A234 l230.length c235] 60, boxE g233 [.bool b231] 57, rowE .u8 5 A234 c235 l230] := hS217.take _ hT236
      obtain ⟨⟨l241, x244, b245⟩, hc238, hO49⟩ := bind_in hO49
      try dsimp only at hO49
      refine gx_call (cCov_R l230 g232 g233 A234 c235 (l241, x244, b245) w228) (by kernel_rfl) (by kernel_rfl) (cCov_ok N l230 b231 (0 : Int) (65536 : Int) g232 g233 A234 c235 _ hc238 w228 (hS229.get 7 rfl) (hS229.get 8 rfl) (hS229.ne 7 8 rfl rfl (by decide)) (hS229.rowv 9 7 8 rfl rfl rfl (by decide) (by decide))) ?_
      rintro _ w239 ⟨A242, c243, rfl, hT246⟩
      have hS240 : St _ _ w239 [rowE .u8 5 A40 c41 l42, rowE .u8 5 A43 c44 l45, rowE .u8 5 A197 c198 l194, boxE g209 [.pointer (some ⟨g210, 0, none⟩), .slice A211 l207.length c212] 60, boxE g210 [.bool b222] 57, rowE .u8 5 A211 c212 l207, rowE .u16 49 A219 c220 l218, boxE g232 [.pointer (some ⟨g233, 0, none⟩), .slice A234 l230.length c235] 60, boxE g233 [.bool b245] 57, rowE .u8 5 A234 c235 l230, rowE .u16 49 A242 c243 l241] := hS229.lend 7 8 rfl rfl _ hT246
      refine gx_val (.tuple #[.slice A242 l241.length c243, .int .i64 x244]) w239 (by kernel_rfl) (by kernel_rfl) ?_
      refine gx_val (.slice A242 l241.length c243) w239 (by kernel_rfl) (by kernel_rfl) ?_
      refine gx_val (.int .i64 x244) w239 (by kernel_rfl) (by kernel_rfl) ?_
      refine gx_val (.slice A242 l241.length c243) w239 (by kernel_rfl) (by kernel_rfl) ?_
      refine gx_val (.int .i64 x244) w239 (by kernel_rfl) (by kernel_rfl) ?_
      refine gx_nil ?_
      refine gx_thenN ?_
      refine hK225 _ _ ?_
      refine gx_seq (fun K247 hK248 => ?_)
      refine gx_region ?_
      refine gx_val (.int .i64 x221) w239 (by kernel_rfl) (by kernel_rfl) ?_
      rcases if_in hO49 with ⟨h249, hO49⟩ | ⟨h249, hO49⟩
      · refine gx_val (.bool true) w239 (by kernel_rfl) (run_boolE (decide_eq_true h249) (by kernel_rfl)) ?_
        refine gx_val (.bool true) w239 (by kernel_rfl) (by kernel_rfl) ?_
        refine gx_val (.int .i64 x244) w239 (by kernel_rfl) (by kernel_rfl) ?_
        rcases if_in hO49 with ⟨h250, hO49⟩ | ⟨h250, hO49⟩
        · refine gx_val (.bool true) w239 (by kernel_rfl) (run_boolE (decide_eq_true h250) (by kernel_rfl)) ?_
          refine gx_val (.bool true) w239 (by kernel_rfl) (by kernel_rfl) ?_
          refine gx_val (.bool true) w239 (by kernel_rfl) (by kernel_rfl) ?_
          refine gx_val (.slice A219 l218.length c220) w239 (by kernel_rfl) (by kernel_rfl) ?_
          refine gx_val (.slice A0 p0.length c0) w239 (by kernel_rfl) (by kernel_rfl) ?_
          obtain ⟨b255, hc252, hO49⟩ := bind_in hO49
          try dsimp only at hO49
          refine gx_call (kWords_R  b255 w239) (by kernel_rfl) (by kernel_rfl) (kWords_ok N l218 p0 A219 c220 A0 c0 _ hc252 w239 (Vw.of (hS240.row 6 rfl).1 (hS240.row 6 rfl).2) (Vw.of (hS240.view hv0) hv0.nn)) ?_
          rintro _ w253 ⟨rfl, hT256⟩
          have hS254 : St _ _ w253 [rowE .u8 5 A40 c41 l42, rowE .u8 5 A43 c44 l45, rowE .u8 5 A197 c198 l194, boxE g209 [.pointer (some ⟨g210, 0, none⟩), .slice A211 l207.length c212] 60, boxE g210 [.bool b222] 57, rowE .u8 5 A211 c212 l207, rowE .u16 49 A219 c220 l218, boxE g232 [.pointer (some ⟨g233, 0, none⟩), .slice A234 l230.length c235] 60, boxE g233 [.bool b245] 57, rowE .u8 5 A234 c235 l230, rowE .u16 49 A242 c243 l241] := hS240.take _ hT256
          refine gx_val (.bool b255) w253 (by kernel_rfl) (by kernel_rfl) ?_
          refine gx_val (.bool b255) w253 (by kernel_rfl) (by kernel_rfl) ?_
          cases b255 with
          | true =>
            try dsimp only at hO49
            refine gx_val (.slice A242 l241.length c243) w253 (by kernel_rfl) (by kernel_rfl) ?_
            refine gx_val (.slice A0 p0.length c0) w253 (by kernel_rfl) (by kernel_rfl) ?_
            obtain ⟨b261, hc258, hO49⟩ := bind_in hO49
            try dsimp only at hO49
            refine gx_call (kWords_R  b261 w253) (by kernel_rfl) (by kernel_rfl) (kWords_ok N l241 p0 A242 c243 A0 c0 _ hc258 w253 (Vw.of (hS254.row 10 rfl).1 (hS254.row 10 rfl).2) (Vw.of (hS254.view hv0) hv0.nn)) ?_
            rintro _ w259 ⟨rfl, hT262⟩
            have hS260 : St _ _ w259 [rowE .u8 5 A40 c41 l42, rowE .u8 5 A43 c44 l45, rowE .u8 5 A197 c198 l194, boxE g209 [.pointer (some ⟨g210, 0, none⟩), .slice A211 l207.length c212] 60, boxE g210 [.bool b222] 57, rowE .u8 5 A211 c212 l207, rowE .u16 49 A219 c220 l218, boxE g232 [.pointer (some ⟨g233, 0, none⟩), .slice A234 l230.length c235] 60, boxE g233 [.bool b245] 57, rowE .u8 5 A234 c235 l230, rowE .u16 49 A242 c243 l241] := hS254.take _ hT262
            refine gx_val (.bool b261) w259 (by kernel_rfl) (by kernel_rfl) ?_
            refine gx_val (.bool b261) w259 (by kernel_rfl) (by kernel_rfl) ?_
            cases b261 with
            | true =>
              try dsimp only at hO49
              obtain ⟨b267, hc264, hO49⟩ := bind_in hO49
              try dsimp only at hO49
              refine gx_call (fWorks_R  b267 w259) (by kernel_rfl) (by kernel_rfl) (fWorks_ok N  _ hc264 w259 ) ?_
              rintro _ w265 ⟨rfl, hT268⟩
              have hS266 : St _ _ w265 [rowE .u8 5 A40 c41 l42, rowE .u8 5 A43 c44 l45, rowE .u8 5 A197 c198 l194, boxE g209 [.pointer (some ⟨g210, 0, none⟩), .slice A211 l207.length c212] 60, boxE g210 [.bool b222] 57, rowE .u8 5 A211 c212 l207, rowE .u16 49 A219 c220 l218, boxE g232 [.pointer (some ⟨g233, 0, none⟩), .slice A234 l230.length c235] 60, boxE g233 [.bool b245] 57, rowE .u8 5 A234 c235 l230, rowE .u16 49 A242 c243 l241] := hS260.take _ hT268
              refine gx_val (.bool b267) w265 (by kernel_rfl) (by kernel_rfl) ?_
              refine gx_val (.bool b267) w265 (by kernel_rfl) (by kernel_rfl) ?_
              refine gx_nil ?_
              refine gx_thenN ?_
              refine hK248 _ _ ?_
              refine gx_ret ?_
              obtain rfl := Option.some.inj hO49
              exact gx_fin (.bool b267) (by kernel_rfl) (by kernel_rfl) ⟨_, rfl, rfl, (hS266.pick [] rfl rfl)⟩
            | false =>
              try dsimp only at hO49
              refine gx_off (by kernel_rfl) ?_
              refine gx_val (.bool false) w259 (by kernel_rfl) (by kernel_rfl) ?_
              refine gx_val (.bool false) w259 (by kernel_rfl) (by kernel_rfl) ?_
              refine gx_nil ?_
              refine gx_thenN ?_
              refine hK248 _ _ ?_
              refine gx_ret ?_
              obtain rfl := Option.some.inj hO49
              exact gx_fin (.bool false) (by kernel_rfl) (by kernel_rfl) ⟨_, rfl, rfl, (hS260.pick [] rfl rfl)⟩
          | false =>
            try dsimp only at hO49
            refine gx_off (by kernel_rfl) ?_
            refine gx_off (by kernel_rfl) ?_
            refine gx_off (by kernel_rfl) ?_
            refine gx_val (.bool false) w253 (by kernel_rfl) (by kernel_rfl) ?_
            refine gx_val (.bool false) w253 (by kernel_rfl) (by kernel_rfl) ?_
            refine gx_off (by kernel_rfl) ?_
            refine gx_val (.bool false) w253 (by kernel_rfl) (by kernel_rfl) ?_
            refine gx_val (.bool false) w253 (by kernel_rfl) (by kernel_rfl) ?_
            refine gx_nil ?_
            refine gx_thenN ?_
            refine hK248 _ _ ?_
            refine gx_ret ?_
            obtain rfl := Option.some.inj hO49
            exact gx_fin (.bool false) (by kernel_rfl) (by kernel_rfl) ⟨_, rfl, rfl, (hS254.pick [] rfl rfl)⟩
        · refine gx_val (.bool false) w239 (by kernel_rfl) (run_boolE (decide_eq_false h250) (by kernel_rfl)) ?_
          refine gx_val (.bool false) w239 (by kernel_rfl) (by kernel_rfl) ?_
          refine gx_val (.bool false) w239 (by kernel_rfl) (by kernel_rfl) ?_
          refine gx_off (by kernel_rfl) ?_
          refine gx_off (by kernel_rfl) ?_
          refine gx_off (by kernel_rfl) ?_
          refine gx_val (.bool false) w239 (by kernel_rfl) (by kernel_rfl) ?_
          refine gx_val (.bool false) w239 (by kernel_rfl) (by kernel_rfl) ?_
          refine gx_off (by kernel_rfl) ?_
          refine gx_off (by kernel_rfl) ?_
          refine gx_off (by kernel_rfl) ?_
          refine gx_val (.bool false) w239 (by kernel_rfl) (by kernel_rfl) ?_
          refine gx_val (.bool false) w239 (by kernel_rfl) (by kernel_rfl) ?_
          refine gx_off (by kernel_rfl) ?_
          refine gx_val (.bool false) w239 (by kernel_rfl) (by kernel_rfl) ?_
          refine gx_val (.bool false) w239 (by kernel_rfl) (by kernel_rfl) ?_
          refine gx_nil ?_
          refine gx_thenN ?_
          refine hK248 _ _ ?_
          refine gx_ret ?_
          obtain rfl := Option.some.inj hO49
          exact gx_fin (.bool false) (by kernel_rfl) (by kernel_rfl) ⟨_, rfl, rfl, (hS240.pick [] rfl rfl)⟩
      · refine gx_val (.bool false) w239 (by kernel_rfl) (run_boolE (decide_eq_false h249) (by kernel_rfl)) ?_
        refine gx_val (.bool false) w239 (by kernel_rfl) (by kernel_rfl) ?_
        refine gx_off (by kernel_rfl) ?_
        refine gx_off (by kernel_rfl) ?_
        refine gx_val (.bool false) w239 (by kernel_rfl) (by kernel_rfl) ?_
        refine gx_val (.bool false) w239 (by kernel_rfl) (by kernel_rfl) ?_
        refine gx_off (by kernel_rfl) ?_
        refine gx_off (by kernel_rfl) ?_
        refine gx_off (by kernel_rfl) ?_
        refine gx_val (.bool false) w239 (by kernel_rfl) (by kernel_rfl) ?_
        refine gx_val (.bool false) w239 (by kernel_rfl) (by kernel_rfl) ?_
        refine gx_off (by kernel_rfl) ?_
        refine gx_off (by kernel_rfl) ?_
        refine gx_off (by kernel_rfl) ?_
        refine gx_val (.bool false) w239 (by kernel_rfl) (by kernel_rfl) ?_
        refine gx_val (.bool false) w239 (by kernel_rfl) (by kernel_rfl) ?_
        refine gx_off (by kernel_rfl) ?_
        refine gx_val (.bool false) w239 (by kernel_rfl) (by kernel_rfl) ?_
        refine gx_val (.bool false) w239 (by kernel_rfl) (by kernel_rfl) ?_
        refine gx_nil ?_
        refine gx_thenN ?_
        refine hK248 _ _ ?_
        refine gx_ret ?_
        obtain rfl := Option.some.inj hO49
        exact gx_fin (.bool false) (by kernel_rfl) (by kernel_rfl) ⟨_, rfl, rfl, (hS240.pick [] rfl rfl)⟩

end Go.Proofs.Ytfgienbhdpmekaa

/-
  Readers.
-/
import Derived.Test.YtfgienbhdpmekaaGm
namespace Go.Proofs.Ytfgienbhdpmekaa
open Go Go.RowKit

def rTwo (_N : Nat) (p0 : Int) : Option (List Int) :=
  some ([(IntKind.u8.wrap (Int.fdiv p0 256)), (IntKind.u8.wrap p0)])

def rTwo_R (r : List Int) (w0 : World) (v : Value) (w : World) : Prop := ∃ (A0' : Option Addr) (c0' : Nat), v = .slice A0' r.length c0' ∧ St [] w0 w [rowE .u8 5 A0' c0' r]

set_option maxRecDepth 100000 in
set_option maxHeartbeats 4000000 in
theorem rTwo_ok (N : Nat) (p0 : Int)  (r : List Int) (hF : rTwo N p0 = some r) (w0 : World)  :
    Calls Try.prog 30 #[.int .i64 p0] w0 fun e w => ∃ v, e = .returned v ∧ rTwo_R r w0 v w := by
  have hS0 := St.start w0
  unfold rTwo at hF
  refine calls_of Try.func30 rfl ⟨((.int .i64 p0) :: undef :: undef :: undef :: undef :: undef :: undef :: undef :: undef :: []).toArray, []⟩ (by kernel_rfl) ?_
  refine gx_seq (fun K1 hK2 => ?_)
  refine gx_region ?_
  refine gx_val (.slice none 0 0) w0 (by kernel_rfl) (by kernel_rfl) ?_
  refine gx_nil ?_
  refine gx_thenN ?_
  refine hK2 _ _ ?_
  refine gx_seq (fun K3 hK4 => ?_)
  refine gx_region ?_
  refine gx_val (.int .i64 p0) w0 (by kernel_rfl) (by kernel_rfl) ?_
  refine gx_val (.int .i64 (Int.fdiv p0 256)) w0 (by kernel_rfl) (by kernel_rfl) ?_
  refine gx_val (.int .u8 (IntKind.u8.wrap (Int.fdiv p0 256))) w0 (by kernel_rfl) (by kernel_rfl) ?_
  refine gx_val (.int .i64 p0) w0 (by kernel_rfl) (by kernel_rfl) ?_
  refine gx_val (.int .u8 (IntKind.u8.wrap p0)) w0 (by kernel_rfl) (by kernel_rfl) ?_
  refine gx_R (by kernel_rfl) (st_made .u8 5 [(IntKind.u8.wrap (Int.fdiv p0 256)), (IntKind.u8.wrap p0)] hS0 (by show 2 ≤ 1000000000; decide) (by kernel_rfl)) ?_
  rintro _ w5 ⟨rfl, hS6⟩
  have hS6 : St _ _ w5 [rowE .u8 5 (some ⟨w0.heap.size, 0, none⟩) 2 ([(IntKind.u8.wrap (Int.fdiv p0 256)), (IntKind.u8.wrap p0)])] := hS6
  refine gx_val (.slice (some ⟨w0.heap.size, 0, none⟩) (([(IntKind.u8.wrap (Int.fdiv p0 256)), (IntKind.u8.wrap p0)]).length) 2) w5 (by kernel_rfl) (by kernel_rfl) ?_
  refine gx_nil ?_
  refine gx_thenN ?_
  refine hK4 _ _ ?_
  refine gx_ret ?_
  obtain rfl := Option.some.inj hF
  exact gx_fin (.slice (some ⟨w0.heap.size, 0, none⟩) (([(IntKind.u8.wrap (Int.fdiv p0 256)), (IntKind.u8.wrap p0)]).length) 2) (by kernel_rfl) (by kernel_rfl) ⟨_, rfl, (some ⟨w0.heap.size, 0, none⟩), 2, rfl, hS6⟩

def rPutCov_L1 (N : Nat) (p0 : List Int) : Nat → List Int → Int → Option (Ctl (List Int) (List Int × Int))
  | 0, _, _ => none
  | k56+1, l54, x55 => (if x55 < ((p0.length : Nat) : Int) then (((if x55 > 0 then ((ix p0 x55).bind fun x76 => ((ix p0 (IntKind.i64.wrap (x55 - 1))).bind fun x78 => (if x76 ≤ x78 then some (Ctl.ret ([], 2)) else some (Ctl.go ())))) else some (Ctl.go ())) : Option (Ctl (Unit) (List Int × Int))).bind fun | Ctl.go () => ((ix p0 x55).bind fun x84 => ((rTwo N (IntKind.i64.wrap x84)).bind fun l90 => ((apx l54 l90).bind fun l94 => rPutCov_L1 N p0 k56 l94 (IntKind.i64.wrap (x55 + 1))))) | Ctl.ret r => some (Ctl.ret r)) else some (Ctl.go l54))
def rPutCov (N : Nat) (p0 : List Int) : Option (List Int × Int) :=
  (((if ((p0.length : Nat) : Int) < 1 then some (Ctl.ret ([], 2)) else (if ((p0.length : Nat) : Int) > 65535 then some (Ctl.ret ([], 2)) else some (Ctl.go ()))) : Option (Ctl (Unit) (List Int × Int))).bind fun | Ctl.go () => ((rTwo N ((p0.length : Nat) : Int)).bind fun l27 => ((apx ([0, 1]) l27).bind fun l31 => ((rPutCov_L1 N p0 N l31 0 : Option (Ctl (List Int) (List Int × Int))).bind fun | Ctl.go l43 => some (l43, 0) | Ctl.ret r => some r))) | Ctl.ret r => some r)

def rPutCov_R (r : List Int × Int) (w0 : World) (v : Value) (w : World) : Prop := ∃ (A0' : Option Addr) (c0' : Nat), v = .tuple #[.slice A0' r.1.length c0', .int .i64 r.2] ∧ St [] w0 w [rowE .u8 5 A0' c0' r.1]

set_option maxRecDepth 100000 in
set_option maxHeartbeats 4000000 in
theorem rPutCov_ok (N : Nat) (p0 : List Int) (A0 : Option Addr) (c0 : Nat) (r : List Int × Int) (hF : rPutCov N p0 = some r) (w0 : World) (hv0 : Vw [] .u16 w0 A0 c0 p0) :
    Calls Try.prog 13 #[.slice A0 p0.length c0] w0 fun e w => ∃ v, e = .returned v ∧ rPutCov_R r w0 v w := by
  have hS0 := St.start w0
  unfold rPutCov at hF
  refine calls_of Try.func13 rfl ⟨((.slice A0 p0.length c0) :: undef :: undef :: undef :: undef :: undef :: undef :: undef :: undef :: undef :: undef :: undef :: undef :: undef :: undef :: undef :: undef :: undef :: undef :: undef :: undef :: undef :: undef :: undef :: undef :: undef :: undef :: undef :: undef :: undef :: undef :: undef :: undef :: undef :: undef :: undef :: undef :: undef :: undef :: undef :: undef :: undef :: undef :: undef :: undef :: undef :: undef :: undef :: []).toArray, []⟩ (by kernel_rfl) ?_
  refine gx_seq (fun K1 hK2 => ?_)
  refine gx_region ?_
  refine gx_val (.slice none 0 0) w0 (by kernel_rfl) (by kernel_rfl) ?_
  refine gx_val (.int .i64 0) w0 (by kernel_rfl) (by kernel_rfl) ?_
  refine gx_nil ?_
  refine gx_thenN ?_
  refine hK2 _ _ ?_
  obtain ⟨c6, hE7, hO8⟩ := bind_in hF
  refine gx_cut (fun a w => ∃ (u5 : Nat → Value), a = ⟨((.slice A0 p0.length c0) :: undef :: (u5 0) :: (u5 1) :: undef :: undef :: (u5 2) :: (u5 3) :: (u5 4) :: (u5 5) :: (u5 6) :: (u5 7) :: (u5 8) :: (u5 9) :: undef :: undef :: undef :: undef :: undef :: undef :: undef :: undef :: undef :: undef :: undef :: undef :: undef :: undef :: undef :: undef :: undef :: undef :: undef :: undef :: undef :: undef :: undef :: undef :: undef :: undef :: undef :: undef :: undef :: undef :: undef :: undef :: undef :: undef :: []).toArray, []⟩ ∧ Ctl.go () = c6 ∧ St [] w0 w []) ?_ ?_
  · refine gx_seq (fun K9 hK10 => ?_)
    refine gx_region ?_
    refine gx_val (.slice A0 p0.length c0) w0 (by kernel_rfl) (by kernel_rfl) ?_
    refine gx_val (.int .i64 ((p0.length : Nat) : Int)) w0 (by kernel_rfl) (by kernel_rfl) ?_
    rcases if_in hE7 with ⟨h11, hE7⟩ | ⟨h11, hE7⟩
    · refine gx_val (.bool true) w0 (by kernel_rfl) (run_boolE (decide_eq_true h11) (by kernel_rfl)) ?_
      refine gx_val (.bool true) w0 (by kernel_rfl) (by kernel_rfl) ?_
      refine gx_off (by kernel_rfl) ?_
      refine gx_off (by kernel_rfl) ?_
      refine gx_off (by kernel_rfl) ?_
      refine gx_val (.bool true) w0 (by kernel_rfl) (by kernel_rfl) ?_
      refine gx_nil ?_
      refine gx_thenN ?_
      refine hK10 _ _ ?_
      refine gx_yes (by kernel_rfl) ?_
      refine gx_seq (fun K12 hK13 => ?_)
      refine gx_region ?_
      refine gx_val (.slice none 0 0) w0 (by kernel_rfl) (by kernel_rfl) ?_
      refine gx_val (.int .i64 2) w0 (by kernel_rfl) (by kernel_rfl) ?_
      refine gx_nil ?_
      refine gx_thenN ?_
      refine hK13 _ _ ?_
      refine gx_ret ?_
      refine gx_thenR ?_
      obtain rfl := Option.some.inj hE7
      try dsimp only at hO8
      have hS14 : St _ _ w0 [rowE .u8 5 none 0 ([])] := hS0.nilrow .u8 5
      obtain rfl := Option.some.inj hO8
      exact gx_fin (.tuple #[.slice none (([] : List Int).length) 0, .int .i64 2]) (by kernel_rfl) (by kernel_rfl) ⟨_, rfl, none, 0, rfl, hS14⟩
    · refine gx_val (.bool false) w0 (by kernel_rfl) (run_boolE (decide_eq_false h11) (by kernel_rfl)) ?_
      refine gx_val (.bool false) w0 (by kernel_rfl) (by kernel_rfl) ?_
      refine gx_val (.slice A0 p0.length c0) w0 (by kernel_rfl) (by kernel_rfl) ?_
      refine gx_val (.int .i64 ((p0.length : Nat) : Int)) w0 (by kernel_rfl) (by kernel_rfl) ?_
      rcases if_in hE7 with ⟨h15, hE7⟩ | ⟨h15, hE7⟩
      · refine gx_val (.bool true) w0 (by kernel_rfl) (run_boolE (decide_eq_true h15) (by kernel_rfl)) ?_
        refine gx_val (.bool true) w0 (by kernel_rfl) (by kernel_rfl) ?_
        refine gx_nil ?_
        refine gx_thenN ?_
        refine hK10 _ _ ?_
        refine gx_yes (by kernel_rfl) ?_
        refine gx_seq (fun K16 hK17 => ?_)
        refine gx_region ?_
        refine gx_val (.slice none 0 0) w0 (by kernel_rfl) (by kernel_rfl) ?_
        refine gx_val (.int .i64 2) w0 (by kernel_rfl) (by kernel_rfl) ?_
        refine gx_nil ?_
        refine gx_thenN ?_
        refine hK17 _ _ ?_
        refine gx_ret ?_
        refine gx_thenR ?_
        obtain rfl := Option.some.inj hE7
        try dsimp only at hO8
        have hS18 : St _ _ w0 [rowE .u8 5 none 0 ([])] := hS0.nilrow .u8 5
        obtain rfl := Option.some.inj hO8
        exact gx_fin (.tuple #[.slice none (([] : List Int).length) 0, .int .i64 2]) (by kernel_rfl) (by kernel_rfl) ⟨_, rfl, none, 0, rfl, hS18⟩
      · refine gx_val (.bool false) w0 (by kernel_rfl) (run_boolE (decide_eq_false h15) (by kernel_rfl)) ?_
        refine gx_val (.bool false) w0 (by kernel_rfl) (by kernel_rfl) ?_
        refine gx_nil ?_
        refine gx_thenN ?_
        refine hK10 _ _ ?_
        refine gx_no (by kernel_rfl) ?_
        refine gx_pass ?_
        refine gx_thenN ?_
        exact ⟨(fun i => List.getD ((.slice none 0 0) :: (.int .i64 0) :: (.slice A0 p0.length c0) :: (.int .i64 ((p0.length : Nat) : Int)) :: (.bool false) :: (.bool false) :: (.slice A0 p0.length c0) :: (.int .i64 ((p0.length : Nat) : Int)) :: (.bool false) :: (.bool false) :: []) i undef), by kernel_rfl, (Option.some.inj hE7), hS0⟩
  · rintro _ w3 ⟨u5, rfl, rfl, hS4⟩
    try dsimp only at hO8
    refine gx_seq (fun K19 hK20 => ?_)
    refine gx_region ?_
    refine gx_R (by kernel_rfl) (st_made .u8 5 [0, 1] hS4 (by show 2 ≤ 1000000000; decide) (by kernel_rfl)) ?_
    rintro _ w21 ⟨rfl, hS22⟩
    have hS22 : St _ _ w21 [rowE .u8 5 (some ⟨w3.heap.size, 0, none⟩) 2 ([0, 1])] := hS22
    refine gx_val (.slice A0 p0.length c0) w21 (by kernel_rfl) (by kernel_rfl) ?_
    refine gx_val (.int .i64 ((p0.length : Nat) : Int)) w21 (by kernel_rfl) (by kernel_rfl) ?_
    obtain ⟨l27, hc24, hO8⟩ := bind_in hO8
    try dsimp only at hO8
    refine gx_call (rTwo_R  l27 w21) (by kernel_rfl) (by kernel_rfl) (rTwo_ok N ((p0.length : Nat) : Int) _ hc24 w21 ) ?_
    rintro _ w25 ⟨A28, c29, rfl, hT30⟩
    have hS26 : St _ _ w25 [rowE .u8 5 (some ⟨w3.heap.size, 0, none⟩) 2 ([0, 1]), rowE .u8 5 A28 c29 l27] := hS22.take _ hT30
    obtain ⟨l31, ha32, hO8⟩ := bind_in hO8
    obtain ⟨ha32, hq33⟩ := apx_in ha32
    refine gx_R (by kernel_rfl) (st_append rfl (by kernel_rfl) (by kernel_rfl) hS26 0 rfl (hS26.row 1 rfl).1 (hS26.row 1 rfl).2 ha32 (by kernel_rfl) (by kernel_rfl)) ?_
    rintro _ w36 ⟨A34, c35, rfl, hS37⟩
    rw [← hq33] at hS37 ⊢
    have hS37 : St _ _ w36 [rowE .u8 5 A34 c35 l31, rowE .u8 5 A28 c29 l27] := hS37
    refine gx_val (.slice A34 l31.length c35) w36 (by kernel_rfl) (by kernel_rfl) ?_
    refine gx_nil ?_
    refine gx_thenN ?_
    refine hK20 _ _ ?_
    obtain ⟨c44, hE45, hO46⟩ := bind_in hO8
    refine gx_cut (fun a w => ∃ (l43 : List Int) (A41 : Option Addr) (c42 : Nat) (u40 : Nat → Value), a = ⟨((.slice A0 p0.length c0) :: undef :: (u40 0) :: (u40 1) :: (.slice A41 l43.length c42) :: (u40 2) :: (u5 2) :: (u5 3) :: (u5 4) :: (u5 5) :: (u5 6) :: (u5 7) :: (u5 8) :: (u5 9) :: (u40 3) :: (.slice A0 p0.length c0) :: (.int .i64 ((p0.length : Nat) : Int)) :: (u40 4) :: (u40 5) :: (u40 6) :: (u40 7) :: (u40 8) :: (u40 9) :: (u40 10) :: (u40 11) :: (u40 12) :: (u40 13) :: (u40 14) :: (u40 15) :: (u40 16) :: (u40 17) :: (u40 18) :: (u40 19) :: (u40 20) :: (u40 21) :: (u40 22) :: (u40 23) :: (u40 24) :: (u40 25) :: (u40 26) :: (u40 27) :: (u40 28) :: (u40 29) :: (u40 30) :: (u40 31) :: (u40 32) :: (u40 33) :: undef :: []).toArray, []⟩ ∧ Ctl.go l43 = c44 ∧ St [] w0 w [rowE .u8 5 A41 c42 l43]) ?_ ?_
    · refine gx_seq (fun K47 hK48 => ?_)
      refine gx_region ?_
      refine gx_val (.int .i64 0) w36 (by kernel_rfl) (by kernel_rfl) ?_
      refine gx_nil ?_
      refine gx_thenN ?_
      refine hK48 _ _ ?_
      refine gx_block ?_
      refine gx_loop (fun k a w => ∃ (l54 : List Int) (x55 : Int) (A52 : Option Addr) (c53 : Nat) (u51 : Nat → Value), a = ⟨((.slice A0 p0.length c0) :: undef :: (u51 0) :: (u51 1) :: (.slice A52 l54.length c53) :: (.int .i64 x55) :: (u5 2) :: (u5 3) :: (u5 4) :: (u5 5) :: (u5 6) :: (u5 7) :: (u5 8) :: (u5 9) :: (u51 2) :: (.slice A0 p0.length c0) :: (.int .i64 ((p0.length : Nat) : Int)) :: (u51 3) :: (u51 4) :: (u51 5) :: (u51 6) :: (u51 7) :: (u51 8) :: (u51 9) :: (u51 10) :: (u51 11) :: (u51 12) :: (u51 13) :: (u51 14) :: (u51 15) :: (u51 16) :: (u51 17) :: (u51 18) :: (u51 19) :: (u51 20) :: (u51 21) :: (u51 22) :: (u51 23) :: (u51 24) :: (u51 25) :: (u51 26) :: (u51 27) :: (u51 28) :: (u51 29) :: (u51 30) :: (u51 31) :: (u51 32) :: undef :: []).toArray, []⟩ ∧ rPutCov_L1 N p0 k l54 x55 = some c44 ∧ St [] w0 w [rowE .u8 5 A52 c53 l54]) N ?_ ?_
      · exact ⟨l31, 0, A34, c35, (fun i => List.getD ((u5 0) :: (u5 1) :: (.slice (some ⟨w3.heap.size, 0, none⟩) (([0, 1]).length) 2) :: (.slice A28 l27.length c29) :: (.slice A34 l31.length c35) :: undef :: undef :: undef :: undef :: undef :: undef :: undef :: undef :: undef :: undef :: undef :: undef :: undef :: undef :: undef :: undef :: undef :: undef :: undef :: undef :: undef :: undef :: undef :: undef :: undef :: undef :: undef :: undef :: []) i undef), by kernel_rfl, hE45, (hS37.pick [0] rfl rfl)⟩
      · rintro k56 _ w49 ⟨l54, x55, A52, c53, u51, rfl, hL57, hS50⟩
        cases k56 with
        | zero => cases hL57
        | succ k56 =>
          rw [rPutCov_L1] at hL57
          refine gx_seq (fun K58 hK59 => ?_)
          refine gx_seq (fun K60 hK61 => ?_)
          refine gx_region ?_
          refine gx_val (.int .i64 x55) w49 (by kernel_rfl) (by kernel_rfl) ?_
          refine gx_val (.slice A0 p0.length c0) w49 (by kernel_rfl) (by kernel_rfl) ?_
          refine gx_val (.int .i64 ((p0.length : Nat) : Int)) w49 (by kernel_rfl) (by kernel_rfl) ?_
          rcases if_in hL57 with ⟨h62, hL57⟩ | ⟨h62, hL57⟩
          · refine gx_val (.bool true) w49 (by kernel_rfl) (run_boolE (decide_eq_true h62) (by kernel_rfl)) ?_
            refine gx_nil ?_
            refine gx_thenN ?_
            refine hK61 _ _ ?_
            refine gx_yes (by kernel_rfl) ?_
            refine gx_pass ?_
            refine gx_thenN ?_
            refine hK59 _ _ ?_
            refine gx_seq (fun K63 hK64 => ?_)
            refine gx_block ?_
            obtain ⟨c68, hE69, hO70⟩ := bind_in hL57
            refine gx_cut (fun a w => ∃ (u67 : Nat → Value), a = ⟨((.slice A0 p0.length c0) :: undef :: (u67 0) :: (u67 1) :: (.slice A52 l54.length c53) :: (.int .i64 x55) :: (u5 2) :: (u5 3) :: (u5 4) :: (u5 5) :: (u5 6) :: (u5 7) :: (u5 8) :: (u5 9) :: (u51 2) :: (.slice A0 p0.length c0) :: (.int .i64 ((p0.length : Nat) : Int)) :: (u51 3) :: (u51 4) :: (.int .i64 x55) :: (.slice A0 p0.length c0) :: (.int .i64 ((p0.length : Nat) : Int)) :: (.bool true) :: (u51 9) :: (u51 10) :: (u67 2) :: (u67 3) :: (u67 4) :: (u67 5) :: (u67 6) :: (u67 7) :: (u67 8) :: (u67 9) :: (u67 10) :: (u67 11) :: (u67 12) :: (u67 13) :: (u67 14) :: (u67 15) :: (u51 25) :: (u51 26) :: (u51 27) :: (u51 28) :: (u51 29) :: (u51 30) :: (u51 31) :: (u51 32) :: undef :: []).toArray, []⟩ ∧ Ctl.go () = c68 ∧ St [] w0 w [rowE .u8 5 A52 c53 l54]) ?_ ?_
            · refine gx_seq (fun K71 hK72 => ?_)
              refine gd_start (fun w => St [] w0 w [rowE .u8 5 A52 c53 l54]) 14 #[false, false, false, false, false, false, false, false, false, false, false, false, false, false] (by kernel_rfl) (by kernel_rfl) ?_
              have hS74 := hS50.drew
              generalize w49.drew = w73 at hS74 ⊢
              refine gd1 0 { dst := some 25, op := _, type := _, pos := _, after := _, guard := _ } (.int .i64 x55) rfl hS74 (fun w hSw => by kernel_rfl) ?_
              rcases if_in hE69 with ⟨h75, hE69⟩ | ⟨h75, hE69⟩
              · refine gd1 1 { dst := some 26, op := _, type := _, pos := _, after := _, guard := _ } (.bool true) rfl hS74 (fun w hSw => run_boolE (decide_eq_true h75) (by kernel_rfl)) ?_
                refine gd1 2 { dst := some 27, op := _, type := _, pos := _, after := _, guard := _ } (.bool true) rfl hS74 (fun w hSw => by kernel_rfl) ?_
                refine gd1 3 { dst := some 28, op := _, type := _, pos := _, after := _, guard := _ } (.slice A0 p0.length c0) rfl hS74 (fun w hSw => by kernel_rfl) ?_
                refine gd1 4 { dst := some 29, op := _, type := _, pos := _, after := _, guard := _ } (.int .i64 x55) rfl hS74 (fun w hSw => by kernel_rfl) ?_
                obtain ⟨x76, hx77, hE69⟩ := bind_in hE69
                refine gd1 5 { dst := some 30, op := _, type := _, pos := _, after := _, guard := _ } (.pointer (Option.map (fun p => p.add (Int.toNat x55 * 1)) A0)) rfl hS74 (fun w hSw => run_ixaddr (E := 49) (s := 1) (k := .i64) (c := c0) rfl (by kernel_rfl) (by kernel_rfl) (by kernel_rfl) (fun _ => by kernel_rfl) (ix_in hx77).1 (ix_in hx77).2.1 (num_nil (hSw.view hv0))) ?_
                refine gd1 6 { dst := some 31, op := _, type := _, pos := _, after := _, guard := _ } (.int .u16 x76) rfl hS74 (fun w hSw => run_loadix rfl (by kernel_rfl) (fun _ => by kernel_rfl) (hSw.view hv0) hx77) ?_
                refine gd1 7 { dst := some 32, op := _, type := _, pos := _, after := _, guard := _ } (.slice A0 p0.length c0) rfl hS74 (fun w hSw => by kernel_rfl) ?_
                refine gd1 8 { dst := some 33, op := _, type := _, pos := _, after := _, guard := _ } (.int .i64 x55) rfl hS74 (fun w hSw => by kernel_rfl) ?_
                refine gd1 9 { dst := some 34, op := _, type := _, pos := _, after := _, guard := _ } (.int .i64 (IntKind.i64.wrap (x55 - 1))) rfl hS74 (fun w hSw => by kernel_rfl) ?_
                obtain ⟨x78, hx79, hE69⟩ := bind_in hE69
                refine gd1 10 { dst := some 35, op := _, type := _, pos := _, after := _, guard := _ } (.pointer (Option.map (fun p => p.add (Int.toNat (IntKind.i64.wrap (x55 - 1)) * 1)) A0)) rfl hS74 (fun w hSw => run_ixaddr (E := 49) (s := 1) (k := .i64) (c := c0) rfl (by kernel_rfl) (by kernel_rfl) (by kernel_rfl) (fun _ => by kernel_rfl) (ix_in hx79).1 (ix_in hx79).2.1 (num_nil (hSw.view hv0))) ?_
                refine gd1 11 { dst := some 36, op := _, type := _, pos := _, after := _, guard := _ } (.int .u16 x78) rfl hS74 (fun w hSw => run_loadix rfl (by kernel_rfl) (fun _ => by kernel_rfl) (hSw.view hv0) hx79) ?_
                rcases if_in hE69 with ⟨h80, hE69⟩ | ⟨h80, hE69⟩
                · refine gd1 12 { dst := some 37, op := _, type := _, pos := _, after := _, guard := _ } (.bool true) rfl hS74 (fun w hSw => run_boolE (decide_eq_true h80) (by kernel_rfl)) ?_
                  refine gd1 13 { dst := some 38, op := _, type := _, pos := _, after := _, guard := _ } (.bool true) rfl hS74 (fun w hSw => by kernel_rfl) ?_
                  refine gd_done (by kernel_rfl) ?_
                  refine gx_thenN ?_
                  refine hK72 _ _ ?_
                  refine gx_yes (by kernel_rfl) ?_
                  refine gx_seq (fun K81 hK82 => ?_)
                  refine gx_region ?_
                  refine gx_val (.slice none 0 0) w73 (by kernel_rfl) (by kernel_rfl) ?_
                  refine gx_val (.int .i64 2) w73 (by kernel_rfl) (by kernel_rfl) ?_
                  refine gx_nil ?_
                  refine gx_thenN ?_
                  refine hK82 _ _ ?_
                  refine gx_ret ?_
                  refine gx_thenR ?_
                  obtain rfl := Option.some.inj hE69
                  try dsimp only at hO70
                  refine gx_blkR ?_
                  refine gx_thenR ?_
                  refine gx_thenR ?_
                  refine gx_blkR ?_
                  refine gx_thenR ?_
                  obtain rfl := Option.some.inj hO70
                  try dsimp only at hO46
                  have hS83 : St _ _ w73 [rowE .u8 5 A52 c53 l54, rowE .u8 5 none 0 ([])] := hS74.nilrow .u8 5
                  obtain rfl := Option.some.inj hO46
                  exact gx_fin (.tuple #[.slice none (([] : List Int).length) 0, .int .i64 2]) (by kernel_rfl) (by kernel_rfl) ⟨_, rfl, none, 0, rfl, (hS83.pick [1] rfl rfl)⟩
                · refine gd1 12 { dst := some 37, op := _, type := _, pos := _, after := _, guard := _ } (.bool false) rfl hS74 (fun w hSw => run_boolE (decide_eq_false h80) (by kernel_rfl)) ?_
                  refine gd1 13 { dst := some 38, op := _, type := _, pos := _, after := _, guard := _ } (.bool false) rfl hS74 (fun w hSw => by kernel_rfl) ?_
                  refine gd_done (by kernel_rfl) ?_
                  refine gx_thenN ?_
                  refine hK72 _ _ ?_
                  refine gx_no (by kernel_rfl) ?_
                  refine gx_pass ?_
                  refine gx_thenN ?_
                  exact ⟨(fun i => List.getD ((u51 0) :: (u51 1) :: (.int .i64 x55) :: (.bool true) :: (.bool true) :: (.slice A0 p0.length c0) :: (.int .i64 x55) :: (.pointer (Option.map (fun p => p.add (Int.toNat x55 * 1)) A0)) :: (.int .u16 x76) :: (.slice A0 p0.length c0) :: (.int .i64 x55) :: (.int .i64 (IntKind.i64.wrap (x55 - 1))) :: (.pointer (Option.map (fun p => p.add (Int.toNat (IntKind.i64.wrap (x55 - 1)) * 1)) A0)) :: (.int .u16 x78) :: (.bool false) :: (.bool false) :: []) i undef), by kernel_rfl, (Option.some.inj hE69), hS74⟩
              · refine gd1 1 { dst := some 26, op := _, type := _, pos := _, after := _, guard := _ } (.bool false) rfl hS74 (fun w hSw => run_boolE (decide_eq_false h75) (by kernel_rfl)) ?_
                refine gd1 2 { dst := some 27, op := _, type := _, pos := _, after := _, guard := _ } (.bool false) rfl hS74 (fun w hSw => by kernel_rfl) ?_
                refine gd0 3 { dst := some 28, op := _, type := _, pos := _, after := _, guard := _ } rfl hS74 ?_
                refine gd0 4 { dst := some 29, op := _, type := _, pos := _, after := _, guard := _ } rfl hS74 ?_
                refine gd0 5 { dst := some 30, op := _, type := _, pos := _, after := _, guard := _ } rfl hS74 ?_
                refine gd0 6 { dst := some 31, op := _, type := _, pos := _, after := _, guard := _ } rfl hS74 ?_
                refine gd0 7 { dst := some 32, op := _, type := _, pos := _, after := _, guard := _ } rfl hS74 ?_
                refine gd0 8 { dst := some 33, op := _, type := _, pos := _, after := _, guard := _ } rfl hS74 ?_
                refine gd0 9 { dst := some 34, op := _, type := _, pos := _, after := _, guard := _ } rfl hS74 ?_
                refine gd0 10 { dst := some 35, op := _, type := _, pos := _, after := _, guard := _ } rfl hS74 ?_
                refine gd0 11 { dst := some 36, op := _, type := _, pos := _, after := _, guard := _ } rfl hS74 ?_
                refine gd0 12 { dst := some 37, op := _, type := _, pos := _, after := _, guard := _ } rfl hS74 ?_
                refine gd1 13 { dst := some 38, op := _, type := _, pos := _, after := _, guard := _ } (.bool false) rfl hS74 (fun w hSw => by kernel_rfl) ?_
                refine gd_done (by kernel_rfl) ?_
                refine gx_thenN ?_
                refine hK72 _ _ ?_
                refine gx_no (by kernel_rfl) ?_
                refine gx_pass ?_
                refine gx_thenN ?_
                exact ⟨(fun i => List.getD ((u51 0) :: (u51 1) :: (.int .i64 x55) :: (.bool false) :: (.bool false) :: undef :: undef :: undef :: undef :: undef :: undef :: undef :: undef :: undef :: undef :: (.bool false) :: []) i undef), by kernel_rfl, (Option.some.inj hE69), hS74⟩
            · rintro _ w65 ⟨u67, rfl, rfl, hS66⟩
              try dsimp only at hO70
              refine gx_region ?_
              refine gx_val (.slice A52 l54.length c53) w65 (by kernel_rfl) (by kernel_rfl) ?_
              refine gx_val (.slice A0 p0.length c0) w65 (by kernel_rfl) (by kernel_rfl) ?_
              refine gx_val (.int .i64 x55) w65 (by kernel_rfl) (by kernel_rfl) ?_
              obtain ⟨x84, hx85, hO70⟩ := bind_in hO70
              refine gx_val (.pointer (Option.map (fun p => p.add (Int.toNat x55 * 1)) A0)) w65 (by kernel_rfl) (run_ixaddr (E := 49) (s := 1) (k := .i64) (c := c0) rfl (by kernel_rfl) (by kernel_rfl) (by kernel_rfl) (fun _ => by kernel_rfl) (ix_in hx85).1 (ix_in hx85).2.1 (num_nil (hS66.view hv0))) ?_
              refine gx_val (.int .u16 x84) w65 (by kernel_rfl) (run_loadix rfl (by kernel_rfl) (fun _ => by kernel_rfl) (hS66.view hv0) hx85) ?_
              refine gx_val (.int .i64 (IntKind.i64.wrap x84)) w65 (by kernel_rfl) (by kernel_rfl) ?_
              obtain ⟨l90, hc87, hO70⟩ := bind_in hO70
              try dsimp only at hO70
              refine gx_call (rTwo_R  l90 w65) (by kernel_rfl) (by kernel_rfl) (rTwo_ok N (IntKind.i64.wrap x84) _ hc87 w65 ) ?_
              rintro _ w88 ⟨A91, c92, rfl, hT93⟩
              have hS89 : St _ _ w88 [rowE .u8 5 A52 c53 l54, rowE .u8 5 A91 c92 l90] := hS66.take _ hT93
              obtain ⟨l94, ha95, hO70⟩ := bind_in hO70
              obtain ⟨ha95, hq96⟩ := apx_in ha95
              refine gx_R (by kernel_rfl) (st_append rfl (by kernel_rfl) (by kernel_rfl) hS89 0 rfl (hS89.row 1 rfl).1 (hS89.row 1 rfl).2 ha95 (by kernel_rfl) (by kernel_rfl)) ?_
              rintro _ w99 ⟨A97, c98, rfl, hS100⟩
              rw [← hq96] at hS100 ⊢
              have hS100 : St _ _ w99 [rowE .u8 5 A97 c98 l94, rowE .u8 5 A91 c92 l90] := hS100
              refine gx_val (.slice A97 l94.length c98) w99 (by kernel_rfl) (by kernel_rfl) ?_
              refine gx_nil ?_
              refine gx_blkN ?_
              refine gx_thenN ?_
              refine hK64 _ _ ?_
              refine gx_region ?_
              refine gx_val (.int .i64 x55) w99 (by kernel_rfl) (by kernel_rfl) ?_
              refine gx_val (.int .i64 (IntKind.i64.wrap (x55 + 1))) w99 (by kernel_rfl) (by kernel_rfl) ?_
              refine gx_val (.int .i64 (IntKind.i64.wrap (x55 + 1))) w99 (by kernel_rfl) (by kernel_rfl) ?_
              refine gx_nil ?_
              refine gx_thenN ?_
              exact ⟨k56, Nat.lt_succ_self k56, l94, (IntKind.i64.wrap (x55 + 1)), A97, c98, (fun i => List.getD ((u67 0) :: (u67 1) :: (u51 2) :: (u51 3) :: (u51 4) :: (.int .i64 x55) :: (.slice A0 p0.length c0) :: (.int .i64 ((p0.length : Nat) : Int)) :: (.bool true) :: (.int .i64 x55) :: (.int .i64 (IntKind.i64.wrap (x55 + 1))) :: (u67 2) :: (u67 3) :: (u67 4) :: (u67 5) :: (u67 6) :: (u67 7) :: (u67 8) :: (u67 9) :: (u67 10) :: (u67 11) :: (u67 12) :: (u67 13) :: (u67 14) :: (u67 15) :: (.slice A52 l54.length c53) :: (.slice A0 p0.length c0) :: (.int .i64 x55) :: (.pointer (Option.map (fun p => p.add (Int.toNat x55 * 1)) A0)) :: (.int .u16 x84) :: (.int .i64 (IntKind.i64.wrap x84)) :: (.slice A91 l90.length c92) :: (.slice A97 l94.length c98) :: []) i undef), by kernel_rfl, hO70, (hS100.pick [0] rfl rfl)⟩
          · refine gx_val (.bool false) w49 (by kernel_rfl) (run_boolE (decide_eq_false h62) (by kernel_rfl)) ?_
            refine gx_nil ?_
            refine gx_thenN ?_
            refine hK61 _ _ ?_
            refine gx_no (by kernel_rfl) ?_
            refine gx_exit ?_
            refine gx_thenE ?_
            refine gx_thenE ?_
            refine gx_blkE ?_
            refine gx_thenN ?_
            exact ⟨l54, A52, c53, (fun i => List.getD ((u51 0) :: (u51 1) :: (.int .i64 x55) :: (u51 2) :: (u51 3) :: (u51 4) :: (.int .i64 x55) :: (.slice A0 p0.length c0) :: (.int .i64 ((p0.length : Nat) : Int)) :: (.bool false) :: (u51 9) :: (u51 10) :: (u51 11) :: (u51 12) :: (u51 13) :: (u51 14) :: (u51 15) :: (u51 16) :: (u51 17) :: (u51 18) :: (u51 19) :: (u51 20) :: (u51 21) :: (u51 22) :: (u51 23) :: (u51 24) :: (u51 25) :: (u51 26) :: (u51 27) :: (u51 28) :: (u51 29) :: (u51 30) :: (u51 31) :: (u51 32) :: []) i undef), by kernel_rfl, (Option.some.inj hL57), hS50⟩
    · rintro _ w38 ⟨l43, A41, c42, u40, rfl, rfl, hS39⟩
      try dsimp only at hO46
      refine gx_seq (fun K101 hK102 => ?_)
      refine gx_region ?_
      refine gx_val (.slice A41 l43.length c42) w38 (by kernel_rfl) (by kernel_rfl) ?_
      refine gx_val (.slice A41 l43.length c42) w38 (by kernel_rfl) (by kernel_rfl) ?_
      refine gx_val (.int .i64 0) w38 (by kernel_rfl) (by kernel_rfl) ?_
      refine gx_nil ?_
      refine gx_thenN ?_
      refine hK102 _ _ ?_
      refine gx_ret ?_
      obtain rfl := Option.some.inj hO46
      exact gx_fin (.tuple #[.slice A41 l43.length c42, .int .i64 0]) (by kernel_rfl) (by kernel_rfl) ⟨_, rfl, A41, c42, rfl, hS39⟩

end Go.Proofs.Ytfgienbhdpmekaa

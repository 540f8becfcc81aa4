/-
  The statements.
-/
import Derived.Test.YtfgienbhdpmekaaT5
import Derived.Test.YtfgienbhdpmekaaT1
namespace Go.Proofs.Ytfgienbhdpmekaa
open Go Go.RowKit

def rPutCls_L2 (N : Nat) (p0 : List Int) (x35 : Int) : Nat → Int → Option (Int)
  | 0, _ => none
  | k66+1, x65 => (if x65 < ((p0.length : Nat) : Int) then ((ix p0 x65).bind fun x75 => ((ix p0 x35).bind fun x77 => (if x75 = x77 then rPutCls_L2 N p0 x35 k66 (IntKind.i64.wrap (x65 + 1)) else some (x65)))) else some (x65))
def rPutCls_L1 (N : Nat) (p0 : List Int) : Nat → List Int → Int → Int → Option (Ctl (List Int × Int) (List Int × Int))
  | 0, _, _, _ => none
  | k36+1, l33, x34, x35 => (if x35 < ((p0.length : Nat) : Int) then ((ix p0 x35).bind fun x47 => (if x47 > 4 then some (Ctl.ret ([], 2)) else ((rPutCls_L2 N p0 x35 N x35 : Option (Int)).bind fun x58 => ((ix p0 x35).bind fun x84 => (if x84 ≠ 0 then ((rTwo N x35).bind fun l93 => ((apx l33 l93).bind fun l97 => ((rTwo N (IntKind.i64.wrap (x58 - 1))).bind fun l110 => ((apx l97 l110).bind fun l114 => ((ix p0 x35).bind fun x123 => ((rTwo N (IntKind.i64.wrap x123)).bind fun l129 => ((apx l114 l129).bind fun l133 => rPutCls_L1 N p0 k36 l133 (IntKind.i64.wrap (x34 + 1)) x58))))))) else rPutCls_L1 N p0 k36 l33 x34 x58))))) else some (Ctl.go (l33, x34)))
def rPutCls (N : Nat) (p0 : List Int) : Option (List Int × Int) :=
  (if ((p0.length : Nat) : Int) > 65535 then some ([], 2) else ((rPutCls_L1 N p0 N ([]) 0 0 : Option (Ctl (List Int × Int) (List Int × Int))).bind fun | Ctl.go (l20, x21) => ((rTwo N x21).bind fun l148 => ((apx ([0, 2]) l148).bind fun l152 => ((apx l152 l20).bind fun l161 => some (l161, 0)))) | Ctl.ret r => some r))

def rPutCls_R (r : List Int × Int) (w0 : World) (v : Value) (w : World) : Prop := ∃ (A0' : Option Addr) (c0' : Nat), v = .tuple #[.slice A0' r.1.length c0', .int .i64 r.2] ∧ St [] w0 w [rowE .u8 5 A0' c0' r.1]

set_option maxRecDepth 100000 in
set_option maxHeartbeats 4000000 in
theorem rPutCls_ok (N : Nat) (p0 : List Int) (A0 : Option Addr) (c0 : Nat) (r : List Int × Int) (hF : rPutCls N p0 = some r) (w0 : World) (hv0 : Vw [] .u8 w0 A0 c0 p0) :
    Calls Try.prog 15 #[.slice A0 p0.length c0] w0 fun e w => ∃ v, e = .returned v ∧ rPutCls_R r w0 v w := by
  have hS0 := St.start w0
  unfold rPutCls at hF
  refine calls_of Try.func15 rfl ⟨((.slice A0 p0.length c0) :: undef :: undef :: undef :: undef :: undef :: undef :: undef :: undef :: undef :: undef :: undef :: undef :: undef :: undef :: undef :: undef :: undef :: undef :: undef :: undef :: undef :: undef :: undef :: undef :: undef :: undef :: undef :: undef :: undef :: undef :: undef :: undef :: undef :: undef :: undef :: undef :: undef :: undef :: undef :: undef :: undef :: undef :: undef :: undef :: undef :: undef :: undef :: undef :: undef :: undef :: undef :: undef :: undef :: undef :: undef :: undef :: undef :: undef :: undef :: undef :: undef :: undef :: undef :: undef :: undef :: undef :: undef :: undef :: undef :: undef :: []).toArray, []⟩ (by kernel_rfl) ?_
  refine gx_seq (fun K1 hK2 => ?_)
  refine gx_region ?_
  refine gx_val (.slice none 0 0) w0 (by kernel_rfl) (by kernel_rfl) ?_
  refine gx_val (.int .i64 0) w0 (by kernel_rfl) (by kernel_rfl) ?_
  refine gx_nil ?_
  refine gx_thenN ?_
  refine hK2 _ _ ?_
  refine gx_seq (fun K3 hK4 => ?_)
  refine gx_seq (fun K5 hK6 => ?_)
  refine gx_region ?_
  refine gx_val (.slice A0 p0.length c0) w0 (by kernel_rfl) (by kernel_rfl) ?_
  refine gx_val (.int .i64 ((p0.length : Nat) : Int)) w0 (by kernel_rfl) (by kernel_rfl) ?_
  rcases if_in hF with ⟨h7, hF⟩ | ⟨h7, hF⟩
  · refine gx_val (.bool true) w0 (by kernel_rfl) (run_boolE (decide_eq_true h7) (by kernel_rfl)) ?_
    refine gx_nil ?_
    refine gx_thenN ?_
    refine hK6 _ _ ?_
    refine gx_yes (by kernel_rfl) ?_
    refine gx_seq (fun K8 hK9 => ?_)
    refine gx_region ?_
    refine gx_val (.slice none 0 0) w0 (by kernel_rfl) (by kernel_rfl) ?_
    refine gx_val (.int .i64 2) w0 (by kernel_rfl) (by kernel_rfl) ?_
    refine gx_nil ?_
    refine gx_thenN ?_
    refine hK9 _ _ ?_
    refine gx_ret ?_
    refine gx_thenR ?_
    have hS10 : St _ _ w0 [rowE .u8 5 none 0 ([])] := hS0.nilrow .u8 5
    obtain rfl := Option.some.inj hF
    exact gx_fin (.tuple #[.slice none (([] : List Int).length) 0, .int .i64 2]) (by kernel_rfl) (by kernel_rfl) ⟨_, rfl, none, 0, rfl, hS10⟩
  · refine gx_val (.bool false) w0 (by kernel_rfl) (run_boolE (decide_eq_false h7) (by kernel_rfl)) ?_
    refine gx_nil ?_
    refine gx_thenN ?_
    refine hK6 _ _ ?_
    refine gx_no (by kernel_rfl) ?_
    refine gx_pass ?_
    refine gx_thenN ?_
    refine hK4 _ _ ?_
    refine gx_seq (fun K11 hK12 => ?_)
    refine gx_region ?_
    refine gx_val (.slice none 0 0) w0 (by kernel_rfl) (by kernel_rfl) ?_
    refine gx_nil ?_
    refine gx_thenN ?_
    refine hK12 _ _ ?_
    refine gx_seq (fun K13 hK14 => ?_)
    refine gx_region ?_
    refine gx_val (.int .i64 0) w0 (by kernel_rfl) (by kernel_rfl) ?_
    refine gx_nil ?_
    refine gx_thenN ?_
    refine hK14 _ _ ?_
    obtain ⟨c22, hE23, hO24⟩ := bind_in hF
    refine gx_cut (fun a w => ∃ (l20 : List Int) (x21 : Int) (A18 : Option Addr) (c19 : Nat) (u17 : Nat → Value), a = ⟨((.slice A0 p0.length c0) :: undef :: (u17 0) :: (u17 1) :: (.slice A18 l20.length c19) :: (.int .i64 x21) :: (u17 2) :: (u17 3) :: undef :: (.slice A0 p0.length c0) :: (.int .i64 ((p0.length : Nat) : Int)) :: (.bool false) :: (u17 4) :: (u17 5) :: (u17 6) :: (u17 7) :: (u17 8) :: (u17 9) :: (u17 10) :: (u17 11) :: (u17 12) :: (u17 13) :: (u17 14) :: (u17 15) :: (u17 16) :: (u17 17) :: (u17 18) :: (u17 19) :: (u17 20) :: (u17 21) :: (u17 22) :: (u17 23) :: (u17 24) :: (u17 25) :: (u17 26) :: (u17 27) :: (u17 28) :: (u17 29) :: (u17 30) :: (u17 31) :: (u17 32) :: (u17 33) :: (u17 34) :: (u17 35) :: (u17 36) :: (u17 37) :: (u17 38) :: (u17 39) :: (u17 40) :: (u17 41) :: (u17 42) :: (u17 43) :: (u17 44) :: (u17 45) :: (u17 46) :: (u17 47) :: (u17 48) :: (u17 49) :: (u17 50) :: (u17 51) :: (u17 52) :: (u17 53) :: (u17 54) :: (u17 55) :: undef :: undef :: undef :: undef :: undef :: undef :: undef :: []).toArray, []⟩ ∧ Ctl.go (l20, x21) = c22 ∧ St [] w0 w [rowE .u8 5 A18 c19 l20]) ?_ ?_
    · refine gx_seq (fun K25 hK26 => ?_)
      refine gx_region ?_
      refine gx_val (.int .i64 0) w0 (by kernel_rfl) (by kernel_rfl) ?_
      refine gx_nil ?_
      refine gx_thenN ?_
      refine hK26 _ _ ?_
      refine gx_block ?_
      have hS27 : St _ _ w0 [rowE .u8 5 none 0 ([])] := hS0.nilrow .u8 5
      refine gx_loop (fun k a w => ∃ (l33 : List Int) (x34 : Int) (x35 : Int) (A31 : Option Addr) (c32 : Nat) (u30 : Nat → Value), a = ⟨((.slice A0 p0.length c0) :: undef :: (u30 0) :: (u30 1) :: (.slice A31 l33.length c32) :: (.int .i64 x34) :: (.int .i64 x35) :: (u30 2) :: undef :: (.slice A0 p0.length c0) :: (.int .i64 ((p0.length : Nat) : Int)) :: (.bool false) :: (u30 3) :: (u30 4) :: (u30 5) :: (u30 6) :: (u30 7) :: (u30 8) :: (u30 9) :: (u30 10) :: (u30 11) :: (u30 12) :: (u30 13) :: (u30 14) :: (u30 15) :: (u30 16) :: (u30 17) :: (u30 18) :: (u30 19) :: (u30 20) :: (u30 21) :: (u30 22) :: (u30 23) :: (u30 24) :: (u30 25) :: (u30 26) :: (u30 27) :: (u30 28) :: (u30 29) :: (u30 30) :: (u30 31) :: (u30 32) :: (u30 33) :: (u30 34) :: (u30 35) :: (u30 36) :: (u30 37) :: (u30 38) :: (u30 39) :: (u30 40) :: (u30 41) :: (u30 42) :: (u30 43) :: (u30 44) :: (u30 45) :: (u30 46) :: (u30 47) :: (u30 48) :: (u30 49) :: (u30 50) :: (u30 51) :: (u30 52) :: (u30 53) :: (u30 54) :: undef :: undef :: undef :: undef :: undef :: undef :: undef :: []).toArray, []⟩ ∧ rPutCls_L1 N p0 k l33 x34 x35 = some c22 ∧ St [] w0 w [rowE .u8 5 A31 c32 l33]) N ?_ ?_
      · exact ⟨([]), 0, 0, none, 0, (fun i => List.getD ((.slice none 0 0) :: (.int .i64 0) :: undef :: undef :: undef :: undef :: undef :: undef :: undef :: undef :: undef :: undef :: undef :: undef :: undef :: undef :: undef :: undef :: undef :: undef :: undef :: undef :: undef :: undef :: undef :: undef :: undef :: undef :: undef :: undef :: undef :: undef :: undef :: undef :: undef :: undef :: undef :: undef :: undef :: undef :: undef :: undef :: undef :: undef :: undef :: undef :: undef :: undef :: undef :: undef :: undef :: undef :: undef :: undef :: undef :: []) i undef), by kernel_rfl, hE23, hS27⟩
      · rintro k36 _ w28 ⟨l33, x34, x35, A31, c32, u30, rfl, hL37, hS29⟩
        cases k36 with
        | zero => cases hL37
        | succ k36 =>
          rw [rPutCls_L1] at hL37
          refine gx_seq (fun K38 hK39 => ?_)
          refine gx_seq (fun K40 hK41 => ?_)
          refine gx_region ?_
          refine gx_val (.int .i64 x35) w28 (by kernel_rfl) (by kernel_rfl) ?_
          refine gx_val (.slice A0 p0.length c0) w28 (by kernel_rfl) (by kernel_rfl) ?_
          refine gx_val (.int .i64 ((p0.length : Nat) : Int)) w28 (by kernel_rfl) (by kernel_rfl) ?_
          rcases if_in hL37 with ⟨h42, hL37⟩ | ⟨h42, hL37⟩
          · refine gx_val (.bool true) w28 (by kernel_rfl) (run_boolE (decide_eq_true h42) (by kernel_rfl)) ?_
            refine gx_nil ?_
            refine gx_thenN ?_
            refine hK41 _ _ ?_
            refine gx_yes (by kernel_rfl) ?_
            refine gx_pass ?_
            refine gx_thenN ?_
            refine hK39 _ _ ?_
            refine gx_block ?_
            refine gx_seq (fun K43 hK44 => ?_)
            refine gx_seq (fun K45 hK46 => ?_)
            refine gx_region ?_
            refine gx_val (.slice A0 p0.length c0) w28 (by kernel_rfl) (by kernel_rfl) ?_
            refine gx_val (.int .i64 x35) w28 (by kernel_rfl) (by kernel_rfl) ?_
            obtain ⟨x47, hx48, hL37⟩ := bind_in hL37
            refine gx_val (.pointer (Option.map (fun p => p.add (Int.toNat x35 * 1)) A0)) w28 (by kernel_rfl) (run_ixaddr (E := 5) (s := 1) (k := .i64) (c := c0) rfl (by kernel_rfl) (by kernel_rfl) (by kernel_rfl) (fun _ => by kernel_rfl) (ix_in hx48).1 (ix_in hx48).2.1 (num_nil (hS29.view hv0))) ?_
            refine gx_val (.int .u8 x47) w28 (by kernel_rfl) (run_loadix rfl (by kernel_rfl) (fun _ => by kernel_rfl) (hS29.view hv0) hx48) ?_
            rcases if_in hL37 with ⟨h49, hL37⟩ | ⟨h49, hL37⟩
            · refine gx_val (.bool true) w28 (by kernel_rfl) (run_boolE (decide_eq_true h49) (by kernel_rfl)) ?_
              refine gx_nil ?_
              refine gx_thenN ?_
              refine hK46 _ _ ?_
              refine gx_yes (by kernel_rfl) ?_
              refine gx_seq (fun K50 hK51 => ?_)
              refine gx_region ?_
              refine gx_val (.slice none 0 0) w28 (by kernel_rfl) (by kernel_rfl) ?_
              refine gx_val (.int .i64 2) w28 (by kernel_rfl) (by kernel_rfl) ?_
              refine gx_nil ?_
              refine gx_thenN ?_
              refine hK51 _ _ ?_
              refine gx_ret ?_
              refine gx_thenR ?_
              refine gx_blkR ?_
              refine gx_thenR ?_
              refine gx_blkR ?_
              refine gx_thenR ?_
              obtain rfl := Option.some.inj hL37
              try dsimp only at hO24
              have hS52 : St _ _ w28 [rowE .u8 5 A31 c32 l33, rowE .u8 5 none 0 ([])] := hS29.nilrow .u8 5
              obtain rfl := Option.some.inj hO24
              exact gx_fin (.tuple #[.slice none (([] : List Int).length) 0, .int .i64 2]) (by kernel_rfl) (by kernel_rfl) ⟨_, rfl, none, 0, rfl, (hS52.pick [1] rfl rfl)⟩
            · refine gx_val (.bool false) w28 (by kernel_rfl) (run_boolE (decide_eq_false h49) (by kernel_rfl)) ?_
              refine gx_nil ?_
              refine gx_thenN ?_
              refine hK46 _ _ ?_
              refine gx_no (by kernel_rfl) ?_
              refine gx_pass ?_
              refine gx_thenN ?_
              refine hK44 _ _ ?_
              refine gx_seq (fun K53 hK54 => ?_)
              refine gx_region ?_
              refine gx_val (.int .i64 x35) w28 (by kernel_rfl) (by kernel_rfl) ?_
              refine gx_val (.int .i64 x35) w28 (by kernel_rfl) (by kernel_rfl) ?_
              refine gx_nil ?_
              refine gx_thenN ?_
              refine hK54 _ _ ?_
              obtain ⟨c59, hE60, hO61⟩ := bind_in hL37
              refine gx_cut (fun a w => ∃ (x58 : Int) (u57 : Nat → Value), a = ⟨((.slice A0 p0.length c0) :: undef :: (u30 0) :: (u30 1) :: (.slice A31 l33.length c32) :: (.int .i64 x34) :: (.int .i64 x35) :: (.int .i64 x58) :: undef :: (.slice A0 p0.length c0) :: (.int .i64 ((p0.length : Nat) : Int)) :: (.bool false) :: (.int .i64 x35) :: (.slice A0 p0.length c0) :: (.int .i64 ((p0.length : Nat) : Int)) :: (.bool true) :: (.slice A0 p0.length c0) :: (.int .i64 x35) :: (.pointer (Option.map (fun p => p.add (Int.toNat x35 * 1)) A0)) :: (.int .u8 x47) :: (.bool false) :: (.int .i64 x35) :: (u57 0) :: (u57 1) :: (u57 2) :: (u57 3) :: (u57 4) :: (u57 5) :: (u57 6) :: (u57 7) :: (u57 8) :: (u57 9) :: (u57 10) :: (u57 11) :: (u57 12) :: (u57 13) :: (u57 14) :: (u57 15) :: (u57 16) :: (u30 30) :: (u30 31) :: (u30 32) :: (u30 33) :: (u30 34) :: (u30 35) :: (u30 36) :: (u30 37) :: (u30 38) :: (u30 39) :: (u30 40) :: (u30 41) :: (u30 42) :: (u30 43) :: (u30 44) :: (u30 45) :: (u30 46) :: (u30 47) :: (u30 48) :: (u30 49) :: (u30 50) :: (u30 51) :: (u30 52) :: (u30 53) :: (u30 54) :: undef :: undef :: undef :: undef :: undef :: undef :: undef :: []).toArray, []⟩ ∧ x58 = c59 ∧ St [] w0 w [rowE .u8 5 A31 c32 l33]) ?_ ?_
              · refine gx_block ?_
                refine gx_loop (fun k a w => ∃ (x65 : Int) (u64 : Nat → Value), a = ⟨((.slice A0 p0.length c0) :: undef :: (u30 0) :: (u30 1) :: (.slice A31 l33.length c32) :: (.int .i64 x34) :: (.int .i64 x35) :: (.int .i64 x65) :: undef :: (.slice A0 p0.length c0) :: (.int .i64 ((p0.length : Nat) : Int)) :: (.bool false) :: (.int .i64 x35) :: (.slice A0 p0.length c0) :: (.int .i64 ((p0.length : Nat) : Int)) :: (.bool true) :: (.slice A0 p0.length c0) :: (.int .i64 x35) :: (.pointer (Option.map (fun p => p.add (Int.toNat x35 * 1)) A0)) :: (.int .u8 x47) :: (.bool false) :: (.int .i64 x35) :: (u64 0) :: (u64 1) :: (u64 2) :: (u64 3) :: (u64 4) :: (u64 5) :: (u64 6) :: (u64 7) :: (u64 8) :: (u64 9) :: (u64 10) :: (u64 11) :: (u64 12) :: (u64 13) :: (u64 14) :: (u64 15) :: (u64 16) :: (u30 30) :: (u30 31) :: (u30 32) :: (u30 33) :: (u30 34) :: (u30 35) :: (u30 36) :: (u30 37) :: (u30 38) :: (u30 39) :: (u30 40) :: (u30 41) :: (u30 42) :: (u30 43) :: (u30 44) :: (u30 45) :: (u30 46) :: (u30 47) :: (u30 48) :: (u30 49) :: (u30 50) :: (u30 51) :: (u30 52) :: (u30 53) :: (u30 54) :: undef :: undef :: undef :: undef :: undef :: undef :: undef :: []).toArray, []⟩ ∧ rPutCls_L2 N p0 x35 k x65 = some c59 ∧ St [] w0 w [rowE .u8 5 A31 c32 l33]) N ?_ ?_
                · exact ⟨x35, (fun i => List.getD ((u30 13) :: (u30 14) :: (u30 15) :: (u30 16) :: (u30 17) :: (u30 18) :: (u30 19) :: (u30 20) :: (u30 21) :: (u30 22) :: (u30 23) :: (u30 24) :: (u30 25) :: (u30 26) :: (u30 27) :: (u30 28) :: (u30 29) :: []) i undef), by kernel_rfl, hE60, hS29⟩
                · rintro k66 _ w62 ⟨x65, u64, rfl, hL67, hS63⟩
                  cases k66 with
                  | zero => cases hL67
                  | succ k66 =>
                    rw [rPutCls_L2] at hL67
                    refine gx_seq (fun K68 hK69 => ?_)
                    refine gx_seq (fun K70 hK71 => ?_)
                    refine gd_start (fun w => St [] w0 w [rowE .u8 5 A31 c32 l33]) 15 #[false, false, false, false, false, false, false, false, false, false, false, false, false, false, false] (by kernel_rfl) (by kernel_rfl) ?_
                    have hS73 := hS63.drew
                    generalize w62.drew = w72 at hS73 ⊢
                    refine gd1 0 { dst := some 22, op := _, type := _, pos := _, after := _, guard := _ } (.int .i64 x65) rfl hS73 (fun w hSw => by kernel_rfl) ?_
                    refine gd1 1 { dst := some 23, op := _, type := _, pos := _, after := _, guard := _ } (.slice A0 p0.length c0) rfl hS73 (fun w hSw => by kernel_rfl) ?_
                    refine gd1 2 { dst := some 24, op := _, type := _, pos := _, after := _, guard := _ } (.int .i64 ((p0.length : Nat) : Int)) rfl hS73 (fun w hSw => by kernel_rfl) ?_
                    rcases if_in hL67 with ⟨h74, hL67⟩ | ⟨h74, hL67⟩
                    · refine gd1 3 { dst := some 25, op := _, type := _, pos := _, after := _, guard := _ } (.bool true) rfl hS73 (fun w hSw => run_boolE (decide_eq_true h74) (by kernel_rfl)) ?_
                      refine gd1 4 { dst := some 26, op := _, type := _, pos := _, after := _, guard := _ } (.bool true) rfl hS73 (fun w hSw => by kernel_rfl) ?_
                      refine gd1 5 { dst := some 27, op := _, type := _, pos := _, after := _, guard := _ } (.slice A0 p0.length c0) rfl hS73 (fun w hSw => by kernel_rfl) ?_
                      refine gd1 6 { dst := some 28, op := _, type := _, pos := _, after := _, guard := _ } (.int .i64 x65) rfl hS73 (fun w hSw => by kernel_rfl) ?_
                      obtain ⟨x75, hx76, hL67⟩ := bind_in hL67
                      refine gd1 7 { dst := some 29, op := _, type := _, pos := _, after := _, guard := _ } (.pointer (Option.map (fun p => p.add (Int.toNat x65 * 1)) A0)) rfl hS73 (fun w hSw => run_ixaddr (E := 5) (s := 1) (k := .i64) (c := c0) rfl (by kernel_rfl) (by kernel_rfl) (by kernel_rfl) (fun _ => by kernel_rfl) (ix_in hx76).1 (ix_in hx76).2.1 (num_nil (hSw.view hv0))) ?_
                      refine gd1 8 { dst := some 30, op := _, type := _, pos := _, after := _, guard := _ } (.int .u8 x75) rfl hS73 (fun w hSw => run_loadix rfl (by kernel_rfl) (fun _ => by kernel_rfl) (hSw.view hv0) hx76) ?_
                      refine gd1 9 { dst := some 31, op := _, type := _, pos := _, after := _, guard := _ } (.slice A0 p0.length c0) rfl hS73 (fun w hSw => by kernel_rfl) ?_
                      refine gd1 10 { dst := some 32, op := _, type := _, pos := _, after := _, guard := _ } (.int .i64 x35) rfl hS73 (fun w hSw => by kernel_rfl) ?_
                      obtain ⟨x77, hx78, hL67⟩ := bind_in hL67
                      refine gd1 11 { dst := some 33, op := _, type := _, pos := _, after := _, guard := _ } (.pointer (Option.map (fun p => p.add (Int.toNat x35 * 1)) A0)) rfl hS73 (fun w hSw => run_ixaddr (E := 5) (s := 1) (k := .i64) (c := c0) rfl (by kernel_rfl) (by kernel_rfl) (by kernel_rfl) (fun _ => by kernel_rfl) (ix_in hx78).1 (ix_in hx78).2.1 (num_nil (hSw.view hv0))) ?_
                      refine gd1 12 { dst := some 34, op := _, type := _, pos := _, after := _, guard := _ } (.int .u8 x77) rfl hS73 (fun w hSw => run_loadix rfl (by kernel_rfl) (fun _ => by kernel_rfl) (hSw.view hv0) hx78) ?_
                      rcases if_in hL67 with ⟨h79, hL67⟩ | ⟨h79, hL67⟩
                      · refine gd1 13 { dst := some 35, op := _, type := _, pos := _, after := _, guard := _ } (.bool true) rfl hS73 (fun w hSw => run_boolE (decide_eq_true h79) (by kernel_rfl)) ?_
                        refine gd1 14 { dst := some 36, op := _, type := _, pos := _, after := _, guard := _ } (.bool true) rfl hS73 (fun w hSw => by kernel_rfl) ?_
                        refine gd_done (by kernel_rfl) ?_
                        refine gx_thenN ?_
                        refine hK71 _ _ ?_
                        refine gx_yes (by kernel_rfl) ?_
                        refine gx_pass ?_
                        refine gx_thenN ?_
                        refine hK69 _ _ ?_
                        refine gx_block ?_
                        refine gx_region ?_
                        refine gx_val (.int .i64 x65) w72 (by kernel_rfl) (by kernel_rfl) ?_
                        refine gx_val (.int .i64 (IntKind.i64.wrap (x65 + 1))) w72 (by kernel_rfl) (by kernel_rfl) ?_
                        refine gx_val (.int .i64 (IntKind.i64.wrap (x65 + 1))) w72 (by kernel_rfl) (by kernel_rfl) ?_
                        refine gx_nil ?_
                        refine gx_blkN ?_
                        refine gx_thenN ?_
                        exact ⟨k66, Nat.lt_succ_self k66, (IntKind.i64.wrap (x65 + 1)), (fun i => List.getD ((.int .i64 x65) :: (.slice A0 p0.length c0) :: (.int .i64 ((p0.length : Nat) : Int)) :: (.bool true) :: (.bool true) :: (.slice A0 p0.length c0) :: (.int .i64 x65) :: (.pointer (Option.map (fun p => p.add (Int.toNat x65 * 1)) A0)) :: (.int .u8 x75) :: (.slice A0 p0.length c0) :: (.int .i64 x35) :: (.pointer (Option.map (fun p => p.add (Int.toNat x35 * 1)) A0)) :: (.int .u8 x77) :: (.bool true) :: (.bool true) :: (.int .i64 x65) :: (.int .i64 (IntKind.i64.wrap (x65 + 1))) :: []) i undef), by kernel_rfl, hL67, hS73⟩
                      · refine gd1 13 { dst := some 35, op := _, type := _, pos := _, after := _, guard := _ } (.bool false) rfl hS73 (fun w hSw => run_boolE (decide_eq_false h79) (by kernel_rfl)) ?_
                        refine gd1 14 { dst := some 36, op := _, type := _, pos := _, after := _, guard := _ } (.bool false) rfl hS73 (fun w hSw => by kernel_rfl) ?_
                        refine gd_done (by kernel_rfl) ?_
                        refine gx_thenN ?_
                        refine hK71 _ _ ?_
                        refine gx_no (by kernel_rfl) ?_
                        refine gx_exit ?_
                        refine gx_thenE ?_
                        refine gx_thenE ?_
                        refine gx_blkE ?_
                        refine gx_thenN ?_
                        exact ⟨x65, (fun i => List.getD ((.int .i64 x65) :: (.slice A0 p0.length c0) :: (.int .i64 ((p0.length : Nat) : Int)) :: (.bool true) :: (.bool true) :: (.slice A0 p0.length c0) :: (.int .i64 x65) :: (.pointer (Option.map (fun p => p.add (Int.toNat x65 * 1)) A0)) :: (.int .u8 x75) :: (.slice A0 p0.length c0) :: (.int .i64 x35) :: (.pointer (Option.map (fun p => p.add (Int.toNat x35 * 1)) A0)) :: (.int .u8 x77) :: (.bool false) :: (.bool false) :: (u64 15) :: (u64 16) :: []) i undef), by kernel_rfl, (Option.some.inj hL67), hS73⟩
                    · refine gd1 3 { dst := some 25, op := _, type := _, pos := _, after := _, guard := _ } (.bool false) rfl hS73 (fun w hSw => run_boolE (decide_eq_false h74) (by kernel_rfl)) ?_
                      refine gd1 4 { dst := some 26, op := _, type := _, pos := _, after := _, guard := _ } (.bool false) rfl hS73 (fun w hSw => by kernel_rfl) ?_
                      refine gd0 5 { dst := some 27, op := _, type := _, pos := _, after := _, guard := _ } rfl hS73 ?_
                      refine gd0 6 { dst := some 28, op := _, type := _, pos := _, after := _, guard := _ } rfl hS73 ?_
                      refine gd0 7 { dst := some 29, op := _, type := _, pos := _, after := _, guard := _ } rfl hS73 ?_
                      refine gd0 8 { dst := some 30, op := _, type := _, pos := _, after := _, guard := _ } rfl hS73 ?_
                      refine gd0 9 { dst := some 31, op := _, type := _, pos := _, after := _, guard := _ } rfl hS73 ?_
                      refine gd0 10 { dst := some 32, op := _, type := _, pos := _, after := _, guard := _ } rfl hS73 ?_
                      refine gd0 11 { dst := some 33, op := _, type := _, pos := _, after := _, guard := _ } rfl hS73 ?_
                      refine gd0 12 { dst := some 34, op := _, type := _, pos := _, after := _, guard := _ } rfl hS73 ?_
                      refine gd0 13 { dst := some 35, op := _, type := _, pos := _, after := _, guard := _ } rfl hS73 ?_
                      refine gd1 14 { dst := some 36, op := _, type := _, pos := _, after := _, guard := _ } (.bool false) rfl hS73 (fun w hSw => by kernel_rfl) ?_
                      refine gd_done (by kernel_rfl) ?_
                      refine gx_thenN ?_
                      refine hK71 _ _ ?_
                      refine gx_no (by kernel_rfl) ?_
                      refine gx_exit ?_
                      refine gx_thenE ?_
                      refine gx_thenE ?_
                      refine gx_blkE ?_
                      refine gx_thenN ?_
                      exact ⟨x65, (fun i => List.getD ((.int .i64 x65) :: (.slice A0 p0.length c0) :: (.int .i64 ((p0.length : Nat) : Int)) :: (.bool false) :: (.bool false) :: undef :: undef :: undef :: undef :: undef :: undef :: undef :: undef :: undef :: (.bool false) :: (u64 15) :: (u64 16) :: []) i undef), by kernel_rfl, (Option.some.inj hL67), hS73⟩
              · rintro _ w55 ⟨x58, u57, rfl, rfl, hS56⟩
                try dsimp only at hO61
                refine gx_seq (fun K80 hK81 => ?_)
                refine gx_seq (fun K82 hK83 => ?_)
                refine gx_region ?_
                refine gx_val (.slice A0 p0.length c0) w55 (by kernel_rfl) (by kernel_rfl) ?_
                refine gx_val (.int .i64 x35) w55 (by kernel_rfl) (by kernel_rfl) ?_
                obtain ⟨x84, hx85, hO61⟩ := bind_in hO61
                refine gx_val (.pointer (Option.map (fun p => p.add (Int.toNat x35 * 1)) A0)) w55 (by kernel_rfl) (run_ixaddr (E := 5) (s := 1) (k := .i64) (c := c0) rfl (by kernel_rfl) (by kernel_rfl) (by kernel_rfl) (fun _ => by kernel_rfl) (ix_in hx85).1 (ix_in hx85).2.1 (num_nil (hS56.view hv0))) ?_
                refine gx_val (.int .u8 x84) w55 (by kernel_rfl) (run_loadix rfl (by kernel_rfl) (fun _ => by kernel_rfl) (hS56.view hv0) hx85) ?_
                rcases if_in hO61 with ⟨h86, hO61⟩ | ⟨h86, hO61⟩
                · refine gx_val (.bool true) w55 (by kernel_rfl) (run_boolE (ne_yes h86) (by kernel_rfl)) ?_
                  refine gx_nil ?_
                  refine gx_thenN ?_
                  refine hK83 _ _ ?_
                  refine gx_yes (by kernel_rfl) ?_
                  refine gx_seq (fun K87 hK88 => ?_)
                  refine gx_region ?_
                  refine gx_val (.slice A31 l33.length c32) w55 (by kernel_rfl) (by kernel_rfl) ?_
                  refine gx_val (.int .i64 x35) w55 (by kernel_rfl) (by kernel_rfl) ?_
                  obtain ⟨l93, hc90, hO61⟩ := bind_in hO61
                  try dsimp only at hO61
                  refine gx_call (rTwo_R  l93 w55) (by kernel_rfl) (by kernel_rfl) (rTwo_ok N x35 _ hc90 w55 ) ?_
                  rintro _ w91 ⟨A94, c95, rfl, hT96⟩
                  have hS92 : St _ _ w91 [rowE .u8 5 A31 c32 l33, rowE .u8 5 A94 c95 l93] := hS56.take _ hT96
                  obtain ⟨l97, ha98, hO61⟩ := bind_in hO61
                  obtain ⟨ha98, hq99⟩ := apx_in ha98
                  refine gx_R (by kernel_rfl) (st_append rfl (by kernel_rfl) (by kernel_rfl) hS92 0 rfl (hS92.row 1 rfl).1 (hS92.row 1 rfl).2 ha98 (by kernel_rfl) (by kernel_rfl)) ?_
                  rintro _ w102 ⟨A100, c101, rfl, hS103⟩
                  rw [← hq99] at hS103 ⊢
                  have hS103 : St _ _ w102 [rowE .u8 5 A100 c101 l97, rowE .u8 5 A94 c95 l93] := hS103
                  refine gx_val (.slice A100 l97.length c101) w102 (by kernel_rfl) (by kernel_rfl) ?_
                  refine gx_nil ?_
                  refine gx_thenN ?_
                  refine hK88 _ _ ?_
                  refine gx_seq (fun K104 hK105 => ?_)
                  refine gx_region ?_
                  refine gx_val (.slice A100 l97.length c101) w102 (by kernel_rfl) (by kernel_rfl) ?_
                  refine gx_val (.int .i64 x58) w102 (by kernel_rfl) (by kernel_rfl) ?_
                  refine gx_val (.int .i64 (IntKind.i64.wrap (x58 - 1))) w102 (by kernel_rfl) (by kernel_rfl) ?_
                  obtain ⟨l110, hc107, hO61⟩ := bind_in hO61
                  try dsimp only at hO61
                  refine gx_call (rTwo_R  l110 w102) (by kernel_rfl) (by kernel_rfl) (rTwo_ok N (IntKind.i64.wrap (x58 - 1)) _ hc107 w102 ) ?_
                  rintro _ w108 ⟨A111, c112, rfl, hT113⟩
                  have hS109 : St _ _ w108 [rowE .u8 5 A100 c101 l97, rowE .u8 5 A94 c95 l93, rowE .u8 5 A111 c112 l110] := hS103.take _ hT113
                  obtain ⟨l114, ha115, hO61⟩ := bind_in hO61
                  obtain ⟨ha115, hq116⟩ := apx_in ha115
                  refine gx_R (by kernel_rfl) (st_append rfl (by kernel_rfl) (by kernel_rfl) hS109 0 rfl (hS109.row 2 rfl).1 (hS109.row 2 rfl).2 ha115 (by kernel_rfl) (by kernel_rfl)) ?_
                  rintro _ w119 ⟨A117, c118, rfl, hS120⟩
                  rw [← hq116] at hS120 ⊢
                  have hS120 : St _ _ w119 [rowE .u8 5 A117 c118 l114, rowE .u8 5 A94 c95 l93, rowE .u8 5 A111 c112 l110] := hS120
                  refine gx_val (.slice A117 l114.length c118) w119 (by kernel_rfl) (by kernel_rfl) ?_
                  refine gx_nil ?_
                  refine gx_thenN ?_
                  refine hK105 _ _ ?_
                  refine gx_seq (fun K121 hK122 => ?_)
                  refine gx_region ?_
                  refine gx_val (.slice A117 l114.length c118) w119 (by kernel_rfl) (by kernel_rfl) ?_
                  refine gx_val (.slice A0 p0.length c0) w119 (by kernel_rfl) (by kernel_rfl) ?_
                  refine gx_val (.int .i64 x35) w119 (by kernel_rfl) (by kernel_rfl) ?_
                  obtain ⟨x123, hx124, hO61⟩ := bind_in hO61
                  refine gx_val (.pointer (Option.map (fun p => p.add (Int.toNat x35 * 1)) A0)) w119 (by kernel_rfl) (run_ixaddr (E := 5) (s := 1) (k := .i64) (c := c0) rfl (by kernel_rfl) (by kernel_rfl) (by kernel_rfl) (fun _ => by kernel_rfl) (ix_in hx124).1 (ix_in hx124).2.1 (num_nil (hS120.view hv0))) ?_
                  refine gx_val (.int .u8 x123) w119 (by kernel_rfl) (run_loadix rfl (by kernel_rfl) (fun _ => by kernel_rfl) (hS120.view hv0) hx124) ?_
                  refine gx_val (.int .i64 (IntKind.i64.wrap x123)) w119 (by kernel_rfl) (by kernel_rfl) ?_
                  obtain ⟨l129, hc126, hO61⟩ := bind_in hO61
                  try dsimp only at hO61
                  refine gx_call (rTwo_R  l129 w119) (by kernel_rfl) (by kernel_rfl) (rTwo_ok N (IntKind.i64.wrap x123) _ hc126 w119 ) ?_
                  rintro _ w127 ⟨A130, c131, rfl, hT132⟩
                  have hS128 : St _ _ w127 [rowE .u8 5 A117 c118 l114, rowE .u8 5 A94 c95 l93, rowE .u8 5 A111 c112 l110, rowE .u8 5 A130 c131 l129] := hS120.take _ hT132
                  obtain ⟨l133, ha134, hO61⟩ := bind_in hO61
                  obtain ⟨ha134, hq135⟩ := apx_in ha134
                  refine gx_R (by kernel_rfl) (st_append rfl (by kernel_rfl) (by kernel_rfl) hS128 0 rfl (hS128.row 3 rfl).1 (hS128.row 3 rfl).2 ha134 (by kernel_rfl) (by kernel_rfl)) ?_
                  rintro _ w138 ⟨A136, c137, rfl, hS139⟩
                  rw [← hq135] at hS139 ⊢
                  have hS139 : St _ _ w138 [rowE .u8 5 A136 c137 l133, rowE .u8 5 A94 c95 l93, rowE .u8 5 A111 c112 l110, rowE .u8 5 A130 c131 l129] := hS139
                  refine gx_val (.slice A136 l133.length c137) w138 (by kernel_rfl) (by kernel_rfl) ?_
                  refine gx_nil ?_
                  refine gx_thenN ?_
                  refine hK122 _ _ ?_
                  refine gx_region ?_
                  refine gx_val (.int .i64 x34) w138 (by kernel_rfl) (by kernel_rfl) ?_
                  refine gx_val (.int .i64 (IntKind.i64.wrap (x34 + 1))) w138 (by kernel_rfl) (by kernel_rfl) ?_
                  refine gx_val (.int .i64 (IntKind.i64.wrap (x34 + 1))) w138 (by kernel_rfl) (by kernel_rfl) ?_
                  refine gx_nil ?_
                  refine gx_thenN ?_
                  refine hK81 _ _ ?_
                  refine gx_region ?_
                  refine gx_val (.int .i64 x58) w138 (by kernel_rfl) (by kernel_rfl) ?_
                  refine gx_val (.int .i64 x58) w138 (by kernel_rfl) (by kernel_rfl) ?_
                  refine gx_nil ?_
                  refine gx_blkN ?_
                  refine gx_thenN ?_
                  exact ⟨k36, Nat.lt_succ_self k36, l133, (IntKind.i64.wrap (x34 + 1)), x58, A136, c137, (fun i => List.getD ((u30 0) :: (u30 1) :: (.int .i64 x58) :: (.int .i64 x35) :: (.slice A0 p0.length c0) :: (.int .i64 ((p0.length : Nat) : Int)) :: (.bool true) :: (.slice A0 p0.length c0) :: (.int .i64 x35) :: (.pointer (Option.map (fun p => p.add (Int.toNat x35 * 1)) A0)) :: (.int .u8 x47) :: (.bool false) :: (.int .i64 x35) :: (u57 0) :: (u57 1) :: (u57 2) :: (u57 3) :: (u57 4) :: (u57 5) :: (u57 6) :: (u57 7) :: (u57 8) :: (u57 9) :: (u57 10) :: (u57 11) :: (u57 12) :: (u57 13) :: (u57 14) :: (u57 15) :: (u57 16) :: (.slice A0 p0.length c0) :: (.int .i64 x35) :: (.pointer (Option.map (fun p => p.add (Int.toNat x35 * 1)) A0)) :: (.int .u8 x84) :: (.bool true) :: (.slice A31 l33.length c32) :: (.int .i64 x35) :: (.slice A94 l93.length c95) :: (.slice A100 l97.length c101) :: (.slice A100 l97.length c101) :: (.int .i64 x58) :: (.int .i64 (IntKind.i64.wrap (x58 - 1))) :: (.slice A111 l110.length c112) :: (.slice A117 l114.length c118) :: (.slice A117 l114.length c118) :: (.slice A0 p0.length c0) :: (.int .i64 x35) :: (.pointer (Option.map (fun p => p.add (Int.toNat x35 * 1)) A0)) :: (.int .u8 x123) :: (.int .i64 (IntKind.i64.wrap x123)) :: (.slice A130 l129.length c131) :: (.slice A136 l133.length c137) :: (.int .i64 x34) :: (.int .i64 (IntKind.i64.wrap (x34 + 1))) :: (.int .i64 x58) :: []) i undef), by kernel_rfl, hO61, (hS139.pick [0] rfl rfl)⟩
                · refine gx_val (.bool false) w55 (by kernel_rfl) (run_boolE (ne_no h86) (by kernel_rfl)) ?_
                  refine gx_nil ?_
                  refine gx_thenN ?_
                  refine hK83 _ _ ?_
                  refine gx_no (by kernel_rfl) ?_
                  refine gx_pass ?_
                  refine gx_thenN ?_
                  refine hK81 _ _ ?_
                  refine gx_region ?_
                  refine gx_val (.int .i64 x58) w55 (by kernel_rfl) (by kernel_rfl) ?_
                  refine gx_val (.int .i64 x58) w55 (by kernel_rfl) (by kernel_rfl) ?_
                  refine gx_nil ?_
                  refine gx_blkN ?_
                  refine gx_thenN ?_
                  exact ⟨k36, Nat.lt_succ_self k36, l33, x34, x58, A31, c32, (fun i => List.getD ((u30 0) :: (u30 1) :: (.int .i64 x58) :: (.int .i64 x35) :: (.slice A0 p0.length c0) :: (.int .i64 ((p0.length : Nat) : Int)) :: (.bool true) :: (.slice A0 p0.length c0) :: (.int .i64 x35) :: (.pointer (Option.map (fun p => p.add (Int.toNat x35 * 1)) A0)) :: (.int .u8 x47) :: (.bool false) :: (.int .i64 x35) :: (u57 0) :: (u57 1) :: (u57 2) :: (u57 3) :: (u57 4) :: (u57 5) :: (u57 6) :: (u57 7) :: (u57 8) :: (u57 9) :: (u57 10) :: (u57 11) :: (u57 12) :: (u57 13) :: (u57 14) :: (u57 15) :: (u57 16) :: (.slice A0 p0.length c0) :: (.int .i64 x35) :: (.pointer (Option.map (fun p => p.add (Int.toNat x35 * 1)) A0)) :: (.int .u8 x84) :: (.bool false) :: (u30 35) :: (u30 36) :: (u30 37) :: (u30 38) :: (u30 39) :: (u30 40) :: (u30 41) :: (u30 42) :: (u30 43) :: (u30 44) :: (u30 45) :: (u30 46) :: (u30 47) :: (u30 48) :: (u30 49) :: (u30 50) :: (u30 51) :: (u30 52) :: (u30 53) :: (.int .i64 x58) :: []) i undef), by kernel_rfl, hO61, hS56⟩
          · refine gx_val (.bool false) w28 (by kernel_rfl) (run_boolE (decide_eq_false h42) (by kernel_rfl)) ?_
            refine gx_nil ?_
            refine gx_thenN ?_
            refine hK41 _ _ ?_
            refine gx_no (by kernel_rfl) ?_
            refine gx_exit ?_
            refine gx_thenE ?_
            refine gx_thenE ?_
            refine gx_blkE ?_
            refine gx_thenN ?_
            exact ⟨l33, x34, A31, c32, (fun i => List.getD ((u30 0) :: (u30 1) :: (.int .i64 x35) :: (u30 2) :: (.int .i64 x35) :: (.slice A0 p0.length c0) :: (.int .i64 ((p0.length : Nat) : Int)) :: (.bool false) :: (u30 7) :: (u30 8) :: (u30 9) :: (u30 10) :: (u30 11) :: (u30 12) :: (u30 13) :: (u30 14) :: (u30 15) :: (u30 16) :: (u30 17) :: (u30 18) :: (u30 19) :: (u30 20) :: (u30 21) :: (u30 22) :: (u30 23) :: (u30 24) :: (u30 25) :: (u30 26) :: (u30 27) :: (u30 28) :: (u30 29) :: (u30 30) :: (u30 31) :: (u30 32) :: (u30 33) :: (u30 34) :: (u30 35) :: (u30 36) :: (u30 37) :: (u30 38) :: (u30 39) :: (u30 40) :: (u30 41) :: (u30 42) :: (u30 43) :: (u30 44) :: (u30 45) :: (u30 46) :: (u30 47) :: (u30 48) :: (u30 49) :: (u30 50) :: (u30 51) :: (u30 52) :: (u30 53) :: (u30 54) :: []) i undef), by kernel_rfl, (Option.some.inj hL37), hS29⟩
    · rintro _ w15 ⟨l20, x21, A18, c19, u17, rfl, rfl, hS16⟩
      try dsimp only at hO24
      refine gx_seq (fun K140 hK141 => ?_)
      refine gx_region ?_
      refine gx_R (by kernel_rfl) (st_made .u8 5 [0, 2] hS16 (by show 2 ≤ 1000000000; decide) (by kernel_rfl)) ?_
      rintro _ w142 ⟨rfl, hS143⟩
      have hS143 : St _ _ w142 [rowE .u8 5 A18 c19 l20, rowE .u8 5 (some ⟨w15.heap.size, 0, none⟩) 2 ([0, 2])] := hS143
      refine gx_val (.int .i64 x21) w142 (by kernel_rfl) (by kernel_rfl) ?_
      obtain ⟨l148, hc145, hO24⟩ := bind_in hO24
      try dsimp only at hO24
      refine gx_call (rTwo_R  l148 w142) (by kernel_rfl) (by kernel_rfl) (rTwo_ok N x21 _ hc145 w142 ) ?_
      rintro _ w146 ⟨A149, c150, rfl, hT151⟩
      have hS147 : St _ _ w146 [rowE .u8 5 A18 c19 l20, rowE .u8 5 (some ⟨w15.heap.size, 0, none⟩) 2 ([0, 2]), rowE .u8 5 A149 c150 l148] := hS143.take _ hT151
      obtain ⟨l152, ha153, hO24⟩ := bind_in hO24
      obtain ⟨ha153, hq154⟩ := apx_in ha153
      refine gx_R (by kernel_rfl) (st_append rfl (by kernel_rfl) (by kernel_rfl) hS147 1 rfl (hS147.row 2 rfl).1 (hS147.row 2 rfl).2 ha153 (by kernel_rfl) (by kernel_rfl)) ?_
      rintro _ w157 ⟨A155, c156, rfl, hS158⟩
      rw [← hq154] at hS158 ⊢
      have hS158 : St _ _ w157 [rowE .u8 5 A18 c19 l20, rowE .u8 5 A155 c156 l152, rowE .u8 5 A149 c150 l148] := hS158
      refine gx_val (.slice A155 l152.length c156) w157 (by kernel_rfl) (by kernel_rfl) ?_
      refine gx_nil ?_
      refine gx_thenN ?_
      refine hK141 _ _ ?_
      refine gx_seq (fun K159 hK160 => ?_)
      refine gx_region ?_
      refine gx_val (.slice A155 l152.length c156) w157 (by kernel_rfl) (by kernel_rfl) ?_
      refine gx_val (.slice A18 l20.length c19) w157 (by kernel_rfl) (by kernel_rfl) ?_
      obtain ⟨l161, ha162, hO24⟩ := bind_in hO24
      obtain ⟨ha162, hq163⟩ := apx_in ha162
      refine gx_R (by kernel_rfl) (st_append rfl (by kernel_rfl) (by kernel_rfl) hS158 1 rfl (hS158.row 0 rfl).1 (hS158.row 0 rfl).2 ha162 (by kernel_rfl) (by kernel_rfl)) ?_
      rintro _ w166 ⟨A164, c165, rfl, hS167⟩
      rw [← hq163] at hS167 ⊢
      have hS167 : St _ _ w166 [rowE .u8 5 A18 c19 l20, rowE .u8 5 A164 c165 l161, rowE .u8 5 A149 c150 l148] := hS167
      refine gx_val (.slice A164 l161.length c165) w166 (by kernel_rfl) (by kernel_rfl) ?_
      refine gx_val (.int .i64 0) w166 (by kernel_rfl) (by kernel_rfl) ?_
      refine gx_nil ?_
      refine gx_thenN ?_
      refine hK160 _ _ ?_
      refine gx_ret ?_
      obtain rfl := Option.some.inj hO24
      exact gx_fin (.tuple #[.slice A164 l161.length c165, .int .i64 0]) (by kernel_rfl) (by kernel_rfl) ⟨_, rfl, A164, c165, rfl, (hS167.pick [1] rfl rfl)⟩

def fWorks (N : Nat) : Option (Bool) :=
  ((bOpen N ([0, 2, 0, 1, 0, 5, 0, 7, 0, 0])).bind fun (l11, b12) => ((cCov N l11 b12 (0 : Int) (9 : Int)).bind fun (l22, x25, _b26) => ((bOpen N ([0, 2, 0, 1, 0, 1, 0, 2, 0, 3])).bind fun (l36, b37) => ((cCls N l36 b37 (0 : Int) (4 : Int)).bind fun (l47, x50, _b51) => ((cPutCls N ([0, 1, 1, 3])).bind fun (l61, x64) => (if x25 = 0 then (if x50 = 0 then (if x64 = 0 then ((kWords N l22 ([5, 6, 7])).bind fun b77 => (match b77 with | true => ((kBytes N l47 ([0, 3, 3, 0])).bind fun b85 => (match b85 with | true => ((kBytes N l61 ([0, 2, 0, 2, 0, 1, 0, 2, 0, 1, 0, 3, 0, 3, 0, 3])).bind fun b93 => some b93) | false => some false)) | false => some false)) else some false) else some false) else some false))))))

def fWorks_R (r : Bool) (w0 : World) (v : Value) (w : World) : Prop := v = .bool r ∧ St [] w0 w []

set_option maxRecDepth 100000 in
set_option maxHeartbeats 4000000 in
theorem fWorks_ok (N : Nat)  (r : Bool) (hF : fWorks N = some r) (w0 : World)  :
    Calls Try.prog 7 #[] w0 fun e w => ∃ v, e = .returned v ∧ fWorks_R r w0 v w := by
  have hS0 := St.start w0
  unfold fWorks at hF
  refine calls_of Try.func7 rfl ⟨(undef :: undef :: undef :: undef :: undef :: undef :: undef :: undef :: undef :: undef :: undef :: undef :: undef :: undef :: undef :: undef :: undef :: undef :: undef :: undef :: undef :: undef :: undef :: undef :: undef :: undef :: undef :: undef :: undef :: undef :: undef :: undef :: undef :: undef :: undef :: undef :: undef :: undef :: undef :: undef :: undef :: undef :: undef :: undef :: undef :: undef :: undef :: undef :: undef :: []).toArray, []⟩ (by kernel_rfl) ?_
  refine gx_seq (fun K1 hK2 => ?_)
  refine gx_region ?_
  refine gx_val (.bool false) w0 (by kernel_rfl) (by kernel_rfl) ?_
  refine gx_nil ?_
  refine gx_thenN ?_
  refine hK2 _ _ ?_
  refine gx_seq (fun K3 hK4 => ?_)
  refine gx_region ?_
  refine gx_R (by kernel_rfl) (st_made .u8 5 [0, 2, 0, 1, 0, 5, 0, 7, 0, 0] hS0 (by show 10 ≤ 1000000000; decide) (by kernel_rfl)) ?_
  rintro _ w5 ⟨rfl, hS6⟩
  have hS6 : St _ _ w5 [rowE .u8 5 (some ⟨w0.heap.size, 0, none⟩) 10 ([0, 2, 0, 1, 0, 5, 0, 7, 0, 0])] := hS6
  obtain ⟨⟨l11, b12⟩, hc8, hF⟩ := bind_in hF
  try dsimp only at hF
  refine gx_call (bOpen_R  (l11, b12) w5) (by kernel_rfl) (by kernel_rfl) (bOpen_ok N ([0, 2, 0, 1, 0, 5, 0, 7, 0, 0]) (some ⟨w0.heap.size, 0, none⟩) 10 _ hc8 w5 (Vw.of (hS6.row 0 rfl).1 (hS6.row 0 rfl).2)) ?_
  rintro _ w9 ⟨g13, g14, A15, c16, rfl, hT17⟩
  have hS10 : St _ _ w9 [rowE .u8 5 (some ⟨w0.heap.size, 0, none⟩) 10 ([0, 2, 0, 1, 0, 5, 0, 7, 0, 0]), boxE g13 [.pointer (some ⟨g14, 0, none⟩), .slice A15 l11.length c16] 60, boxE g14 [.bool b12] 57, rowE .u8 5 A15 c16 l11] := hS6.take _ hT17
  obtain ⟨⟨l22, x25, b26⟩, hc19, hF⟩ := bind_in hF
  try dsimp only at hF
  refine gx_call (cCov_R l11 g13 g14 A15 c16 (l22, x25, b26) w9) (by kernel_rfl) (by kernel_rfl) (cCov_ok N l11 b12 (0 : Int) (9 : Int) g13 g14 A15 c16 _ hc19 w9 (hS10.get 1 rfl) (hS10.get 2 rfl) (hS10.ne 1 2 rfl rfl (by decide)) (hS10.rowv 3 1 2 rfl rfl rfl (by decide) (by decide))) ?_
  rintro _ w20 ⟨A23, c24, rfl, hT27⟩
  have hS21 : St _ _ w20 [rowE .u8 5 (some ⟨w0.heap.size, 0, none⟩) 10 ([0, 2, 0, 1, 0, 5, 0, 7, 0, 0]), boxE g13 [.pointer (some ⟨g14, 0, none⟩), .slice A15 l11.length c16] 60, boxE g14 [.bool b26] 57, rowE .u8 5 A15 c16 l11, rowE .u16 49 A23 c24 l22] := hS10.lend 1 2 rfl rfl _ hT27
  refine gx_val (.tuple #[.slice A23 l22.length c24, .int .i64 x25]) w20 (by kernel_rfl) (by kernel_rfl) ?_
  refine gx_val (.slice A23 l22.length c24) w20 (by kernel_rfl) (by kernel_rfl) ?_
  refine gx_val (.int .i64 x25) w20 (by kernel_rfl) (by kernel_rfl) ?_
  refine gx_val (.slice A23 l22.length c24) w20 (by kernel_rfl) (by kernel_rfl) ?_
  refine gx_val (.int .i64 x25) w20 (by kernel_rfl) (by kernel_rfl) ?_
  refine gx_nil ?_
  refine gx_thenN ?_
  refine hK4 _ _ ?_
  refine gx_seq (fun K28 hK29 => ?_)
  refine gx_region ?_
  refine gx_R (by kernel_rfl) (st_made .u8 5 [0, 2, 0, 1, 0, 1, 0, 2, 0, 3] hS21 (by show 10 ≤ 1000000000; decide) (by kernel_rfl)) ?_
  rintro _ w30 ⟨rfl, hS31⟩
  have hS31 : St _ _ w30 [rowE .u8 5 (some ⟨w0.heap.size, 0, none⟩) 10 ([0, 2, 0, 1, 0, 5, 0, 7, 0, 0]), boxE g13 [.pointer (some ⟨g14, 0, none⟩), .slice A15 l11.length c16] 60, boxE g14 [.bool b26] 57, rowE .u8 5 A15 c16 l11, rowE .u16 49 A23 c24 l22, rowE .u8 5 (some ⟨w20.heap.size, 0, none⟩) 10 ([0, 2, 0, 1, 0, 1, 0, 2, 0, 3])] := hS31
  obtain ⟨⟨l36, b37⟩, hc33, hF⟩ := bind_in hF
  try dsimp only at hF
  refine gx_call (bOpen_R  (l36, b37) w30) (by kernel_rfl) (by kernel_rfl) (bOpen_ok N ([0, 2, 0, 1, 0, 1, 0, 2, 0, 3]) (some ⟨w20.heap.size, 0, none⟩) 10 _ hc33 w30 (Vw.of (hS31.row 5 rfl).1 (hS31.row 5 rfl).2)) ?_
  rintro _ w34 ⟨g38, g39, A40, c41, rfl, hT42⟩
  have hS35 : St _ _ w34 [rowE .u8 5 (some ⟨w0.heap.size, 0, none⟩) 10 ([0, 2, 0, 1, 0, 5, 0, 7, 0, 0]), boxE g13 [.pointer (some ⟨g14, 0, none⟩), .slice A15 l11.length c16] 60, boxE g14 [.bool b26] 57, rowE .u8 5 A15 c16 l11, rowE .u16 49 A23 c24 l22, rowE .u8 5 (some ⟨w20.heap.size, 0, none⟩) 10 ([0, 2, 0, 1, 0, 1, 0, 2, 0, 3]), boxE g38 [.pointer (some ⟨g39, 0, none⟩), .slice A40 l36.length c41] 60, boxE g39 [.bool b37] 57, rowE .u8 5 A40 c41 l36] := hS31.take _ hT42
  obtain ⟨⟨l47, x50, b51⟩, hc44, hF⟩ := bind_in hF
  try dsimp only at hF
  refine gx_call (cCls_R l36 g38 g39 A40 c41 (l47, x50, b51) w34) (by kernel_rfl) (by kernel_rfl) (cCls_ok N l36 b37 (0 : Int) (4 : Int) g38 g39 A40 c41 _ hc44 w34 (hS35.get 6 rfl) (hS35.get 7 rfl) (hS35.ne 6 7 rfl rfl (by decide)) (hS35.rowv 8 6 7 rfl rfl rfl (by decide) (by decide))) ?_
  rintro _ w45 ⟨A48, c49, rfl, hT52⟩
  have hS46 : St _ _ w45 [rowE .u8 5 (some ⟨w0.heap.size, 0, none⟩) 10 ([0, 2, 0, 1, 0, 5, 0, 7, 0, 0]), boxE g13 [.pointer (some ⟨g14, 0, none⟩), .slice A15 l11.length c16] 60, boxE g14 [.bool b26] 57, rowE .u8 5 A15 c16 l11, rowE .u16 49 A23 c24 l22, rowE .u8 5 (some ⟨w20.heap.size, 0, none⟩) 10 ([0, 2, 0, 1, 0, 1, 0, 2, 0, 3]), boxE g38 [.pointer (some ⟨g39, 0, none⟩), .slice A40 l36.length c41] 60, boxE g39 [.bool b51] 57, rowE .u8 5 A40 c41 l36, rowE .u8 5 A48 c49 l47] := hS35.lend 6 7 rfl rfl _ hT52
  refine gx_val (.tuple #[.slice A48 l47.length c49, .int .i64 x50]) w45 (by kernel_rfl) (by kernel_rfl) ?_
  refine gx_val (.slice A48 l47.length c49) w45 (by kernel_rfl) (by kernel_rfl) ?_
  refine gx_val (.int .i64 x50) w45 (by kernel_rfl) (by kernel_rfl) ?_
  refine gx_val (.slice A48 l47.length c49) w45 (by kernel_rfl) (by kernel_rfl) ?_
  refine gx_val (.int .i64 x50) w45 (by kernel_rfl) (by kernel_rfl) ?_
  refine gx_nil ?_
  refine gx_thenN ?_
  refine hK29 _ _ ?_
  refine gx_seq (fun K53 hK54 => ?_)
  refine gx_region ?_
  refine gx_R (by kernel_rfl) (st_made .u8 5 [0, 1, 1, 3] hS46 (by show 4 ≤ 1000000000; decide) (by kernel_rfl)) ?_
  rintro _ w55 ⟨rfl, hS56⟩
  have hS56 : St _ _ w55 [rowE .u8 5 (some ⟨w0.heap.size, 0, none⟩) 10 ([0, 2, 0, 1, 0, 5, 0, 7, 0, 0]), boxE g13 [.pointer (some ⟨g14, 0, none⟩), .slice A15 l11.length c16] 60, boxE g14 [.bool b26] 57, rowE .u8 5 A15 c16 l11, rowE .u16 49 A23 c24 l22, rowE .u8 5 (some ⟨w20.heap.size, 0, none⟩) 10 ([0, 2, 0, 1, 0, 1, 0, 2, 0, 3]), boxE g38 [.pointer (some ⟨g39, 0, none⟩), .slice A40 l36.length c41] 60, boxE g39 [.bool b51] 57, rowE .u8 5 A40 c41 l36, rowE .u8 5 A48 c49 l47, rowE .u8 5 (some ⟨w45.heap.size, 0, none⟩) 4 ([0, 1, 1, 3])] := hS56
  obtain ⟨⟨l61, x64⟩, hc58, hF⟩ := bind_in hF
  try dsimp only at hF
  refine gx_call (cPutCls_R  (l61, x64) w55) (by kernel_rfl) (by kernel_rfl) (cPutCls_ok N ([0, 1, 1, 3]) (some ⟨w45.heap.size, 0, none⟩) 4 _ hc58 w55 (Vw.of (hS56.row 10 rfl).1 (hS56.row 10 rfl).2)) ?_
  rintro _ w59 ⟨A62, c63, rfl, hT65⟩
  have hS60 : St _ _ w59 [rowE .u8 5 (some ⟨w0.heap.size, 0, none⟩) 10 ([0, 2, 0, 1, 0, 5, 0, 7, 0, 0]), boxE g13 [.pointer (some ⟨g14, 0, none⟩), .slice A15 l11.length c16] 60, boxE g14 [.bool b26] 57, rowE .u8 5 A15 c16 l11, rowE .u16 49 A23 c24 l22, rowE .u8 5 (some ⟨w20.heap.size, 0, none⟩) 10 ([0, 2, 0, 1, 0, 1, 0, 2, 0, 3]), boxE g38 [.pointer (some ⟨g39, 0, none⟩), .slice A40 l36.length c41] 60, boxE g39 [.bool b51] 57, rowE .u8 5 A40 c41 l36, rowE .u8 5 A48 c49 l47, rowE .u8 5 (some ⟨w45.heap.size, 0, none⟩) 4 ([0, 1, 1, 3]), rowE .u8 5 A62 c63 l61] := hS56.take _ hT65
  refine gx_val (.tuple #[.slice A62 l61.length c63, .int .i64 x64]) w59 (by kernel_rfl) (by kernel_rfl) ?_
  refine gx_val (.slice A62 l61.length c63) w59 (by kernel_rfl) (by kernel_rfl) ?_
  refine gx_val (.int .i64 x64) w59 (by kernel_rfl) (by kernel_rfl) ?_
  refine gx_val (.slice A62 l61.length c63) w59 (by kernel_rfl) (by kernel_rfl) ?_
  refine gx_val (.int .i64 x64) w59 (by kernel_rfl) (by kernel_rfl) ?_
  refine gx_nil ?_
  refine gx_thenN ?_
  refine hK54 _ _ ?_
  refine gx_seq (fun K66 hK67 => ?_)
  refine gx_region ?_
  refine gx_val (.int .i64 x25) w59 (by kernel_rfl) (by kernel_rfl) ?_
  rcases if_in hF with ⟨h68, hF⟩ | ⟨h68, hF⟩
  · refine gx_val (.bool true) w59 (by kernel_rfl) (run_boolE (decide_eq_true h68) (by kernel_rfl)) ?_
    refine gx_val (.bool true) w59 (by kernel_rfl) (by kernel_rfl) ?_
    refine gx_val (.int .i64 x50) w59 (by kernel_rfl) (by kernel_rfl) ?_
    rcases if_in hF with ⟨h69, hF⟩ | ⟨h69, hF⟩
    · refine gx_val (.bool true) w59 (by kernel_rfl) (run_boolE (decide_eq_true h69) (by kernel_rfl)) ?_
      refine gx_val (.bool true) w59 (by kernel_rfl) (by kernel_rfl) ?_
      refine gx_val (.bool true) w59 (by kernel_rfl) (by kernel_rfl) ?_
      refine gx_val (.int .i64 x64) w59 (by kernel_rfl) (by kernel_rfl) ?_
      rcases if_in hF with ⟨h70, hF⟩ | ⟨h70, hF⟩
      · refine gx_val (.bool true) w59 (by kernel_rfl) (run_boolE (decide_eq_true h70) (by kernel_rfl)) ?_
        refine gx_val (.bool true) w59 (by kernel_rfl) (by kernel_rfl) ?_
        refine gx_val (.bool true) w59 (by kernel_rfl) (by kernel_rfl) ?_
        refine gx_val (.slice A23 l22.length c24) w59 (by kernel_rfl) (by kernel_rfl) ?_
        refine gx_R (by kernel_rfl) (st_made .u16 49 [5, 6, 7] hS60 (by show 3 ≤ 1000000000; decide) (by kernel_rfl)) ?_
        rintro _ w71 ⟨rfl, hS72⟩
        have hS72 : St _ _ w71 [rowE .u8 5 (some ⟨w0.heap.size, 0, none⟩) 10 ([0, 2, 0, 1, 0, 5, 0, 7, 0, 0]), boxE g13 [.pointer (some ⟨g14, 0, none⟩), .slice A15 l11.length c16] 60, boxE g14 [.bool b26] 57, rowE .u8 5 A15 c16 l11, rowE .u16 49 A23 c24 l22, rowE .u8 5 (some ⟨w20.heap.size, 0, none⟩) 10 ([0, 2, 0, 1, 0, 1, 0, 2, 0, 3]), boxE g38 [.pointer (some ⟨g39, 0, none⟩), .slice A40 l36.length c41] 60, boxE g39 [.bool b51] 57, rowE .u8 5 A40 c41 l36, rowE .u8 5 A48 c49 l47, rowE .u8 5 (some ⟨w45.heap.size, 0, none⟩) 4 ([0, 1, 1, 3]), rowE .u8 5 A62 c63 l61, rowE .u16 49 (some ⟨w59.heap.size, 0, none⟩) 3 ([5, 6, 7])] := hS72
        obtain ⟨b77, hc74, hF⟩ := bind_in hF
        try dsimp only at hF
        refine gx_call (kWords_R  b77 w71) (by kernel_rfl) (by kernel_rfl) (kWords_ok N l22 ([5, 6, 7]) A23 c24 (some ⟨w59.heap.size, 0, none⟩) 3 _ hc74 w71 (Vw.of (hS72.row 4 rfl).1 (hS72.row 4 rfl).2) (Vw.of (hS72.row 12 rfl).1 (hS72.row 12 rfl).2)) ?_
        rintro _ w75 ⟨rfl, hT78⟩
        have hS76 : St _ _ w75 [rowE .u8 5 (some ⟨w0.heap.size, 0, none⟩) 10 ([0, 2, 0, 1, 0, 5, 0, 7, 0, 0]), boxE g13 [.pointer (some ⟨g14, 0, none⟩), .slice A15 l11.length c16] 60, boxE g14 [.bool b26] 57, rowE .u8 5 A15 c16 l11, rowE .u16 49 A23 c24 l22, rowE .u8 5 (some ⟨w20.heap.size, 0, none⟩) 10 ([0, 2, 0, 1, 0, 1, 0, 2, 0, 3]), boxE g38 [.pointer (some ⟨g39, 0, none⟩), .slice A40 l36.length c41] 60, boxE g39 [.bool b51] 57, rowE .u8 5 A40 c41 l36, rowE .u8 5 A48 c49 l47, rowE .u8 5 (some ⟨w45.heap.size, 0, none⟩) 4 ([0, 1, 1, 3]), rowE .u8 5 A62 c63 l61, rowE .u16 49 (some ⟨w59.heap.size, 0, none⟩) 3 ([5, 6, 7])] := hS72.take _ hT78
        refine gx_val (.bool b77) w75 (by kernel_rfl) (by kernel_rfl) ?_
        refine gx_val (.bool b77) w75 (by kernel_rfl) (by kernel_rfl) ?_
        cases b77 with
        | true =>
          try dsimp only at hF
          refine gx_val (.slice A48 l47.length c49) w75 (by kernel_rfl) (by kernel_rfl) ?_
          refine gx_R (by kernel_rfl) (st_made .u8 5 [0, 3, 3, 0] hS76 (by show 4 ≤ 1000000000; decide) (by kernel_rfl)) ?_
          rintro _ w79 ⟨rfl, hS80⟩
          have hS80 : St _ _ w79 [rowE .u8 5 (some ⟨w0.heap.size, 0, none⟩) 10 ([0, 2, 0, 1, 0, 5, 0, 7, 0, 0]), boxE g13 [.pointer (some ⟨g14, 0, none⟩), .slice A15 l11.length c16] 60, boxE g14 [.bool b26] 57, rowE .u8 5 A15 c16 l11, rowE .u16 49 A23 c24 l22, rowE .u8 5 (some ⟨w20.heap.size, 0, none⟩) 10 ([0, 2, 0, 1, 0, 1, 0, 2, 0, 3]), boxE g38 [.pointer (some ⟨g39, 0, none⟩), .slice A40 l36.length c41] 60, boxE g39 [.bool b51] 57, rowE .u8 5 A40 c41 l36, rowE .u8 5 A48 c49 l47, rowE .u8 5 (some ⟨w45.heap.size, 0, none⟩) 4 ([0, 1, 1, 3]), rowE .u8 5 A62 c63 l61, rowE .u16 49 (some ⟨w59.heap.size, 0, none⟩) 3 ([5, 6, 7]), rowE .u8 5 (some ⟨w75.heap.size, 0, none⟩) 4 ([0, 3, 3, 0])] := hS80
          obtain ⟨b85, hc82, hF⟩ := bind_in hF
          try dsimp only at hF
          refine gx_call (kBytes_R  b85 w79) (by kernel_rfl) (by kernel_rfl) (kBytes_ok N l47 ([0, 3, 3, 0]) A48 c49 (some ⟨w75.heap.size, 0, none⟩) 4 _ hc82 w79 (Vw.of (hS80.row 9 rfl).1 (hS80.row 9 rfl).2) (Vw.of (hS80.row 13 rfl).1 (hS80.row 13 rfl).2)) ?_
          rintro _ w83 ⟨rfl, hT86⟩
          have hS84 : St _ _ w83 [rowE .u8 5 (some ⟨w0.heap.size, 0, none⟩) 10 ([0, 2, 0, 1, 0, 5, 0, 7, 0, 0]), boxE g13 [.pointer (some ⟨g14, 0, none⟩), .slice A15 l11.length c16] 60, boxE g14 [.bool b26] 57, rowE .u8 5 A15 c16 l11, rowE .u16 49 A23 c24 l22, rowE .u8 5 (some ⟨w20.heap.size, 0, none⟩) 10 ([0, 2, 0, 1, 0, 1, 0, 2, 0, 3]), boxE g38 [.pointer (some ⟨g39, 0, none⟩), .slice A40 l36.length c41] 60, boxE g39 [.bool b51] 57, rowE .u8 5 A40 c41 l36, rowE .u8 5 A48 c49 l47, rowE .u8 5 (some ⟨w45.heap.size, 0, none⟩) 4 ([0, 1, 1, 3]), rowE .u8 5 A62 c63 l61, rowE .u16 49 (some ⟨w59.heap.size, 0, none⟩) 3 ([5, 6, 7]), rowE .u8 5 (some ⟨w75.heap.size, 0, none⟩) 4 ([0, 3, 3, 0])] := hS80.take _ hT86
          refine gx_val (.bool b85) w83 (by kernel_rfl) (by kernel_rfl) ?_
          refine gx_val (.bool b85) w83 (by kernel_rfl) (by kernel_rfl) ?_
          cases b85 with
          | true =>
            try dsimp only at hF
            refine gx_val (.slice A62 l61.length c63) w83 (by kernel_rfl) (by kernel_rfl) ?_
            refine gx_R (by kernel_rfl) (st_made .u8 5 [0, 2, 0, 2, 0, 1, 0, 2, 0, 1, 0, 3, 0, 3, 0, 3] hS84 (by show 16 ≤ 1000000000; decide) (by kernel_rfl)) ?_
            rintro _ w87 ⟨rfl, hS88⟩
            have hS88 : St _ _ w87 [rowE .u8 5 (some ⟨w0.heap.size, 0, none⟩) 10 ([0, 2, 0, 1, 0, 5, 0, 7, 0, 0]), boxE g13 [.pointer (some ⟨g14, 0, none⟩), .slice A15 l11.length c16] 60, boxE g14 [.bool b26] 57, rowE .u8 5 A15 c16 l11, rowE .u16 49 A23 c24 l22, rowE .u8 5 (some ⟨w20.heap.size, 0, none⟩) 10 ([0, 2, 0, 1, 0, 1, 0, 2, 0, 3]), boxE g38 [.pointer (some ⟨g39, 0, none⟩), .slice A40 l36.length c41] 60, boxE g39 [.bool b51] 57, rowE .u8 5 A40 c41 l36, rowE .u8 5 A48 c49 l47, rowE .u8 5 (some ⟨w45.heap.size, 0, none⟩) 4 ([0, 1, 1, 3]), rowE .u8 5 A62 c63 l61, rowE .u16 49 (some ⟨w59.heap.size, 0, none⟩) 3 ([5, 6, 7]), rowE .u8 5 (some ⟨w75.heap.size, 0, none⟩) 4 ([0, 3, 3, 0]), rowE .u8 5 (some ⟨w83.heap.size, 0, none⟩) 16 ([0, 2, 0, 2, 0, 1, 0, 2, 0, 1, 0, 3, 0, 3, 0, 3])] := hS88
            obtain ⟨b93, hc90, hF⟩ := bind_in hF
            try dsimp only at hF
            refine gx_call (kBytes_R  b93 w87) (by kernel_rfl) (by kernel_rfl) (kBytes_ok N l61 ([0, 2, 0, 2, 0, 1, 0, 2, 0, 1, 0, 3, 0, 3, 0, 3]) A62 c63 (some ⟨w83.heap.size, 0, none⟩) 16 _ hc90 w87 (Vw.of (hS88.row 11 rfl).1 (hS88.row 11 rfl).2) (Vw.of (hS88.row 14 rfl).1 (hS88.row 14 rfl).2)) ?_
            rintro _ w91 ⟨rfl, hT94⟩
            have hS92 : St _ _ w91 [rowE .u8 5 (some ⟨w0.heap.size, 0, none⟩) 10 ([0, 2, 0, 1, 0, 5, 0, 7, 0, 0]), boxE g13 [.pointer (some ⟨g14, 0, none⟩), .slice A15 l11.length c16] 60, boxE g14 [.bool b26] 57, rowE .u8 5 A15 c16 l11, rowE .u16 49 A23 c24 l22, rowE .u8 5 (some ⟨w20.heap.size, 0, none⟩) 10 ([0, 2, 0, 1, 0, 1, 0, 2, 0, 3]), boxE g38 [.pointer (some ⟨g39, 0, none⟩), .slice A40 l36.length c41] 60, boxE g39 [.bool b51] 57, rowE .u8 5 A40 c41 l36, rowE .u8 5 A48 c49 l47, rowE .u8 5 (some ⟨w45.heap.size, 0, none⟩) 4 ([0, 1, 1, 3]), rowE .u8 5 A62 c63 l61, rowE .u16 49 (some ⟨w59.heap.size, 0, none⟩) 3 ([5, 6, 7]), rowE .u8 5 (some ⟨w75.heap.size, 0, none⟩) 4 ([0, 3, 3, 0]), rowE .u8 5 (some ⟨w83.heap.size, 0, none⟩) 16 ([0, 2, 0, 2, 0, 1, 0, 2, 0, 1, 0, 3, 0, 3, 0, 3])] := hS88.take _ hT94
            refine gx_val (.bool b93) w91 (by kernel_rfl) (by kernel_rfl) ?_
            refine gx_val (.bool b93) w91 (by kernel_rfl) (by kernel_rfl) ?_
            refine gx_nil ?_
            refine gx_thenN ?_
            refine hK67 _ _ ?_
            refine gx_ret ?_
            obtain rfl := Option.some.inj hF
            exact gx_fin (.bool b93) (by kernel_rfl) (by kernel_rfl) ⟨_, rfl, rfl, (hS92.pick [] rfl rfl)⟩
          | false =>
            try dsimp only at hF
            refine gx_off (by kernel_rfl) ?_
            refine gx_off (by kernel_rfl) ?_
            refine gx_off (by kernel_rfl) ?_
            refine gx_val (.bool false) w83 (by kernel_rfl) (by kernel_rfl) ?_
            refine gx_val (.bool false) w83 (by kernel_rfl) (by kernel_rfl) ?_
            refine gx_nil ?_
            refine gx_thenN ?_
            refine hK67 _ _ ?_
            refine gx_ret ?_
            obtain rfl := Option.some.inj hF
            exact gx_fin (.bool false) (by kernel_rfl) (by kernel_rfl) ⟨_, rfl, rfl, (hS84.pick [] rfl rfl)⟩
        | false =>
          try dsimp only at hF
          refine gx_off (by kernel_rfl) ?_
          refine gx_off (by kernel_rfl) ?_
          refine gx_off (by kernel_rfl) ?_
          refine gx_val (.bool false) w75 (by kernel_rfl) (by kernel_rfl) ?_
          refine gx_val (.bool false) w75 (by kernel_rfl) (by kernel_rfl) ?_
          refine gx_off (by kernel_rfl) ?_
          refine gx_off (by kernel_rfl) ?_
          refine gx_off (by kernel_rfl) ?_
          refine gx_val (.bool false) w75 (by kernel_rfl) (by kernel_rfl) ?_
          refine gx_val (.bool false) w75 (by kernel_rfl) (by kernel_rfl) ?_
          refine gx_nil ?_
          refine gx_thenN ?_
          refine hK67 _ _ ?_
          refine gx_ret ?_
          obtain rfl := Option.some.inj hF
          exact gx_fin (.bool false) (by kernel_rfl) (by kernel_rfl) ⟨_, rfl, rfl, (hS76.pick [] rfl rfl)⟩
      · refine gx_val (.bool false) w59 (by kernel_rfl) (run_boolE (decide_eq_false h70) (by kernel_rfl)) ?_
        refine gx_val (.bool false) w59 (by kernel_rfl) (by kernel_rfl) ?_
        refine gx_val (.bool false) w59 (by kernel_rfl) (by kernel_rfl) ?_
        refine gx_off (by kernel_rfl) ?_
        refine gx_off (by kernel_rfl) ?_
        refine gx_off (by kernel_rfl) ?_
        refine gx_val (.bool false) w59 (by kernel_rfl) (by kernel_rfl) ?_
        refine gx_val (.bool false) w59 (by kernel_rfl) (by kernel_rfl) ?_
        refine gx_off (by kernel_rfl) ?_
        refine gx_off (by kernel_rfl) ?_
        refine gx_off (by kernel_rfl) ?_
        refine gx_val (.bool false) w59 (by kernel_rfl) (by kernel_rfl) ?_
        refine gx_val (.bool false) w59 (by kernel_rfl) (by kernel_rfl) ?_
        refine gx_off (by kernel_rfl) ?_
        refine gx_off (by kernel_rfl) ?_
        refine gx_off (by kernel_rfl) ?_
        refine gx_val (.bool false) w59 (by kernel_rfl) (by kernel_rfl) ?_
        refine gx_val (.bool false) w59 (by kernel_rfl) (by kernel_rfl) ?_
        refine gx_nil ?_
        refine gx_thenN ?_
        refine hK67 _ _ ?_
        refine gx_ret ?_
        obtain rfl := Option.some.inj hF
        exact gx_fin (.bool false) (by kernel_rfl) (by kernel_rfl) ⟨_, rfl, rfl, (hS60.pick [] rfl rfl)⟩
    · refine gx_val (.bool false) w59 (by kernel_rfl) (run_boolE (decide_eq_false h69) (by kernel_rfl)) ?_
      refine gx_val (.bool false) w59 (by kernel_rfl) (by kernel_rfl) ?_
      refine gx_val (.bool false) w59 (by kernel_rfl) (by kernel_rfl) ?_
      refine gx_off (by kernel_rfl) ?_
      refine gx_off (by kernel_rfl) ?_
      refine gx_val (.bool false) w59 (by kernel_rfl) (by kernel_rfl) ?_
      refine gx_val (.bool false) w59 (by kernel_rfl) (by kernel_rfl) ?_
      refine gx_off (by kernel_rfl) ?_
      refine gx_off (by kernel_rfl) ?_
      refine gx_off (by kernel_rfl) ?_
      refine gx_val (.bool false) w59 (by kernel_rfl) (by kernel_rfl) ?_
      refine gx_val (.bool false) w59 (by kernel_rfl) (by kernel_rfl) ?_
      refine gx_off (by kernel_rfl) ?_
      refine gx_off (by kernel_rfl) ?_
      refine gx_off (by kernel_rfl) ?_
      refine gx_val (.bool false) w59 (by kernel_rfl) (by kernel_rfl) ?_
      refine gx_val (.bool false) w59 (by kernel_rfl) (by kernel_rfl) ?_
      refine gx_off (by kernel_rfl) ?_
      refine gx_off (by kernel_rfl) ?_
      refine gx_off (by kernel_rfl) ?_
      refine gx_val (.bool false) w59 (by kernel_rfl) (by kernel_rfl) ?_
      refine gx_val (.bool false) w59 (by kernel_rfl) (by kernel_rfl) ?_
      refine gx_nil ?_
      refine gx_thenN ?_
      refine hK67 _ _ ?_
      refine gx_ret ?_
      obtain rfl := Option.some.inj hF
      exact gx_fin (.bool false) (by kernel_rfl) (by kernel_rfl) ⟨_, rfl, rfl, (hS60.pick [] rfl rfl)⟩
  · refine gx_val (.bool false) w59 (by kernel_rfl) (run_boolE (decide_eq_false h68) (by kernel_rfl)) ?_
    refine gx_val (.bool false) w59 (by kernel_rfl) (by kernel_rfl) ?_
    refine gx_off (by kernel_rfl) ?_
    refine gx_off (by kernel_rfl) ?_
    refine gx_val (.bool false) w59 (by kernel_rfl) (by kernel_rfl) ?_
    refine gx_val (.bool false) w59 (by kernel_rfl) (by kernel_rfl) ?_
    refine gx_off (by kernel_rfl) ?_
    refine gx_off (by kernel_rfl) ?_
    refine gx_val (.bool false) w59 (by kernel_rfl) (by kernel_rfl) ?_
    refine gx_val (.bool false) w59 (by kernel_rfl) (by kernel_rfl) ?_
    refine gx_off (by kernel_rfl) ?_
    refine gx_off (by kernel_rfl) ?_
    refine gx_off (by kernel_rfl) ?_
    refine gx_val (.bool false) w59 (by kernel_rfl) (by kernel_rfl) ?_
    refine gx_val (.bool false) w59 (by kernel_rfl) (by kernel_rfl) ?_
    refine gx_off (by kernel_rfl) ?_
    refine gx_off (by kernel_rfl) ?_
    refine gx_off (by kernel_rfl) ?_
    refine gx_val (.bool false) w59 (by kernel_rfl) (by kernel_rfl) ?_
    refine gx_val (.bool false) w59 (by kernel_rfl) (by kernel_rfl) ?_
    refine gx_off (by kernel_rfl) ?_
    refine gx_off (by kernel_rfl) ?_
    refine gx_off (by kernel_rfl) ?_
    refine gx_val (.bool false) w59 (by kernel_rfl) (by kernel_rfl) ?_
    refine gx_val (.bool false) w59 (by kernel_rfl) (by kernel_rfl) ?_
    refine gx_nil ?_
    refine gx_thenN ?_
    refine hK67 _ _ ?_
    refine gx_ret ?_
    obtain rfl := Option.some.inj hF
    exact gx_fin (.bool false) (by kernel_rfl) (by kernel_rfl) ⟨_, rfl, rfl, (hS60.pick [] rfl rfl)⟩

def fAt (N : Nat) (p0 : List Int) (p1 : Int) (p2 : Int) : Option (Bool) :=
  (((if ((p0.length : Nat) : Int) > 2000 then ((fWorks N ).bind fun b18 => some (Ctl.ret b18)) else (if p1 < 0 then ((fWorks N ).bind fun b27 => some (Ctl.ret b27)) else (if p1 > ((p0.length : Nat) : Int) then ((fWorks N ).bind fun b36 => some (Ctl.ret b36)) else some (Ctl.go ())))) : Option (Ctl (Unit) (Bool))).bind fun | Ctl.go () => ((bOpen N p0).bind fun (l44, b45) => ((cCov N l44 b45 p1 p2).bind fun (l55, x58, _b59) => ((cutx p0 p1 ((p0.length : Nat) : Int)).bind fun l63 => ((bOpen N l63).bind fun (l73, b74) => ((cCov N l73 b74 (0 : Int) p2).bind fun (l84, x87, _b88) => ((bOpen N p0).bind fun (l96, b97) => ((cCls N l96 b97 p1 p2).bind fun (l107, x110, _b111) => ((cutx p0 p1 ((p0.length : Nat) : Int)).bind fun l115 => ((bOpen N l115).bind fun (l125, b126) => ((cCls N l125 b126 (0 : Int) p2).bind fun (l136, x139, _b140) => (if x58 = x87 then (if x110 = x139 then ((kWords N l55 l84).bind fun b150 => (match b150 with | true => ((kBytes N l107 l136).bind fun b156 => (match b156 with | true => ((fWorks N ).bind fun b162 => some b162) | false => some false)) | false => some false)) else some false) else some false))))))))))) | Ctl.ret r => some r)

def fAt_R (r : Bool) (w0 : World) (v : Value) (w : World) : Prop := v = .bool r ∧ St [] w0 w []

set_option maxRecDepth 100000 in
set_option maxHeartbeats 4000000 in
theorem fAt_ok (N : Nat) (p0 : List Int) (p1 : Int) (p2 : Int) (A0 : Option Addr) (c0 : Nat) (r : Bool) (hF : fAt N p0 p1 p2 = some r) (w0 : World) (hv0 : Vw [] .u8 w0 A0 c0 p0) :
    Calls Try.prog 6 #[.slice A0 p0.length c0, .int .i64 p1, .int .i64 p2] w0 fun e w => ∃ v, e = .returned v ∧ fAt_R r w0 v w := by
  have hS0 := St.start w0
  unfold fAt at hF
  refine calls_of Try.func6 rfl ⟨((.slice A0 p0.length c0) :: (.int .i64 p1) :: (.int .i64 p2) :: undef :: undef :: undef :: undef :: undef :: undef :: undef :: undef :: undef :: undef :: undef :: undef :: undef :: undef :: undef :: undef :: undef :: undef :: undef :: undef :: undef :: undef :: undef :: undef :: undef :: undef :: undef :: undef :: undef :: undef :: undef :: undef :: undef :: undef :: undef :: undef :: undef :: undef :: undef :: undef :: undef :: undef :: undef :: undef :: undef :: undef :: undef :: undef :: undef :: undef :: undef :: undef :: undef :: undef :: undef :: undef :: undef :: undef :: undef :: undef :: undef :: undef :: undef :: undef :: undef :: undef :: undef :: undef :: undef :: undef :: undef :: undef :: undef :: undef :: undef :: undef :: undef :: undef :: undef :: undef :: undef :: []).toArray, []⟩ (by kernel_rfl) ?_
  refine gx_seq (fun K1 hK2 => ?_)
  refine gx_region ?_
  refine gx_val (.bool false) w0 (by kernel_rfl) (by kernel_rfl) ?_
  refine gx_nil ?_
  refine gx_thenN ?_
  refine hK2 _ _ ?_
  obtain ⟨c6, hE7, hO8⟩ := bind_in hF
  refine gx_cut (fun a w => ∃ (u5 : Nat → Value), a = ⟨((.slice A0 p0.length c0) :: (.int .i64 p1) :: (.int .i64 p2) :: undef :: undef :: undef :: (u5 0) :: undef :: undef :: undef :: undef :: undef :: undef :: undef :: undef :: (u5 1) :: (u5 2) :: (u5 3) :: (u5 4) :: (u5 5) :: (u5 6) :: (u5 7) :: (u5 8) :: (u5 9) :: (u5 10) :: (u5 11) :: (u5 12) :: (u5 13) :: (u5 14) :: undef :: undef :: undef :: undef :: undef :: undef :: undef :: undef :: undef :: undef :: undef :: undef :: undef :: undef :: undef :: undef :: undef :: undef :: undef :: undef :: undef :: undef :: undef :: undef :: undef :: undef :: undef :: undef :: undef :: undef :: undef :: undef :: undef :: undef :: undef :: undef :: undef :: undef :: undef :: undef :: undef :: undef :: undef :: undef :: undef :: undef :: undef :: undef :: undef :: undef :: undef :: undef :: undef :: undef :: undef :: []).toArray, []⟩ ∧ Ctl.go () = c6 ∧ St [] w0 w []) ?_ ?_
  · refine gx_seq (fun K9 hK10 => ?_)
    refine gx_region ?_
    refine gx_val (.slice A0 p0.length c0) w0 (by kernel_rfl) (by kernel_rfl) ?_
    refine gx_val (.int .i64 ((p0.length : Nat) : Int)) w0 (by kernel_rfl) (by kernel_rfl) ?_
    rcases if_in hE7 with ⟨h11, hE7⟩ | ⟨h11, hE7⟩
    · refine gx_val (.bool true) w0 (by kernel_rfl) (run_boolE (decide_eq_true h11) (by kernel_rfl)) ?_
      refine gx_val (.bool true) w0 (by kernel_rfl) (by kernel_rfl) ?_
      refine gx_off (by kernel_rfl) ?_
      refine gx_off (by kernel_rfl) ?_
      refine gx_val (.bool true) w0 (by kernel_rfl) (by kernel_rfl) ?_
      refine gx_val (.bool true) w0 (by kernel_rfl) (by kernel_rfl) ?_
      refine gx_off (by kernel_rfl) ?_
      refine gx_off (by kernel_rfl) ?_
      refine gx_off (by kernel_rfl) ?_
      refine gx_off (by kernel_rfl) ?_
      refine gx_val (.bool true) w0 (by kernel_rfl) (by kernel_rfl) ?_
      refine gx_nil ?_
      refine gx_thenN ?_
      refine hK10 _ _ ?_
      refine gx_yes (by kernel_rfl) ?_
      refine gx_seq (fun K12 hK13 => ?_)
      refine gx_region ?_
      obtain ⟨b18, hc15, hE7⟩ := bind_in hE7
      try dsimp only at hE7
      refine gx_call (fWorks_R  b18 w0) (by kernel_rfl) (by kernel_rfl) (fWorks_ok N  _ hc15 w0 ) ?_
      rintro _ w16 ⟨rfl, hT19⟩
      have hS17 : St _ _ w16 [] := hS0.take _ hT19
      refine gx_val (.bool b18) w16 (by kernel_rfl) (by kernel_rfl) ?_
      refine gx_nil ?_
      refine gx_thenN ?_
      refine hK13 _ _ ?_
      refine gx_ret ?_
      refine gx_thenR ?_
      obtain rfl := Option.some.inj hE7
      try dsimp only at hO8
      obtain rfl := Option.some.inj hO8
      exact gx_fin (.bool b18) (by kernel_rfl) (by kernel_rfl) ⟨_, rfl, rfl, hS17⟩
    · refine gx_val (.bool false) w0 (by kernel_rfl) (run_boolE (decide_eq_false h11) (by kernel_rfl)) ?_
      refine gx_val (.bool false) w0 (by kernel_rfl) (by kernel_rfl) ?_
      refine gx_val (.int .i64 p1) w0 (by kernel_rfl) (by kernel_rfl) ?_
      rcases if_in hE7 with ⟨h20, hE7⟩ | ⟨h20, hE7⟩
      · refine gx_val (.bool true) w0 (by kernel_rfl) (run_boolE (decide_eq_true h20) (by kernel_rfl)) ?_
        refine gx_val (.bool true) w0 (by kernel_rfl) (by kernel_rfl) ?_
        refine gx_val (.bool true) w0 (by kernel_rfl) (by kernel_rfl) ?_
        refine gx_off (by kernel_rfl) ?_
        refine gx_off (by kernel_rfl) ?_
        refine gx_off (by kernel_rfl) ?_
        refine gx_off (by kernel_rfl) ?_
        refine gx_val (.bool true) w0 (by kernel_rfl) (by kernel_rfl) ?_
        refine gx_nil ?_
        refine gx_thenN ?_
        refine hK10 _ _ ?_
        refine gx_yes (by kernel_rfl) ?_
        refine gx_seq (fun K21 hK22 => ?_)
        refine gx_region ?_
        obtain ⟨b27, hc24, hE7⟩ := bind_in hE7
        try dsimp only at hE7
        refine gx_call (fWorks_R  b27 w0) (by kernel_rfl) (by kernel_rfl) (fWorks_ok N  _ hc24 w0 ) ?_
        rintro _ w25 ⟨rfl, hT28⟩
        have hS26 : St _ _ w25 [] := hS0.take _ hT28
        refine gx_val (.bool b27) w25 (by kernel_rfl) (by kernel_rfl) ?_
        refine gx_nil ?_
        refine gx_thenN ?_
        refine hK22 _ _ ?_
        refine gx_ret ?_
        refine gx_thenR ?_
        obtain rfl := Option.some.inj hE7
        try dsimp only at hO8
        obtain rfl := Option.some.inj hO8
        exact gx_fin (.bool b27) (by kernel_rfl) (by kernel_rfl) ⟨_, rfl, rfl, hS26⟩
      · refine gx_val (.bool false) w0 (by kernel_rfl) (run_boolE (decide_eq_false h20) (by kernel_rfl)) ?_
        refine gx_val (.bool false) w0 (by kernel_rfl) (by kernel_rfl) ?_
        refine gx_val (.bool false) w0 (by kernel_rfl) (by kernel_rfl) ?_
        refine gx_val (.int .i64 p1) w0 (by kernel_rfl) (by kernel_rfl) ?_
        refine gx_val (.slice A0 p0.length c0) w0 (by kernel_rfl) (by kernel_rfl) ?_
        refine gx_val (.int .i64 ((p0.length : Nat) : Int)) w0 (by kernel_rfl) (by kernel_rfl) ?_
        rcases if_in hE7 with ⟨h29, hE7⟩ | ⟨h29, hE7⟩
        · refine gx_val (.bool true) w0 (by kernel_rfl) (run_boolE (decide_eq_true h29) (by kernel_rfl)) ?_
          refine gx_val (.bool true) w0 (by kernel_rfl) (by kernel_rfl) ?_
          refine gx_nil ?_
          refine gx_thenN ?_
          refine hK10 _ _ ?_
          refine gx_yes (by kernel_rfl) ?_
          refine gx_seq (fun K30 hK31 => ?_)
          refine gx_region ?_
          obtain ⟨b36, hc33, hE7⟩ := bind_in hE7
          try dsimp only at hE7
          refine gx_call (fWorks_R  b36 w0) (by kernel_rfl) (by kernel_rfl) (fWorks_ok N  _ hc33 w0 ) ?_
          rintro _ w34 ⟨rfl, hT37⟩
          have hS35 : St _ _ w34 [] := hS0.take _ hT37
          refine gx_val (.bool b36) w34 (by kernel_rfl) (by kernel_rfl) ?_
          refine gx_nil ?_
          refine gx_thenN ?_
          refine hK31 _ _ ?_
          refine gx_ret ?_
          refine gx_thenR ?_
          obtain rfl := Option.some.inj hE7
          try dsimp only at hO8
          obtain rfl := Option.some.inj hO8
          exact gx_fin (.bool b36) (by kernel_rfl) (by kernel_rfl) ⟨_, rfl, rfl, hS35⟩
        · refine gx_val (.bool false) w0 (by kernel_rfl) (run_boolE (decide_eq_false h29) (by kernel_rfl)) ?_
          refine gx_val (.bool false) w0 (by kernel_rfl) (by kernel_rfl) ?_
          refine gx_nil ?_
          refine gx_thenN ?_
          refine hK10 _ _ ?_
          refine gx_no (by kernel_rfl) ?_
          refine gx_pass ?_
          refine gx_thenN ?_
          exact ⟨(fun i => List.getD ((.bool false) :: (.slice A0 p0.length c0) :: (.int .i64 ((p0.length : Nat) : Int)) :: (.bool false) :: (.bool false) :: (.int .i64 p1) :: (.bool false) :: (.bool false) :: (.bool false) :: (.int .i64 p1) :: (.slice A0 p0.length c0) :: (.int .i64 ((p0.length : Nat) : Int)) :: (.bool false) :: (.bool false) :: undef :: []) i undef), by kernel_rfl, (Option.some.inj hE7), hS0⟩
  · rintro _ w3 ⟨u5, rfl, rfl, hS4⟩
    try dsimp only at hO8
    refine gx_seq (fun K38 hK39 => ?_)
    refine gx_region ?_
    refine gx_val (.slice A0 p0.length c0) w3 (by kernel_rfl) (by kernel_rfl) ?_
    obtain ⟨⟨l44, b45⟩, hc41, hO8⟩ := bind_in hO8
    try dsimp only at hO8
    refine gx_call (bOpen_R  (l44, b45) w3) (by kernel_rfl) (by kernel_rfl) (bOpen_ok N p0 A0 c0 _ hc41 w3 (Vw.of (hS4.view hv0) hv0.nn)) ?_
    rintro _ w42 ⟨g46, g47, A48, c49, rfl, hT50⟩
    have hS43 : St _ _ w42 [boxE g46 [.pointer (some ⟨g47, 0, none⟩), .slice A48 l44.length c49] 60, boxE g47 [.bool b45] 57, rowE .u8 5 A48 c49 l44] := hS4.take _ hT50
    refine gx_val (.int .i64 p1) w42 (by kernel_rfl) (by kernel_rfl) ?_
    refine gx_val (.int .i64 p2) w42 (by kernel_rfl) (by kernel_rfl) ?_
    obtain ⟨⟨l55, x58, b59⟩, hc52, hO8⟩ := bind_in hO8
    try dsimp only at hO8
    refine gx_call (cCov_R l44 g46 g47 A48 c49 (l55, x58, b59) w42) (by kernel_rfl) (by kernel_rfl) (cCov_ok N l44 b45 p1 p2 g46 g47 A48 c49 _ hc52 w42 (hS43.get 0 rfl) (hS43.get 1 rfl) (hS43.ne 0 1 rfl rfl (by decide)) (hS43.rowv 2 0 1 rfl rfl rfl (by decide) (by decide))) ?_
    rintro _ w53 ⟨A56, c57, rfl, hT60⟩
    have hS54 : St _ _ w53 [boxE g46 [.pointer (some ⟨g47, 0, none⟩), .slice A48 l44.length c49] 60, boxE g47 [.bool b59] 57, rowE .u8 5 A48 c49 l44, rowE .u16 49 A56 c57 l55] := hS43.lend 0 1 rfl rfl _ hT60
    refine gx_val (.tuple #[.slice A56 l55.length c57, .int .i64 x58]) w53 (by kernel_rfl) (by kernel_rfl) ?_
    refine gx_val (.slice A56 l55.length c57) w53 (by kernel_rfl) (by kernel_rfl) ?_
    refine gx_val (.int .i64 x58) w53 (by kernel_rfl) (by kernel_rfl) ?_
    refine gx_val (.slice A56 l55.length c57) w53 (by kernel_rfl) (by kernel_rfl) ?_
    refine gx_val (.int .i64 x58) w53 (by kernel_rfl) (by kernel_rfl) ?_
    refine gx_nil ?_
    refine gx_thenN ?_
    refine hK39 _ _ ?_
    refine gx_seq (fun K61 hK62 => ?_)
    refine gx_region ?_
    refine gx_val (.slice A0 p0.length c0) w53 (by kernel_rfl) (by kernel_rfl) ?_
    refine gx_val (.int .i64 p1) w53 (by kernel_rfl) (by kernel_rfl) ?_
    obtain ⟨l63, hx64, hO8⟩ := bind_in hO8
    obtain ⟨A65, c66, hA67⟩ := cut_is A0 (Int.toNat p1) (Int.toNat ((p0.length : Nat) : Int)) c0
    rw [← cutx_len hx64] at hA67
    have hv68 := Vw.cut hv0 hx64 hA67
    refine gx_val (.slice A65 l63.length c66) w53 (by kernel_rfl) (run_cut (TE := 5) (l := Int.toNat p1) (h := Int.toNat ((p0.length : Nat) : Int)) (some (.int .i64 p1)) none rfl (by kernel_rfl) (by kernel_rfl) (by kernel_rfl) (by kernel_rfl) (fun _ => by kernel_rfl) (bnd_l (cutx_in hx64).1 (cutx_in hx64).2.1) hA67) ?_
    obtain ⟨⟨l73, b74⟩, hc70, hO8⟩ := bind_in hO8
    try dsimp only at hO8
    refine gx_call (bOpen_R  (l73, b74) w53) (by kernel_rfl) (by kernel_rfl) (bOpen_ok N l63 A65 c66 _ hc70 w53 (Vw.of (hS54.view hv68) hv68.nn)) ?_
    rintro _ w71 ⟨g75, g76, A77, c78, rfl, hT79⟩
    have hS72 : St _ _ w71 [boxE g46 [.pointer (some ⟨g47, 0, none⟩), .slice A48 l44.length c49] 60, boxE g47 [.bool b59] 57, rowE .u8 5 A48 c49 l44, rowE .u16 49 A56 c57 l55, boxE g75 [.pointer (some ⟨g76, 0, none⟩), .slice A77 l73.length c78] 60, boxE g76 [.bool b74] 57, rowE .u8 5 A77 c78 l73] := hS54.take _ hT79
    refine gx_val (.int .i64 p2) w71 (by kernel_rfl) (by kernel_rfl) ?_
    obtain ⟨⟨l84, x87, b88⟩, hc81, hO8⟩ := bind_in hO8
    try dsimp only at hO8
    refine gx_call (cCov_R l73 g75 g76 A77 c78 (l84, x87, b88) w71) (by kernel_rfl) (by kernel_rfl) (cCov_ok N l73 b74 (0 : Int) p2 g75 g76 A77 c78 _ hc81 w71 (hS72.get 4 rfl) (hS72.get 5 rfl) (hS72.ne 4 5 rfl rfl (by decide)) (hS72.rowv 6 4 5 rfl rfl rfl (by decide) (by decide))) ?_
    rintro _ w82 ⟨A85, c86, rfl, hT89⟩
    have hS83 : St _ _ w82 [boxE g46 [.pointer (some ⟨g47, 0, none⟩), .slice A48 l44.length c49] 60, boxE g47 [.bool b59] 57, rowE .u8 5 A48 c49 l44, rowE .u16 49 A56 c57 l55, boxE g75 [.pointer (some ⟨g76, 0, none⟩), .slice A77 l73.length c78] 60, boxE g76 [.bool b88] 57, rowE .u8 5 A77 c78 l73, rowE .u16 49 A85 c86 l84] := hS72.lend 4 5 rfl rfl _ hT89
    refine gx_val (.tuple #[.slice A85 l84.length c86, .int .i64 x87]) w82 (by kernel_rfl) (by kernel_rfl) ?_
    refine gx_val (.slice A85 l84.length c86) w82 (by kernel_rfl) (by kernel_rfl) ?_
    refine gx_val (.int .i64 x87) w82 (by kernel_rfl) (by kernel_rfl) ?_
    refine gx_val (.slice A85 l84.length c86) w82 (by kernel_rfl) (by kernel_rfl) ?_
    refine gx_val (.int .i64 x87) w82 (by kernel_rfl) (by kernel_rfl) ?_
    refine gx_nil ?_
    refine gx_thenN ?_
    refine hK62 _ _ ?_
    refine gx_seq (fun K90 hK91 => ?_)
    refine gx_region ?_
    refine gx_val (.slice A0 p0.length c0) w82 (by kernel_rfl) (by kernel_rfl) ?_
    obtain ⟨⟨l96, b97⟩, hc93, hO8⟩ := bind_in hO8
    try dsimp only at hO8
    refine gx_call (bOpen_R  (l96, b97) w82) (by kernel_rfl) (by kernel_rfl) (bOpen_ok N p0 A0 c0 _ hc93 w82 (Vw.of (hS83.view hv0) hv0.nn)) ?_
    rintro _ w94 ⟨g98, g99, A100, c101, rfl, hT102⟩
    have hS95 : St _ _ w94 [boxE g46 [.pointer (some ⟨g47, 0, none⟩), .slice A48 l44.length c49] 60, boxE g47 [.bool b59] 57, rowE .u8 5 A48 c49 l44, rowE .u16 49 A56 c57 l55, boxE g75 [.pointer (some ⟨g76, 0, none⟩), .slice A77 l73.length c78] 60, boxE g76 [.bool b88] 57, rowE .u8 5 A77 c78 l73, rowE .u16 49 A85 c86 l84, boxE g98 [.pointer (some ⟨g99, 0, none⟩), .slice A100 l96.length c101] 60, boxE g99 [.bool b97] 57, rowE .u8 5 A100 c101 l96] := hS83.take _ hT102
    refine gx_val (.int .i64 p1) w94 (by kernel_rfl) (by kernel_rfl) ?_
    refine gx_val (.int .i64 p2) w94 (by kernel_rfl) (by kernel_rfl) ?_
    obtain ⟨⟨l107, x110, b111⟩, hc104, hO8⟩ := bind_in hO8
    try dsimp only at hO8
    refine gx_call (cCls_R l96 g98 g99 A100 c101 (l107, x110, b111) w94) (by kernel_rfl) (by kernel_rfl) (cCls_ok N l96 b97 p1 p2 g98 g99 A100 c101 _ hc104 w94 (hS95.get 8 rfl) (hS95.get 9 rfl) (hS95.ne 8 9 rfl rfl (by decide)) (hS95.rowv 10 8 9 rfl rfl rfl (by decide) (by decide))) ?_
    rintro _ w105 ⟨A108, c109, rfl, hT112⟩
    have hS106 : St _ _ w105 [boxE g46 [.pointer (some ⟨g47, 0, none⟩), .slice A48 l44.length c49] 60, boxE g47 [.bool b59] 57, rowE .u8 5 A48 c49 l44, rowE .u16 49 A56 c57 l55, boxE g75 [.pointer (some ⟨g76, 0, none⟩), .slice A77 l73.length c78] 60, boxE g76 [.bool b88] 57, rowE .u8 5 A77 c78 l73, rowE .u16 49 A85 c86 l84, boxE g98 [.pointer (some ⟨g99, 0, none⟩), .slice A100 l96.length c101] 60, boxE g99 [.bool b111] 57, rowE .u8 5 A100 c101 l96, rowE .u8 5 A108 c109 l107] := hS95.lend 8 9 rfl rfl _ hT112
    refine gx_val (.tuple #[.slice A108 l107.length c109, .int .i64 x110]) w105 (by kernel_rfl) (by kernel_rfl) ?_
    refine gx_val (.slice A108 l107.length c109) w105 (by kernel_rfl) (by kernel_rfl) ?_
    refine gx_val (.int .i64 x110) w105 (by kernel_rfl) (by kernel_rfl) ?_
    refine gx_val (.slice A108 l107.length c109) w105 (by kernel_rfl) (by kernel_rfl) ?_
    refine gx_val (.int .i64 x110) w105 (by kernel_rfl) (by kernel_rfl) ?_
    refine gx_nil ?_
    refine gx_thenN ?_
    refine hK91 _ _ ?_
    refine gx_seq (fun K113 hK114 => ?_)
    refine gx_region ?_
    refine gx_val (.slice A0 p0.length c0) w105 (by kernel_rfl) (by kernel_rfl) ?_
    refine gx_val (.int .i64 p1) w105 (by kernel_rfl) (by kernel_rfl) ?_
    obtain ⟨l115, hx116, hO8⟩ := bind_in hO8
    obtain ⟨A117, c118, hA119⟩ := cut_is A0 (Int.toNat p1) (Int.toNat ((p0.length : Nat) : Int)) c0
    rw [← cutx_len hx116] at hA119
    have hv120 := Vw.cut hv0 hx116 hA119
    refine gx_val (.slice A117 l115.length c118) w105 (by kernel_rfl) (run_cut (TE := 5) (l := Int.toNat p1) (h := Int.toNat ((p0.length : Nat) : Int)) (some (.int .i64 p1)) none rfl (by kernel_rfl) (by kernel_rfl) (by kernel_rfl) (by kernel_rfl) (fun _ => by kernel_rfl) (bnd_l (cutx_in hx116).1 (cutx_in hx116).2.1) hA119) ?_
    obtain ⟨⟨l125, b126⟩, hc122, hO8⟩ := bind_in hO8
    try dsimp only at hO8
    refine gx_call (bOpen_R  (l125, b126) w105) (by kernel_rfl) (by kernel_rfl) (bOpen_ok N l115 A117 c118 _ hc122 w105 (Vw.of (hS106.view hv120) hv120.nn)) ?_
    rintro _ w123 ⟨g127, g128, A129, c130, rfl, hT131⟩
    have hS124 : St _ _ w123 [boxE g46 [.pointer (some ⟨g47, 0, none⟩), .slice A48 l44.length c49] 60, boxE g47 [.bool b59] 57, rowE .u8 5 A48 c49 l44, rowE .u16 49 A56 c57 l55, boxE g75 [.pointer (some ⟨g76, 0, none⟩), .slice A77 l73.length c78] 60, boxE g76 [.bool b88] 57, rowE .u8 5 A77 c78 l73, rowE .u16 49 A85 c86 l84, boxE g98 [.pointer (some ⟨g99, 0, none⟩), .slice A100 l96.length c101] 60, boxE g99 [.bool b111] 57, rowE .u8 5 A100 c101 l96, rowE .u8 5 A108 c109 l107, boxE g127 [.pointer (some ⟨g128, 0, none⟩), .slice A129 l125.length c130] 60, boxE g128 [.bool b126] 57, rowE .u8 5 A129 c130 l125] := hS106.take _ hT131
    refine gx_val (.int .i64 p2) w123 (by kernel_rfl) (by kernel_rfl) ?_
    obtain ⟨⟨l136, x139, b140⟩, hc133, hO8⟩ := bind_in hO8
    try dsimp only at hO8
    refine gx_call (cCls_R l125 g127 g128 A129 c130 (l136, x139, b140) w123) (by kernel_rfl) (by kernel_rfl) (cCls_ok N l125 b126 (0 : Int) p2 g127 g128 A129 c130 _ hc133 w123 (hS124.get 12 rfl) (hS124.get 13 rfl) (hS124.ne 12 13 rfl rfl (by decide)) (hS124.rowv 14 12 13 rfl rfl rfl (by decide) (by decide))) ?_
    rintro _ w134 ⟨A137, c138, rfl, hT141⟩
    have hS135 : St _ _ w134 [boxE g46 [.pointer (some ⟨g47, 0, none⟩), .slice A48 l44.length c49] 60, boxE g47 [.bool b59] 57, rowE .u8 5 A48 c49 l44, rowE .u16 49 A56 c57 l55, boxE g75 [.pointer (some ⟨g76, 0, none⟩), .slice A77 l73.length c78] 60, boxE g76 [.bool b88] 57, rowE .u8 5 A77 c78 l73, rowE .u16 49 A85 c86 l84, boxE g98 [.pointer (some ⟨g99, 0, none⟩), .slice A100 l96.length c101] 60, boxE g99 [.bool b111] 57, rowE .u8 5 A100 c101 l96, rowE .u8 5 A108 c109 l107, boxE g127 [.pointer (some ⟨g128, 0, none⟩), .slice A129 l125.length c130] 60, boxE g128 [.bool b140] 57, rowE .u8 5 A129 c130 l125, rowE .u8 5 A137 c138 l136] := hS124.lend 12 13 rfl rfl _ hT141
    refine gx_val (.tuple #[.slice A137 l136.length c138, .int .i64 x139]) w134 (by kernel_rfl) (by kernel_rfl) ?_
    refine gx_val (.slice A137 l136.length c138) w134 (by kernel_rfl) (by kernel_rfl) ?_
    refine gx_val (.int .i64 x139) w134 (by kernel_rfl) (by kernel_rfl) ?_
    refine gx_val (.slice A137 l136.length c138) w134 (by kernel_rfl) (by kernel_rfl) ?_
    refine gx_val (.int .i64 x139) w134 (by kernel_rfl) (by kernel_rfl) ?_
    refine gx_nil ?_
    refine gx_thenN ?_
    refine hK114 _ _ ?_
    refine gx_seq (fun K142 hK143 => ?_)
    refine gx_region ?_
    refine gx_val (.int .i64 x58) w134 (by kernel_rfl) (by kernel_rfl) ?_
    refine gx_val (.int .i64 x87) w134 (by kernel_rfl) (by kernel_rfl) ?_
    rcases if_in hO8 with ⟨h144, hO8⟩ | ⟨h144, hO8⟩
    · refine gx_val (.bool true) w134 (by kernel_rfl) (run_boolE (decide_eq_true h144) (by kernel_rfl)) ?_
      refine gx_val (.bool true) w134 (by kernel_rfl) (by kernel_rfl) ?_
      refine gx_val (.int .i64 x110) w134 (by kernel_rfl) (by kernel_rfl) ?_
      refine gx_val (.int .i64 x139) w134 (by kernel_rfl) (by kernel_rfl) ?_
      rcases if_in hO8 with ⟨h145, hO8⟩ | ⟨h145, hO8⟩
      · refine gx_val (.bool true) w134 (by kernel_rfl) (run_boolE (decide_eq_true h145) (by kernel_rfl)) ?_
        refine gx_val (.bool true) w134 (by kernel_rfl) (by kernel_rfl) ?_
        refine gx_val (.bool true) w134 (by kernel_rfl) (by kernel_rfl) ?_
        refine gx_val (.slice A56 l55.length c57) w134 (by kernel_rfl) (by kernel_rfl) ?_
        refine gx_val (.slice A85 l84.length c86) w134 (by kernel_rfl) (by kernel_rfl) ?_
        obtain ⟨b150, hc147, hO8⟩ := bind_in hO8
        try dsimp only at hO8
        refine gx_call (kWords_R  b150 w134) (by kernel_rfl) (by kernel_rfl) (kWords_ok N l55 l84 A56 c57 A85 c86 _ hc147 w134 (Vw.of (hS135.row 3 rfl).1 (hS135.row 3 rfl).2) (Vw.of (hS135.row 7 rfl).1 (hS135.row 7 rfl).2)) ?_
        rintro _ w148 ⟨rfl, hT151⟩
        have hS149 : St _ _ w148 [boxE g46 [.pointer (some ⟨g47, 0, none⟩), .slice A48 l44.length c49] 60, boxE g47 [.bool b59] 57, rowE .u8 5 A48 c49 l44, rowE .u16 49 A56 c57 l55, boxE g75 [.pointer (some ⟨g76, 0, none⟩), .slice A77 l73.length c78] 60, boxE g76 [.bool b88] 57, rowE .u8 5 A77 c78 l73, rowE .u16 49 A85 c86 l84, boxE g98 [.pointer (some ⟨g99, 0, none⟩), .slice A100 l96.length c101] 60, boxE g99 [.bool b111] 57, rowE .u8 5 A100 c101 l96, rowE .u8 5 A108 c109 l107, boxE g127 [.pointer (some ⟨g128, 0, none⟩), .slice A129 l125.length c130] 60, boxE g128 [.bool b140] 57, rowE .u8 5 A129 c130 l125, rowE .u8 5 A137 c138 l136] := hS135.take _ hT151
        refine gx_val (.bool b150) w148 (by kernel_rfl) (by kernel_rfl) ?_
        refine gx_val (.bool b150) w148 (by kernel_rfl) (by kernel_rfl) ?_
        cases b150 with
        | true =>
          try dsimp only at hO8
          refine gx_val (.slice A108 l107.length c109) w148 (by kernel_rfl) (by kernel_rfl) ?_
          refine gx_val (.slice A137 l136.length c138) w148 (by kernel_rfl) (by kernel_rfl) ?_
          obtain ⟨b156, hc153, hO8⟩ := bind_in hO8
          try dsimp only at hO8
          refine gx_call (kBytes_R  b156 w148) (by kernel_rfl) (by kernel_rfl) (kBytes_ok N l107 l136 A108 c109 A137 c138 _ hc153 w148 (Vw.of (hS149.row 11 rfl).1 (hS149.row 11 rfl).2) (Vw.of (hS149.row 15 rfl).1 (hS149.row 15 rfl).2)) ?_
          rintro _ w154 ⟨rfl, hT157⟩
          have hS155 : St _ _ w154 [boxE g46 [.pointer (some ⟨g47, 0, none⟩), .slice A48 l44.length c49] 60, boxE g47 [.bool b59] 57, rowE .u8 5 A48 c49 l44, rowE .u16 49 A56 c57 l55, boxE g75 [.pointer (some ⟨g76, 0, none⟩), .slice A77 l73.length c78] 60, boxE g76 [.bool b88] 57, rowE .u8 5 A77 c78 l73, rowE .u16 49 A85 c86 l84, boxE g98 [.pointer (some ⟨g99, 0, none⟩), .slice A100 l96.length c101] 60, boxE g99 [.bool b111] 57, rowE .u8 5 A100 c101 l96, rowE .u8 5 A108 c109 l107, boxE g127 [.pointer (some ⟨g128, 0, none⟩), .slice A129 l125.length c130] 60, boxE g128 [.bool b140] 57, rowE .u8 5 A129 c130 l125, rowE .u8 5 A137 c138 l136] := hS149.take _ hT157
          refine gx_val (.bool b156) w154 (by kernel_rfl) (by kernel_rfl) ?_
          refine gx_val (.bool b156) w154 (by kernel_rfl) (by kernel_rfl) ?_
          cases b156 with
          | true =>
            try dsimp only at hO8
            obtain ⟨b162, hc159, hO8⟩ := bind_in hO8
            try dsimp only at hO8
            refine gx_call (fWorks_R  b162 w154) (by kernel_rfl) (by kernel_rfl) (fWorks_ok N  _ hc159 w154 ) ?_
            rintro _ w160 ⟨rfl, hT163⟩
            have hS161 : St _ _ w160 [boxE g46 [.pointer (some ⟨g47, 0, none⟩), .slice A48 l44.length c49] 60, boxE g47 [.bool b59] 57, rowE .u8 5 A48 c49 l44, rowE .u16 49 A56 c57 l55, boxE g75 [.pointer (some ⟨g76, 0, none⟩), .slice A77 l73.length c78] 60, boxE g76 [.bool b88] 57, rowE .u8 5 A77 c78 l73, rowE .u16 49 A85 c86 l84, boxE g98 [.pointer (some ⟨g99, 0, none⟩), .slice A100 l96.length c101] 60, boxE g99 [.bool b111] 57, rowE .u8 5 A100 c101 l96, rowE .u8 5 A108 c109 l107, boxE g127 [.pointer (some ⟨g128, 0, none⟩), .slice A129 l125.length c130] 60, boxE g128 [.bool b140] 57, rowE .u8 5 A129 c130 l125, rowE .u8 5 A137 c138 l136] := hS155.take _ hT163
            refine gx_val (.bool b162) w160 (by kernel_rfl) (by kernel_rfl) ?_
            refine gx_val (.bool b162) w160 (by kernel_rfl) (by kernel_rfl) ?_
            refine gx_nil ?_
            refine gx_thenN ?_
            refine hK143 _ _ ?_
            refine gx_ret ?_
            obtain rfl := Option.some.inj hO8
            exact gx_fin (.bool b162) (by kernel_rfl) (by kernel_rfl) ⟨_, rfl, rfl, (hS161.pick [] rfl rfl)⟩
          | false =>
            try dsimp only at hO8
            refine gx_off (by kernel_rfl) ?_
            refine gx_val (.bool false) w154 (by kernel_rfl) (by kernel_rfl) ?_
            refine gx_val (.bool false) w154 (by kernel_rfl) (by kernel_rfl) ?_
            refine gx_nil ?_
            refine gx_thenN ?_
            refine hK143 _ _ ?_
            refine gx_ret ?_
            obtain rfl := Option.some.inj hO8
            exact gx_fin (.bool false) (by kernel_rfl) (by kernel_rfl) ⟨_, rfl, rfl, (hS155.pick [] rfl rfl)⟩
        | false =>
          try dsimp only at hO8
          refine gx_off (by kernel_rfl) ?_
          refine gx_off (by kernel_rfl) ?_
          refine gx_off (by kernel_rfl) ?_
          refine gx_val (.bool false) w148 (by kernel_rfl) (by kernel_rfl) ?_
          refine gx_val (.bool false) w148 (by kernel_rfl) (by kernel_rfl) ?_
          refine gx_off (by kernel_rfl) ?_
          refine gx_val (.bool false) w148 (by kernel_rfl) (by kernel_rfl) ?_
          refine gx_val (.bool false) w148 (by kernel_rfl) (by kernel_rfl) ?_
          refine gx_nil ?_
          refine gx_thenN ?_
          refine hK143 _ _ ?_
          refine gx_ret ?_
          obtain rfl := Option.some.inj hO8
          exact gx_fin (.bool false) (by kernel_rfl) (by kernel_rfl) ⟨_, rfl, rfl, (hS149.pick [] rfl rfl)⟩
      · refine gx_val (.bool false) w134 (by kernel_rfl) (run_boolE (decide_eq_false h145) (by kernel_rfl)) ?_
        refine gx_val (.bool false) w134 (by kernel_rfl) (by kernel_rfl) ?_
        refine gx_val (.bool false) w134 (by kernel_rfl) (by kernel_rfl) ?_
        refine gx_off (by kernel_rfl) ?_
        refine gx_off (by kernel_rfl) ?_
        refine gx_off (by kernel_rfl) ?_
        refine gx_val (.bool false) w134 (by kernel_rfl) (by kernel_rfl) ?_
        refine gx_val (.bool false) w134 (by kernel_rfl) (by kernel_rfl) ?_
        refine gx_off (by kernel_rfl) ?_
        refine gx_off (by kernel_rfl) ?_
        refine gx_off (by kernel_rfl) ?_
        refine gx_val (.bool false) w134 (by kernel_rfl) (by kernel_rfl) ?_
        refine gx_val (.bool false) w134 (by kernel_rfl) (by kernel_rfl) ?_
        refine gx_off (by kernel_rfl) ?_
        refine gx_val (.bool false) w134 (by kernel_rfl) (by kernel_rfl) ?_
        refine gx_val (.bool false) w134 (by kernel_rfl) (by kernel_rfl) ?_
        refine gx_nil ?_
        refine gx_thenN ?_
        refine hK143 _ _ ?_
        refine gx_ret ?_
        obtain rfl := Option.some.inj hO8
        exact gx_fin (.bool false) (by kernel_rfl) (by kernel_rfl) ⟨_, rfl, rfl, (hS135.pick [] rfl rfl)⟩
    · refine gx_val (.bool false) w134 (by kernel_rfl) (run_boolE (decide_eq_false h144) (by kernel_rfl)) ?_
      refine gx_val (.bool false) w134 (by kernel_rfl) (by kernel_rfl) ?_
      refine gx_off (by kernel_rfl) ?_
      refine gx_off (by kernel_rfl) ?_
      refine gx_off (by kernel_rfl) ?_
      refine gx_val (.bool false) w134 (by kernel_rfl) (by kernel_rfl) ?_
      refine gx_val (.bool false) w134 (by kernel_rfl) (by kernel_rfl) ?_
      refine gx_off (by kernel_rfl) ?_
      refine gx_off (by kernel_rfl) ?_
      refine gx_off (by kernel_rfl) ?_
      refine gx_val (.bool false) w134 (by kernel_rfl) (by kernel_rfl) ?_
      refine gx_val (.bool false) w134 (by kernel_rfl) (by kernel_rfl) ?_
      refine gx_off (by kernel_rfl) ?_
      refine gx_off (by kernel_rfl) ?_
      refine gx_off (by kernel_rfl) ?_
      refine gx_val (.bool false) w134 (by kernel_rfl) (by kernel_rfl) ?_
      refine gx_val (.bool false) w134 (by kernel_rfl) (by kernel_rfl) ?_
      refine gx_off (by kernel_rfl) ?_
      refine gx_val (.bool false) w134 (by kernel_rfl) (by kernel_rfl) ?_
      refine gx_val (.bool false) w134 (by kernel_rfl) (by kernel_rfl) ?_
      refine gx_nil ?_
      refine gx_thenN ?_
      refine hK143 _ _ ?_
      refine gx_ret ?_
      obtain rfl := Option.some.inj hO8
      exact gx_fin (.bool false) (by kernel_rfl) (by kernel_rfl) ⟨_, rfl, rfl, (hS135.pick [] rfl rfl)⟩

end Go.Proofs.Ytfgienbhdpmekaa

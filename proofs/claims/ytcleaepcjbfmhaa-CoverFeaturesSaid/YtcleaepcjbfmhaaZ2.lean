/-
  slices.Sort, walked.
-/
import Derived.Test.YtcleaepcjbfmhaaZ1
namespace Go.Proofs.Ytcleaepcjbfmhaa
open Go Go.RowKit
set_option linter.unusedVariables false

def zPart_L2 (N : Nat) (p2 : Int) (l19 : List Int) : Nat → Int → Option (Int)
 | 0, _ => none
 | k49+1, x48 => (if x48 < p2 then ((ix l19 x48).bind fun x58 => ((ix l19 (IntKind.i64.wrap (x48 - 1))).bind fun x60 => ((zLess N x58 x60).bind fun b64 => (match b64 with | true => some (x48) | false => zPart_L2 N p2 l19 k49 (IntKind.i64.wrap (x48 + 1)))))) else some (x48))
def zPart_L3 (N : Nat) : Nat → (List Int) → Int → Option (List Int)
 | 0, _, _ => none
 | k109+1, l107, x108 => (if x108 ≥ 1 then ((ix l107 x108).bind fun x124 => ((ix l107 (IntKind.i64.wrap (x108 - 1))).bind fun x126 => ((zLess N x124 x126).bind fun b130 => (match b130 with | true => ((ix l107 (IntKind.i64.wrap (x108 - 1))).bind fun xz17_133o8_1 => ((ix l107 x108).bind fun xz17_133o12_1 => ((ix l107 x108).bind fun _xz17_133o14_1 => ((setx l107 x108 xz17_133o8_1).bind fun lz17_133o15_3 => ((ix lz17_133o15_3 (IntKind.i64.wrap (x108 - 1))).bind fun _xz17_133o16_1 => ((setx lz17_133o15_3 (IntKind.i64.wrap (x108 - 1)) xz17_133o12_1).bind fun lz17_133o17_3 => zPart_L3 N k109 lz17_133o17_3 (IntKind.i64.wrap (x108 - 1)))))))) | false => some (l107))))) else some (l107))
def zPart_L4 (N : Nat) (p2 : Int) (x41 : Int) : Nat → (List Int) → Int → Option (Ctl (List Int × Int) (Bool × List Int))
 | 0, _, _ => none
 | k152+1, l150, x151 => (if x151 < p2 then ((ix l150 x151).bind fun x167 => ((ix l150 (IntKind.i64.wrap (x151 - 1))).bind fun x169 => ((zLess N x167 x169).bind fun b173 => (match b173 with | true => ((ix l150 (IntKind.i64.wrap (x151 - 1))).bind fun xz23_176o8_1 => ((ix l150 x151).bind fun xz23_176o12_1 => ((ix l150 x151).bind fun _xz23_176o14_1 => ((setx l150 x151 xz23_176o8_1).bind fun lz23_176o15_3 => ((ix lz23_176o15_3 (IntKind.i64.wrap (x151 - 1))).bind fun _xz23_176o16_1 => ((setx lz23_176o15_3 (IntKind.i64.wrap (x151 - 1)) xz23_176o12_1).bind fun lz23_176o17_3 => zPart_L4 N p2 x41 k152 lz23_176o17_3 (IntKind.i64.wrap (x151 + 1)))))))) | false => some (Ctl.go (l150, x41)))))) else some (Ctl.go (l150, x41)))
def zPart_L1 (N : Nat) (p1 : Int) (p2 : Int) : Nat → (List Int) → Int → Int → Option (Ctl (List Int) (Bool × List Int))
 | 0, _, _, _ => none
 | k22+1, l19, x20, x21 => (if x21 < 5 then ((((zPart_L2 N p2 l19 N x20 : Option (Int)).bind fun x41 => (if x41 = p2 then some (Ctl.ret (true, l19)) else (if (IntKind.i64.wrap (p2 - p1)) < 50 then some (Ctl.ret (false, l19)) else ((ix l19 (IntKind.i64.wrap (x41 - 1))).bind fun xz11_84o8_1 => ((ix l19 x41).bind fun xz11_84o12_1 => ((ix l19 x41).bind fun _xz11_84o14_1 => ((setx l19 x41 xz11_84o8_1).bind fun lz11_84o15_3 => ((ix lz11_84o15_3 (IntKind.i64.wrap (x41 - 1))).bind fun _xz11_84o16_1 => ((setx lz11_84o15_3 (IntKind.i64.wrap (x41 - 1)) xz11_84o12_1).bind fun lz11_84o17_3 => (((if (IntKind.i64.wrap (x41 - p1)) ≥ 2 then zPart_L3 N N lz11_84o17_3 (IntKind.i64.wrap (x41 - 1)) else some (lz11_84o17_3)) : Option (List Int)).bind fun l94 => (if (IntKind.i64.wrap (p2 - x41)) ≥ 2 then zPart_L4 N p2 x41 N l94 (IntKind.i64.wrap (x41 + 1)) else some (Ctl.go (l94, x41))))))))))))) : Option (Ctl (List Int × Int) (Bool × List Int))).bind fun | Ctl.go (l33, x34) => zPart_L1 N p1 p2 k22 l33 x34 (IntKind.i64.wrap (x21 + 1)) | Ctl.ret r => some (Ctl.ret r)) else some (Ctl.go l19))
def zPart (N : Nat) (p0 : List Int) (p1 : Int) (p2 : Int) : Option (Bool × List Int) :=
 ((zPart_L1 N p1 p2 N p0 (IntKind.i64.wrap (p1 + 1)) 0 : Option (Ctl (List Int) (Bool × List Int))).bind fun | Ctl.go l9 => some (false, l9) | Ctl.ret r => some r)

set_option linter.unusedVariables false in
def zPart_R (p0 : List Int) (p1 : Int) (p2 : Int) (A0 : Option Addr) (c0 : Nat) (r : Bool × List Int) (w0 : World) (v : Value) (w : World) : Prop := v = .bool r.1 ∧ St (foots [rowE .u16 45 A0 c0 p0]) w0 w [rowE .u16 45 A0 c0 r.2] ∧ r.2.length = p0.length

set_option maxRecDepth 100000 in
set_option maxHeartbeats 4000000 in
theorem zPart_ok (N : Nat) (p0 : List Int) (p1 : Int) (p2 : Int) (A0 : Option Addr) (c0 : Nat) (r : Bool × List Int) (hF : zPart N p0 p1 p2 = some r) (w0 : World) (hl : St (foots [rowE .u16 45 A0 c0 p0]) w0 w0 [rowE .u16 45 A0 c0 p0]) :
  Calls Try.prog 59 #[.slice A0 p0.length c0, .int .i64 p1, .int .i64 p2] w0 fun e w => ∃ v, e = .returned v ∧ zPart_R p0 p1 p2 A0 c0 r w0 v w := by
 have hS0 := hl
 unfold zPart at hF
 refine calls_of Try.func59 rfl ⟨((.slice A0 p0.length c0) :: (.int .i64 p1) :: (.int .i64 p2) :: un 130 ([])).toArray, []⟩ (by kernel_rfl) ?_
 refine gx_seq (fun K1 hK2 => ?_)
 refine gx_region ?_
 refine gx_k (.bool false) w0 ?_
 refine gx_nil ?_
 refine gx_thenN ?_
 refine hK2 _ _ ?_
 refine gx_seq (fun K3 hK4 => ?_)
 refine gx_region ?_
 refine gx_k (.int .i64 p1) w0 (gx_k (.int .i64 (IntKind.i64.wrap (p1 + 1))) w0 (gx_k (.int .i64 (IntKind.i64.wrap (p1 + 1))) w0 ?_))
 refine gx_nil ?_
 refine gx_thenN ?_
 refine hK4 _ _ ?_
 obtain ⟨c10, hE11, hO12⟩ := bind_in hF
 refine gx_cut (fun a w => ∃ (l9 : List Int), selfA (fun u7 => ⟨((.slice A0 p0.length c0) :: (.int .i64 p1) :: (.int .i64 p2) :: un 3 (dd u7 6 5 ((.int .i64 p1) :: (.int .i64 (IntKind.i64.wrap (p1 + 1))) :: dd u7 13 120 ([])))).toArray, []⟩) a ∧ Ctl.go l9 = c10 ∧ St (foots [rowE .u16 45 A0 c0 p0]) w0 w [rowE .u16 45 A0 c0 l9] ∧ p0.length = l9.length) ?_ ?_
 ·refine gx_seq (fun K13 hK14 => ?_)
  refine gx_region ?_
  refine gx_k (.int .i64 0) w0 ?_
  refine gx_nil ?_
  refine gx_thenN ?_
  refine hK14 _ _ ?_
  refine gx_block ?_
  refine gx_loop (fun k a w => ∃ (l19 : List Int) (x20 : Int) (x21 : Int), selfA (fun u17 => ⟨((.slice A0 p0.length c0) :: (.int .i64 p1) :: (.int .i64 p2) :: un 3 ((u17 6) :: (.int .i64 x20) :: (.int .i64 x21) :: dd u17 9 2 ((.int .i64 p1) :: (.int .i64 (IntKind.i64.wrap (p1 + 1))) :: dd u17 13 120 ([])))).toArray, []⟩) a ∧ zPart_L1 N p1 p2 k l19 x20 x21 = some c10 ∧ St (foots [rowE .u16 45 A0 c0 p0]) w0 w [rowE .u16 45 A0 c0 l19] ∧ p0.length = l19.length) N ?_ ?_
  ·exact ⟨p0, (IntKind.i64.wrap (p1 + 1)), 0, selfA_i (by kernel_rfl), hE11, hS0, rfl⟩
  ·rintro k22 _ w15 ⟨l19, x20, x21, hq188, hL23, hS16, hn18⟩
   obtain ⟨u17, rfl⟩ := selfA_u hq188
   cases k22 with
   | zero => cases hL23
   | succ k22 =>
    first | rw [zPart_L1] at hL23 | unfold zPart_L1 at hL23
    refine gx_seq (fun K24 hK25 => ?_)
    refine gx_seq (fun K26 hK27 => ?_)
    refine gx_region ?_
    refine gx_k (.int .i64 x21) w15 ?_
    rcases if_in hL23 with ⟨h28, hL23⟩ | ⟨h28, hL23⟩
    ·refine gx_v (.bool true) w15 (run_boolE (decide_eq_true h28) (by kernel_rfl)) ?_
     refine gx_nil ?_
     refine gx_thenN ?_
     refine hK27 _ _ ?_
     refine gx_yes (by kernel_rfl) ?_
     refine gx_pass ?_
     refine gx_thenN ?_
     refine hK25 _ _ ?_
     obtain ⟨c35, hE36, hO37⟩ := bind_in hL23
     refine gx_cut (fun a w => ∃ (l33 : List Int) (x34 : Int), selfA (fun u31 => ⟨((.slice A0 p0.length c0) :: (.int .i64 p1) :: (.int .i64 p2) :: un 3 ((u31 6) :: (.int .i64 x34) :: (.int .i64 x21) :: dd u31 9 2 ((.int .i64 p1) :: (.int .i64 (IntKind.i64.wrap (p1 + 1))) :: (.int .i64 x21) :: (.bool true) :: dd u17 15 2 (dd u31 17 116 ([]))))).toArray, []⟩) a ∧ Ctl.go (l33, x34) = c35 ∧ St (foots [rowE .u16 45 A0 c0 p0]) w0 w [rowE .u16 45 A0 c0 l33] ∧ p0.length = l33.length) ?_ ?_
     ·refine gx_block ?_
      obtain ⟨c42, hE43, hO44⟩ := bind_in hE36
      refine gx_cut (fun a w => ∃ (x41 : Int), selfA (fun u40 => ⟨((.slice A0 p0.length c0) :: (.int .i64 p1) :: (.int .i64 p2) :: un 3 ((u17 6) :: (.int .i64 x41) :: (.int .i64 x21) :: dd u17 9 2 ((.int .i64 p1) :: (.int .i64 (IntKind.i64.wrap (p1 + 1))) :: (.int .i64 x21) :: (.bool true) :: dd u17 15 2 (dd u40 17 18 (dd u17 35 98 ([])))))).toArray, []⟩) a ∧ x41 = c42 ∧ St (foots [rowE .u16 45 A0 c0 p0]) w0 w [rowE .u16 45 A0 c0 l19]) ?_ ?_
      ·refine gx_block ?_
       refine gx_loop (fun k a w => ∃ (x48 : Int), selfA (fun u47 => ⟨((.slice A0 p0.length c0) :: (.int .i64 p1) :: (.int .i64 p2) :: un 3 ((u17 6) :: (.int .i64 x48) :: (.int .i64 x21) :: dd u17 9 2 ((.int .i64 p1) :: (.int .i64 (IntKind.i64.wrap (p1 + 1))) :: (.int .i64 x21) :: (.bool true) :: dd u17 15 2 (dd u47 17 18 (dd u17 35 98 ([])))))).toArray, []⟩) a ∧ zPart_L2 N p2 l19 k x48 = some c42 ∧ St (foots [rowE .u16 45 A0 c0 p0]) w0 w [rowE .u16 45 A0 c0 l19]) N ?_ ?_
       ·exact ⟨x20, selfA_i (by kernel_rfl), hE43, hS16⟩
       ·rintro k49 _ w45 ⟨x48, hq68, hL50, hS46⟩
        obtain ⟨u47, rfl⟩ := selfA_u hq68
        cases k49 with
        | zero => cases hL50
        | succ k49 =>
         first | rw [zPart_L2] at hL50 | unfold zPart_L2 at hL50
         refine gx_seq (fun K51 hK52 => ?_)
         refine gx_seq (fun K53 hK54 => ?_)
         refine gd_start (fun w => St (foots [rowE .u16 45 A0 c0 p0]) w0 w [rowE .u16 45 A0 c0 l19]) 16 #[false, false, false, false, false, false, false, false, false, false, false, false, false, false, false, false] (by kernel_rfl) (by kernel_rfl) ?_
         have hS56 := hS46.drew
         generalize w45.drew = w55 at hS56 ⊢
         refine gd1 0 { dst := some 17, op := _, type := _, pos := _, after := _, guard := _ } (.int .i64 x48) rfl hS56 (fun w hSw => by kernel_rfl) ?_
         refine gd1 1 { dst := some 18, op := _, type := _, pos := _, after := _, guard := _ } (.int .i64 p2) rfl hS56 (fun w hSw => by kernel_rfl) ?_
         rcases if_in hL50 with ⟨h57, hL50⟩ | ⟨h57, hL50⟩
         ·refine gd1 2 { dst := some 19, op := _, type := _, pos := _, after := _, guard := _ } (.bool true) rfl hS56 (fun w hSw => run_boolE (decide_eq_true h57) (by kernel_rfl)) ?_
          refine gd1 3 { dst := some 20, op := _, type := _, pos := _, after := _, guard := _ } (.bool true) rfl hS56 (fun w hSw => by kernel_rfl) ?_
          refine gd1 4 { dst := some 21, op := _, type := _, pos := _, after := _, guard := _ } (.slice A0 p0.length c0) rfl hS56 (fun w hSw => by kernel_rfl) ?_
          refine gd1 5 { dst := some 22, op := _, type := _, pos := _, after := _, guard := _ } (.int .i64 x48) rfl hS56 (fun w hSw => by kernel_rfl) ?_
          obtain ⟨x58, hx59, hL50⟩ := bind_in hL50
          refine gd1 6 { dst := some 23, op := _, type := _, pos := _, after := _, guard := _ } (.pointer (Option.map (fun (p : Addr) => p.add (Int.toNat x48 * 1)) A0)) rfl hS56 (fun w hSw => run_ixaddr (E := 45) (s := 1) (k := .i64) (c := c0) rfl (by kernel_rfl) (by kernel_rfl) (by kernel_rfl) (fun _ => by kernel_rfl) (ix_in hx59).1 (lt_len hn18 (ix_in hx59).2.1) (nil_len hn18 (num_nil (hS56.row 0 rfl).1))) ?_
          refine gd1 7 { dst := some 24, op := _, type := _, pos := _, after := _, guard := _ } (.int .u16 x58) rfl hS56 (fun w hSw => run_loadix rfl (by kernel_rfl) (fun _ => by kernel_rfl) (hSw.row 0 rfl).1 hx59) ?_
          refine gd1 8 { dst := some 25, op := _, type := _, pos := _, after := _, guard := _ } (.slice A0 p0.length c0) rfl hS56 (fun w hSw => by kernel_rfl) ?_
          refine gd1 9 { dst := some 26, op := _, type := _, pos := _, after := _, guard := _ } (.int .i64 x48) rfl hS56 (fun w hSw => by kernel_rfl) ?_
          refine gd1 10 { dst := some 27, op := _, type := _, pos := _, after := _, guard := _ } (.int .i64 (IntKind.i64.wrap (x48 - 1))) rfl hS56 (fun w hSw => by kernel_rfl) ?_
          obtain ⟨x60, hx61, hL50⟩ := bind_in hL50
          refine gd1 11 { dst := some 28, op := _, type := _, pos := _, after := _, guard := _ } (.pointer (Option.map (fun (p : Addr) => p.add (Int.toNat (IntKind.i64.wrap (x48 - 1)) * 1)) A0)) rfl hS56 (fun w hSw => run_ixaddr (E := 45) (s := 1) (k := .i64) (c := c0) rfl (by kernel_rfl) (by kernel_rfl) (by kernel_rfl) (fun _ => by kernel_rfl) (ix_in hx61).1 (lt_len hn18 (ix_in hx61).2.1) (nil_len hn18 (num_nil (hS56.row 0 rfl).1))) ?_
          refine gd1 12 { dst := some 29, op := _, type := _, pos := _, after := _, guard := _ } (.int .u16 x60) rfl hS56 (fun w hSw => run_loadix rfl (by kernel_rfl) (fun _ => by kernel_rfl) (hSw.row 0 rfl).1 hx61) ?_
          have hP62 : St _ _ w55 ([] ++ [rowE .u16 45 A0 c0 l19]) := hS56
          obtain ⟨b64, hc63, hL50⟩ := bind_in hL50
          try dsimp only at hL50
          refine gdC 13 { dst := some 30, op := _, type := _, pos := _, after := _, guard := _ } (zLess_R b64 w55) rfl (by kernel_rfl) (zLess_ok N x58 x60 _ hc63 w55 ) ?_
          rintro _ w65 ⟨rfl, hT67⟩
          have hS66 : St _ _ w65 [rowE .u16 45 A0 c0 l19] := hS56.take _ hT67
          refine ⟨hS66, ?_⟩
          cases b64 with
          | true =>
           try dsimp only at hL50
           refine gd1 14 { dst := some 31, op := _, type := _, pos := _, after := _, guard := _ } (.bool false) rfl hS66 (fun w hSw => by kernel_rfl) ?_
           refine gd1 15 { dst := some 32, op := _, type := _, pos := _, after := _, guard := _ } (.bool false) rfl hS66 (fun w hSw => by kernel_rfl) ?_
           refine gd_done (by kernel_rfl) ?_
           refine gx_thenN ?_
           refine hK54 _ _ ?_
           refine gx_no (by kernel_rfl) ?_
           refine gx_exit ?_
           refine gx_thenE ?_
           refine gx_thenE ?_
           refine gx_blkE ?_
           refine gx_thenN ?_
           exact ⟨x48, selfA_i (by kernel_rfl), (Option.some.inj hL50), hS66⟩
          | false =>
           try dsimp only at hL50
           refine gd1 14 { dst := some 31, op := _, type := _, pos := _, after := _, guard := _ } (.bool true) rfl hS66 (fun w hSw => by kernel_rfl) ?_
           refine gd1 15 { dst := some 32, op := _, type := _, pos := _, after := _, guard := _ } (.bool true) rfl hS66 (fun w hSw => by kernel_rfl) ?_
           refine gd_done (by kernel_rfl) ?_
           refine gx_thenN ?_
           refine hK54 _ _ ?_
           refine gx_yes (by kernel_rfl) ?_
           refine gx_pass ?_
           refine gx_thenN ?_
           refine hK52 _ _ ?_
           refine gx_block ?_
           refine gx_region ?_
           refine gx_k (.int .i64 x48) w65 (gx_k (.int .i64 (IntKind.i64.wrap (x48 + 1))) w65 (gx_k (.int .i64 (IntKind.i64.wrap (x48 + 1))) w65 ?_))
           refine gx_nil ?_
           refine gx_blkN ?_
           refine gx_thenN ?_
           exact ⟨k49, Nat.lt_succ_self k49, (IntKind.i64.wrap (x48 + 1)), selfA_i (by kernel_rfl), hL50, hS66⟩
         ·refine gd1 2 { dst := some 19, op := _, type := _, pos := _, after := _, guard := _ } (.bool false) rfl hS56 (fun w hSw => run_boolE (decide_eq_false h57) (by kernel_rfl)) ?_
          refine gd1 3 { dst := some 20, op := _, type := _, pos := _, after := _, guard := _ } (.bool false) rfl hS56 (fun w hSw => by kernel_rfl) ?_
          refine gd0 4 { dst := some 21, op := _, type := _, pos := _, after := _, guard := _ } rfl hS56 ?_
          refine gd0 5 { dst := some 22, op := _, type := _, pos := _, after := _, guard := _ } rfl hS56 ?_
          refine gd0 6 { dst := some 23, op := _, type := _, pos := _, after := _, guard := _ } rfl hS56 ?_
          refine gd0 7 { dst := some 24, op := _, type := _, pos := _, after := _, guard := _ } rfl hS56 ?_
          refine gd0 8 { dst := some 25, op := _, type := _, pos := _, after := _, guard := _ } rfl hS56 ?_
          refine gd0 9 { dst := some 26, op := _, type := _, pos := _, after := _, guard := _ } rfl hS56 ?_
          refine gd0 10 { dst := some 27, op := _, type := _, pos := _, after := _, guard := _ } rfl hS56 ?_
          refine gd0 11 { dst := some 28, op := _, type := _, pos := _, after := _, guard := _ } rfl hS56 ?_
          refine gd0 12 { dst := some 29, op := _, type := _, pos := _, after := _, guard := _ } rfl hS56 ?_
          refine gd0 13 { dst := some 30, op := _, type := _, pos := _, after := _, guard := _ } rfl hS56 ?_
          refine gd0 14 { dst := some 31, op := _, type := _, pos := _, after := _, guard := _ } rfl hS56 ?_
          refine gd1 15 { dst := some 32, op := _, type := _, pos := _, after := _, guard := _ } (.bool false) rfl hS56 (fun w hSw => by kernel_rfl) ?_
          refine gd_done (by kernel_rfl) ?_
          refine gx_thenN ?_
          refine hK54 _ _ ?_
          refine gx_no (by kernel_rfl) ?_
          refine gx_exit ?_
          refine gx_thenE ?_
          refine gx_thenE ?_
          refine gx_blkE ?_
          refine gx_thenN ?_
          exact ⟨x48, selfA_i (by kernel_rfl), (Option.some.inj hL50), hS56⟩
      ·rintro _ w38 ⟨x41, hq186, rfl, hS39⟩
       obtain ⟨u40, rfl⟩ := selfA_u hq186
       try dsimp only at hO44
       refine gx_seq (fun K69 hK70 => ?_)
       refine gx_seq (fun K71 hK72 => ?_)
       refine gx_region ?_
       refine gx_k (.int .i64 x41) w38 (gx_k (.int .i64 p2) w38 ?_)
       rcases if_in hO44 with ⟨h73, hO44⟩ | ⟨h73, hO44⟩
       ·refine gx_v (.bool true) w38 (run_boolE (decide_eq_true h73) (by kernel_rfl)) ?_
        refine gx_nil ?_
        refine gx_thenN ?_
        refine hK72 _ _ ?_
        refine gx_yes (by kernel_rfl) ?_
        refine gx_seq (fun K74 hK75 => ?_)
        refine gx_region ?_
        refine gx_k (.bool true) w38 ?_
        refine gx_nil ?_
        refine gx_thenN ?_
        refine hK75 _ _ ?_
        refine gx_ret ?_
        refine gx_thenR ?_
        refine gx_blkR ?_
        refine gx_thenR ?_
        obtain rfl := Option.some.inj hO44
        try dsimp only at hO37
        refine gx_thenR ?_
        refine gx_blkR ?_
        refine gx_thenR ?_
        obtain rfl := Option.some.inj hO37
        try dsimp only at hO12
        obtain rfl := Option.some.inj hO12
        exact gx_fin (.bool true) (by kernel_rfl) (by kernel_rfl) ⟨_, rfl, rfl, hS39, (hn18).symm⟩
       ·refine gx_v (.bool false) w38 (run_boolE (decide_eq_false h73) (by kernel_rfl)) ?_
        refine gx_nil ?_
        refine gx_thenN ?_
        refine hK72 _ _ ?_
        refine gx_no (by kernel_rfl) ?_
        refine gx_pass ?_
        refine gx_thenN ?_
        refine hK70 _ _ ?_
        refine gx_seq (fun K76 hK77 => ?_)
        refine gx_seq (fun K78 hK79 => ?_)
        refine gx_region ?_
        refine gx_k (.int .i64 p2) w38 (gx_k (.int .i64 p1) w38 (gx_k (.int .i64 (IntKind.i64.wrap (p2 - p1))) w38 ?_))
        rcases if_in hO44 with ⟨h80, hO44⟩ | ⟨h80, hO44⟩
        ·refine gx_v (.bool true) w38 (run_boolE (decide_eq_true h80) (by kernel_rfl)) ?_
         refine gx_nil ?_
         refine gx_thenN ?_
         refine hK79 _ _ ?_
         refine gx_yes (by kernel_rfl) ?_
         refine gx_seq (fun K81 hK82 => ?_)
         refine gx_region ?_
         refine gx_k (.bool false) w38 ?_
         refine gx_nil ?_
         refine gx_thenN ?_
         refine hK82 _ _ ?_
         refine gx_ret ?_
         refine gx_thenR ?_
         refine gx_blkR ?_
         refine gx_thenR ?_
         obtain rfl := Option.some.inj hO44
         try dsimp only at hO37
         refine gx_thenR ?_
         refine gx_blkR ?_
         refine gx_thenR ?_
         obtain rfl := Option.some.inj hO37
         try dsimp only at hO12
         obtain rfl := Option.some.inj hO12
         exact gx_fin (.bool false) (by kernel_rfl) (by kernel_rfl) ⟨_, rfl, rfl, hS39, (hn18).symm⟩
        ·refine gx_v (.bool false) w38 (run_boolE (decide_eq_false h80) (by kernel_rfl)) ?_
         refine gx_nil ?_
         refine gx_thenN ?_
         refine hK79 _ _ ?_
         refine gx_no (by kernel_rfl) ?_
         refine gx_pass ?_
         refine gx_thenN ?_
         refine hK77 _ _ ?_
         refine gx_seq (fun K83 hK84 => ?_)
         refine gd_start (fun w => St (foots [rowE .u16 45 A0 c0 p0]) w0 w []) 18 #[false, false, false, false, false, false, false, false, false, false, false, false, false, false, false, false, false, false] (by kernel_rfl) (by kernel_rfl) ?_
         have hS87 := hS39.drew
         generalize w38.drew = w86 at hS87 ⊢
         obtain ⟨xz11_84o8_1, hxz11_84o8_2, hO44⟩ := bind_in hO44
         obtain ⟨xz11_84o12_1, hxz11_84o12_2, hO44⟩ := bind_in hO44
         obtain ⟨xz11_84o14_1, hxz11_84o14_2, hO44⟩ := bind_in hO44
         obtain ⟨lz11_84o15_3, hxz11_84o15_4, hO44⟩ := bind_in hO44
         obtain ⟨xz11_84o16_1, hxz11_84o16_2, hO44⟩ := bind_in hO44
         obtain ⟨lz11_84o17_3, hxz11_84o17_4, hO44⟩ := bind_in hO44
         refine gd_share (X := Unit) (fun _ => ⟨((.slice A0 p0.length c0) :: (.int .i64 p1) :: (.int .i64 p2) :: un 3 ((u17 6) :: (.int .i64 x41) :: (.int .i64 x21) :: dd u17 9 2 ((.int .i64 p1) :: (.int .i64 (IntKind.i64.wrap (p1 + 1))) :: (.int .i64 x21) :: (.bool true) :: dd u17 15 2 (dd u40 17 18 ((.int .i64 x41) :: (.int .i64 p2) :: (.bool false) :: (.int .i64 p2) :: (.int .i64 p1) :: (.int .i64 (IntKind.i64.wrap (p2 - p1))) :: (.bool false) :: (.slice A0 p0.length c0) :: (.int .i64 x41) :: (.slice A0 p0.length c0) :: (.int .i64 x41) :: (.int .i64 (IntKind.i64.wrap (x41 - 1))) :: (.slice A0 p0.length c0) :: (.int .i64 x41) :: (.int .i64 (IntKind.i64.wrap (x41 - 1))) :: (.pointer (Option.map (fun (p : Addr) => p.add (Int.toNat (IntKind.i64.wrap (x41 - 1)) * 1)) A0)) :: (.int .u16 xz11_84o8_1) :: (.slice A0 p0.length c0) :: (.int .i64 x41) :: (.pointer (Option.map (fun (p : Addr) => p.add (Int.toNat x41 * 1)) A0)) :: (.int .u16 xz11_84o12_1) :: (.pointer (Option.map (fun (p : Addr) => p.add (Int.toNat x41 * 1)) A0)) :: (.pointer (Option.map (fun (p : Addr) => p.add (Int.toNat (IntKind.i64.wrap (x41 - 1)) * 1)) A0)) :: dd u17 58 75 ([])))))).toArray, []⟩) (fun _ w => St (foots [rowE .u16 45 A0 c0 p0]) w0 w [rowE .u16 45 A0 c0 lz11_84o17_3]) ?_ ?_
         ·rintro _ w88 hS89
          have hS89 : St _ _ w88 [rowE .u16 45 A0 c0 lz11_84o17_3] := hS89
          show WQ _ _ ⟨((.slice A0 p0.length c0) :: (.int .i64 p1) :: (.int .i64 p2) :: un 3 ((u17 6) :: (.int .i64 x41) :: (.int .i64 x21) :: dd u17 9 2 ((.int .i64 p1) :: (.int .i64 (IntKind.i64.wrap (p1 + 1))) :: (.int .i64 x21) :: (.bool true) :: dd u17 15 2 (dd u40 17 18 ((.int .i64 x41) :: (.int .i64 p2) :: (.bool false) :: (.int .i64 p2) :: (.int .i64 p1) :: (.int .i64 (IntKind.i64.wrap (p2 - p1))) :: (.bool false) :: (.slice A0 p0.length c0) :: (.int .i64 x41) :: (.slice A0 p0.length c0) :: (.int .i64 x41) :: (.int .i64 (IntKind.i64.wrap (x41 - 1))) :: (.slice A0 p0.length c0) :: (.int .i64 x41) :: (.int .i64 (IntKind.i64.wrap (x41 - 1))) :: (.pointer (Option.map (fun (p : Addr) => p.add (Int.toNat (IntKind.i64.wrap (x41 - 1)) * 1)) A0)) :: (.int .u16 xz11_84o8_1) :: (.slice A0 p0.length c0) :: (.int .i64 x41) :: (.pointer (Option.map (fun (p : Addr) => p.add (Int.toNat x41 * 1)) A0)) :: (.int .u16 xz11_84o12_1) :: (.pointer (Option.map (fun (p : Addr) => p.add (Int.toNat x41 * 1)) A0)) :: (.pointer (Option.map (fun (p : Addr) => p.add (Int.toNat (IntKind.i64.wrap (x41 - 1)) * 1)) A0)) :: dd u17 58 75 ([])))))).toArray, []⟩ _
          refine gx_thenN ?_
          refine hK84 _ _ ?_
          obtain ⟨c95, hE96, hO97⟩ := bind_in hO44
          refine gx_cut (fun a w => ∃ (l94 : List Int), selfA (fun u92 => ⟨((.slice A0 p0.length c0) :: (.int .i64 p1) :: (.int .i64 p2) :: un 3 ((u17 6) :: (.int .i64 x41) :: (.int .i64 x21) :: (u92 9) :: (u17 10) :: (.int .i64 p1) :: (.int .i64 (IntKind.i64.wrap (p1 + 1))) :: (.int .i64 x21) :: (.bool true) :: dd u17 15 2 (dd u40 17 18 ((.int .i64 x41) :: (.int .i64 p2) :: (.bool false) :: (.int .i64 p2) :: (.int .i64 p1) :: (.int .i64 (IntKind.i64.wrap (p2 - p1))) :: (.bool false) :: (u92 42) :: (.int .i64 x41) :: (u92 44) :: (.int .i64 x41) :: (.int .i64 (IntKind.i64.wrap (x41 - 1))) :: (u92 47) :: (.int .i64 x41) :: (.int .i64 (IntKind.i64.wrap (x41 - 1))) :: (.pointer (Option.map (fun (p : Addr) => p.add (Int.toNat (IntKind.i64.wrap (x41 - 1)) * 1)) A0)) :: (.int .u16 xz11_84o8_1) :: (u92 52) :: (.int .i64 x41) :: (.pointer (Option.map (fun (p : Addr) => p.add (Int.toNat x41 * 1)) A0)) :: (.int .u16 xz11_84o12_1) :: (.pointer (Option.map (fun (p : Addr) => p.add (Int.toNat x41 * 1)) A0)) :: (.pointer (Option.map (fun (p : Addr) => p.add (Int.toNat (IntKind.i64.wrap (x41 - 1)) * 1)) A0)) :: dd u92 58 37 (dd u17 95 38 ([])))))).toArray, []⟩) a ∧ l94 = c95 ∧ St (foots [rowE .u16 45 A0 c0 p0]) w0 w [rowE .u16 45 A0 c0 l94] ∧ p0.length = l94.length) ?_ ?_
          ·refine gx_seq (fun K98 hK99 => ?_)
           refine gx_region ?_
           refine gx_k (.int .i64 x41) w88 (gx_k (.int .i64 p1) w88 (gx_k (.int .i64 (IntKind.i64.wrap (x41 - p1))) w88 ?_))
           rcases if_in hE96 with ⟨h100, hE96⟩ | ⟨h100, hE96⟩
           ·refine gx_v (.bool true) w88 (run_boolE (decide_eq_true h100) (by kernel_rfl)) ?_
            refine gx_nil ?_
            refine gx_thenN ?_
            refine hK99 _ _ ?_
            refine gx_yes (by kernel_rfl) ?_
            refine gx_seq (fun K101 hK102 => ?_)
            refine gx_region ?_
            refine gx_k (.int .i64 x41) w88 (gx_k (.int .i64 (IntKind.i64.wrap (x41 - 1))) w88 (gx_k (.int .i64 (IntKind.i64.wrap (x41 - 1))) w88 ?_))
            refine gx_nil ?_
            refine gx_thenN ?_
            refine hK102 _ _ ?_
            refine gx_block ?_
            refine gx_loop (fun k a w => ∃ (l107 : List Int) (x108 : Int), selfA (fun u105 => ⟨((.slice A0 p0.length c0) :: (.int .i64 p1) :: (.int .i64 p2) :: un 3 ((u17 6) :: (.int .i64 x41) :: (.int .i64 x21) :: (.int .i64 x108) :: (u17 10) :: (.int .i64 p1) :: (.int .i64 (IntKind.i64.wrap (p1 + 1))) :: (.int .i64 x21) :: (.bool true) :: dd u17 15 2 (dd u40 17 18 ((.int .i64 x41) :: (.int .i64 p2) :: (.bool false) :: (.int .i64 p2) :: (.int .i64 p1) :: (.int .i64 (IntKind.i64.wrap (p2 - p1))) :: (.bool false) :: (u105 42) :: (.int .i64 x41) :: (u105 44) :: (.int .i64 x41) :: (.int .i64 (IntKind.i64.wrap (x41 - 1))) :: (u105 47) :: (.int .i64 x41) :: (.int .i64 (IntKind.i64.wrap (x41 - 1))) :: (.pointer (Option.map (fun (p : Addr) => p.add (Int.toNat (IntKind.i64.wrap (x41 - 1)) * 1)) A0)) :: (.int .u16 xz11_84o8_1) :: (u105 52) :: (.int .i64 x41) :: (.pointer (Option.map (fun (p : Addr) => p.add (Int.toNat x41 * 1)) A0)) :: (.int .u16 xz11_84o12_1) :: (.pointer (Option.map (fun (p : Addr) => p.add (Int.toNat x41 * 1)) A0)) :: (.pointer (Option.map (fun (p : Addr) => p.add (Int.toNat (IntKind.i64.wrap (x41 - 1)) * 1)) A0)) :: (.int .i64 x41) :: (.int .i64 p1) :: (.int .i64 (IntKind.i64.wrap (x41 - p1))) :: (.bool true) :: (.int .i64 x41) :: (.int .i64 (IntKind.i64.wrap (x41 - 1))) :: dd u105 64 31 (dd u17 95 38 ([])))))).toArray, []⟩) a ∧ zPart_L3 N k l107 x108 = some c95 ∧ St (foots [rowE .u16 45 A0 c0 p0]) w0 w [rowE .u16 45 A0 c0 l107] ∧ p0.length = l107.length) N ?_ ?_
            ·exact ⟨lz11_84o17_3, (IntKind.i64.wrap (x41 - 1)), selfA_i (by kernel_rfl), hE96, hS89, ((hn18.trans (setx_len hxz11_84o15_4).symm).trans (setx_len hxz11_84o17_4).symm)⟩
            ·rintro k109 _ w103 ⟨l107, x108, hq140, hL110, hS104, hn106⟩
             obtain ⟨u105, rfl⟩ := selfA_u hq140
             cases k109 with
             | zero => cases hL110
             | succ k109 =>
              first | rw [zPart_L3] at hL110 | unfold zPart_L3 at hL110
              refine gx_seq (fun K111 hK112 => ?_)
              refine gx_seq (fun K113 hK114 => ?_)
              refine gx_region ?_
              refine gx_k (.int .i64 x108) w103 ?_
              rcases if_in hL110 with ⟨h115, hL110⟩ | ⟨h115, hL110⟩
              ·refine gx_v (.bool true) w103 (run_boolE (decide_eq_true h115) (by kernel_rfl)) ?_
               refine gx_nil ?_
               refine gx_thenN ?_
               refine hK114 _ _ ?_
               refine gx_yes (by kernel_rfl) ?_
               refine gx_pass ?_
               refine gx_thenN ?_
               refine hK112 _ _ ?_
               refine gx_seq (fun K116 hK117 => ?_)
               refine gx_block ?_
               refine gx_seq (fun K118 hK119 => ?_)
               refine gx_seq (fun K120 hK121 => ?_)
               refine gd_start (fun w => St (foots [rowE .u16 45 A0 c0 p0]) w0 w [rowE .u16 45 A0 c0 l107]) 11 #[false, false, false, false, false, false, false, false, false, false, false] (by kernel_rfl) (by kernel_rfl) ?_
               have hS123 := hS104.drew
               generalize w103.drew = w122 at hS123 ⊢
               refine gd1 0 { dst := some 68, op := _, type := _, pos := _, after := _, guard := _ } (.slice A0 p0.length c0) rfl hS123 (fun w hSw => by kernel_rfl) ?_
               refine gd1 1 { dst := some 69, op := _, type := _, pos := _, after := _, guard := _ } (.int .i64 x108) rfl hS123 (fun w hSw => by kernel_rfl) ?_
               obtain ⟨x124, hx125, hL110⟩ := bind_in hL110
               refine gd1 2 { dst := some 70, op := _, type := _, pos := _, after := _, guard := _ } (.pointer (Option.map (fun (p : Addr) => p.add (Int.toNat x108 * 1)) A0)) rfl hS123 (fun w hSw => run_ixaddr (E := 45) (s := 1) (k := .i64) (c := c0) rfl (by kernel_rfl) (by kernel_rfl) (by kernel_rfl) (fun _ => by kernel_rfl) (ix_in hx125).1 (lt_len hn106 (ix_in hx125).2.1) (nil_len hn106 (num_nil (hS123.row 0 rfl).1))) ?_
               refine gd1 3 { dst := some 71, op := _, type := _, pos := _, after := _, guard := _ } (.int .u16 x124) rfl hS123 (fun w hSw => run_loadix rfl (by kernel_rfl) (fun _ => by kernel_rfl) (hSw.row 0 rfl).1 hx125) ?_
               refine gd1 4 { dst := some 72, op := _, type := _, pos := _, after := _, guard := _ } (.slice A0 p0.length c0) rfl hS123 (fun w hSw => by kernel_rfl) ?_
               refine gd1 5 { dst := some 73, op := _, type := _, pos := _, after := _, guard := _ } (.int .i64 x108) rfl hS123 (fun w hSw => by kernel_rfl) ?_
               refine gd1 6 { dst := some 74, op := _, type := _, pos := _, after := _, guard := _ } (.int .i64 (IntKind.i64.wrap (x108 - 1))) rfl hS123 (fun w hSw => by kernel_rfl) ?_
               obtain ⟨x126, hx127, hL110⟩ := bind_in hL110
               refine gd1 7 { dst := some 75, op := _, type := _, pos := _, after := _, guard := _ } (.pointer (Option.map (fun (p : Addr) => p.add (Int.toNat (IntKind.i64.wrap (x108 - 1)) * 1)) A0)) rfl hS123 (fun w hSw => run_ixaddr (E := 45) (s := 1) (k := .i64) (c := c0) rfl (by kernel_rfl) (by kernel_rfl) (by kernel_rfl) (fun _ => by kernel_rfl) (ix_in hx127).1 (lt_len hn106 (ix_in hx127).2.1) (nil_len hn106 (num_nil (hS123.row 0 rfl).1))) ?_
               refine gd1 8 { dst := some 76, op := _, type := _, pos := _, after := _, guard := _ } (.int .u16 x126) rfl hS123 (fun w hSw => run_loadix rfl (by kernel_rfl) (fun _ => by kernel_rfl) (hSw.row 0 rfl).1 hx127) ?_
               have hP128 : St _ _ w122 ([] ++ [rowE .u16 45 A0 c0 l107]) := hS123
               obtain ⟨b130, hc129, hL110⟩ := bind_in hL110
               try dsimp only at hL110
               refine gdC 9 { dst := some 77, op := _, type := _, pos := _, after := _, guard := _ } (zLess_R b130 w122) rfl (by kernel_rfl) (zLess_ok N x124 x126 _ hc129 w122 ) ?_
               rintro _ w131 ⟨rfl, hT133⟩
               have hS132 : St _ _ w131 [rowE .u16 45 A0 c0 l107] := hS123.take _ hT133
               refine ⟨hS132, ?_⟩
               cases b130 with
               | true =>
                try dsimp only at hL110
                refine gd1 10 { dst := some 78, op := _, type := _, pos := _, after := _, guard := _ } (.bool false) rfl hS132 (fun w hSw => by kernel_rfl) ?_
                refine gd_done (by kernel_rfl) ?_
                refine gx_thenN ?_
                refine hK121 _ _ ?_
                refine gx_no (by kernel_rfl) ?_
                refine gx_pass ?_
                refine gx_thenN ?_
                refine hK119 _ _ ?_
                refine gd_start (fun w => St (foots [rowE .u16 45 A0 c0 p0]) w0 w []) 18 #[false, false, false, false, false, false, false, false, false, false, false, false, false, false, false, false, false, false] (by kernel_rfl) (by kernel_rfl) ?_
                have hS136 := hS132.drew
                generalize w131.drew = w135 at hS136 ⊢
                obtain ⟨xz17_133o8_1, hxz17_133o8_2, hL110⟩ := bind_in hL110
                obtain ⟨xz17_133o12_1, hxz17_133o12_2, hL110⟩ := bind_in hL110
                obtain ⟨xz17_133o14_1, hxz17_133o14_2, hL110⟩ := bind_in hL110
                obtain ⟨lz17_133o15_3, hxz17_133o15_4, hL110⟩ := bind_in hL110
                obtain ⟨xz17_133o16_1, hxz17_133o16_2, hL110⟩ := bind_in hL110
                obtain ⟨lz17_133o17_3, hxz17_133o17_4, hL110⟩ := bind_in hL110
                refine gd_share (X := Unit) (fun _ => ⟨((.slice A0 p0.length c0) :: (.int .i64 p1) :: (.int .i64 p2) :: un 3 ((u17 6) :: (.int .i64 x41) :: (.int .i64 x21) :: (.int .i64 x108) :: (u17 10) :: (.int .i64 p1) :: (.int .i64 (IntKind.i64.wrap (p1 + 1))) :: (.int .i64 x21) :: (.bool true) :: dd u17 15 2 (dd u40 17 18 ((.int .i64 x41) :: (.int .i64 p2) :: (.bool false) :: (.int .i64 p2) :: (.int .i64 p1) :: (.int .i64 (IntKind.i64.wrap (p2 - p1))) :: (.bool false) :: (u105 42) :: (.int .i64 x41) :: (u105 44) :: (.int .i64 x41) :: (.int .i64 (IntKind.i64.wrap (x41 - 1))) :: (u105 47) :: (.int .i64 x41) :: (.int .i64 (IntKind.i64.wrap (x41 - 1))) :: (.pointer (Option.map (fun (p : Addr) => p.add (Int.toNat (IntKind.i64.wrap (x41 - 1)) * 1)) A0)) :: (.int .u16 xz11_84o8_1) :: (u105 52) :: (.int .i64 x41) :: (.pointer (Option.map (fun (p : Addr) => p.add (Int.toNat x41 * 1)) A0)) :: (.int .u16 xz11_84o12_1) :: (.pointer (Option.map (fun (p : Addr) => p.add (Int.toNat x41 * 1)) A0)) :: (.pointer (Option.map (fun (p : Addr) => p.add (Int.toNat (IntKind.i64.wrap (x41 - 1)) * 1)) A0)) :: (.int .i64 x41) :: (.int .i64 p1) :: (.int .i64 (IntKind.i64.wrap (x41 - p1))) :: (.bool true) :: (.int .i64 x41) :: (.int .i64 (IntKind.i64.wrap (x41 - 1))) :: (.int .i64 x108) :: (.bool true) :: dd u105 66 2 ((.slice A0 p0.length c0) :: (.int .i64 x108) :: (.pointer (Option.map (fun (p : Addr) => p.add (Int.toNat x108 * 1)) A0)) :: (.int .u16 x124) :: (.slice A0 p0.length c0) :: (.int .i64 x108) :: (.int .i64 (IntKind.i64.wrap (x108 - 1))) :: (.pointer (Option.map (fun (p : Addr) => p.add (Int.toNat (IntKind.i64.wrap (x108 - 1)) * 1)) A0)) :: (.int .u16 x126) :: (.bool true) :: (.bool false) :: (.slice A0 p0.length c0) :: (.int .i64 x108) :: (.slice A0 p0.length c0) :: (.int .i64 x108) :: (.int .i64 (IntKind.i64.wrap (x108 - 1))) :: (.slice A0 p0.length c0) :: (.int .i64 x108) :: (.int .i64 (IntKind.i64.wrap (x108 - 1))) :: (.pointer (Option.map (fun (p : Addr) => p.add (Int.toNat (IntKind.i64.wrap (x108 - 1)) * 1)) A0)) :: (.int .u16 xz17_133o8_1) :: (.slice A0 p0.length c0) :: (.int .i64 x108) :: (.pointer (Option.map (fun (p : Addr) => p.add (Int.toNat x108 * 1)) A0)) :: (.int .u16 xz17_133o12_1) :: (.pointer (Option.map (fun (p : Addr) => p.add (Int.toNat x108 * 1)) A0)) :: (.pointer (Option.map (fun (p : Addr) => p.add (Int.toNat (IntKind.i64.wrap (x108 - 1)) * 1)) A0)) :: dd u17 95 38 ([])))))).toArray, []⟩) (fun _ w => St (foots [rowE .u16 45 A0 c0 p0]) w0 w [rowE .u16 45 A0 c0 lz17_133o17_3]) ?_ ?_
                ·rintro _ w137 hS138
                 have hS138 : St _ _ w137 [rowE .u16 45 A0 c0 lz17_133o17_3] := hS138
                 show WQ _ _ ⟨((.slice A0 p0.length c0) :: (.int .i64 p1) :: (.int .i64 p2) :: un 3 ((u17 6) :: (.int .i64 x41) :: (.int .i64 x21) :: (.int .i64 x108) :: (u17 10) :: (.int .i64 p1) :: (.int .i64 (IntKind.i64.wrap (p1 + 1))) :: (.int .i64 x21) :: (.bool true) :: dd u17 15 2 (dd u40 17 18 ((.int .i64 x41) :: (.int .i64 p2) :: (.bool false) :: (.int .i64 p2) :: (.int .i64 p1) :: (.int .i64 (IntKind.i64.wrap (p2 - p1))) :: (.bool false) :: (u105 42) :: (.int .i64 x41) :: (u105 44) :: (.int .i64 x41) :: (.int .i64 (IntKind.i64.wrap (x41 - 1))) :: (u105 47) :: (.int .i64 x41) :: (.int .i64 (IntKind.i64.wrap (x41 - 1))) :: (.pointer (Option.map (fun (p : Addr) => p.add (Int.toNat (IntKind.i64.wrap (x41 - 1)) * 1)) A0)) :: (.int .u16 xz11_84o8_1) :: (u105 52) :: (.int .i64 x41) :: (.pointer (Option.map (fun (p : Addr) => p.add (Int.toNat x41 * 1)) A0)) :: (.int .u16 xz11_84o12_1) :: (.pointer (Option.map (fun (p : Addr) => p.add (Int.toNat x41 * 1)) A0)) :: (.pointer (Option.map (fun (p : Addr) => p.add (Int.toNat (IntKind.i64.wrap (x41 - 1)) * 1)) A0)) :: (.int .i64 x41) :: (.int .i64 p1) :: (.int .i64 (IntKind.i64.wrap (x41 - p1))) :: (.bool true) :: (.int .i64 x41) :: (.int .i64 (IntKind.i64.wrap (x41 - 1))) :: (.int .i64 x108) :: (.bool true) :: dd u105 66 2 ((.slice A0 p0.length c0) :: (.int .i64 x108) :: (.pointer (Option.map (fun (p : Addr) => p.add (Int.toNat x108 * 1)) A0)) :: (.int .u16 x124) :: (.slice A0 p0.length c0) :: (.int .i64 x108) :: (.int .i64 (IntKind.i64.wrap (x108 - 1))) :: (.pointer (Option.map (fun (p : Addr) => p.add (Int.toNat (IntKind.i64.wrap (x108 - 1)) * 1)) A0)) :: (.int .u16 x126) :: (.bool true) :: (.bool false) :: (.slice A0 p0.length c0) :: (.int .i64 x108) :: (.slice A0 p0.length c0) :: (.int .i64 x108) :: (.int .i64 (IntKind.i64.wrap (x108 - 1))) :: (.slice A0 p0.length c0) :: (.int .i64 x108) :: (.int .i64 (IntKind.i64.wrap (x108 - 1))) :: (.pointer (Option.map (fun (p : Addr) => p.add (Int.toNat (IntKind.i64.wrap (x108 - 1)) * 1)) A0)) :: (.int .u16 xz17_133o8_1) :: (.slice A0 p0.length c0) :: (.int .i64 x108) :: (.pointer (Option.map (fun (p : Addr) => p.add (Int.toNat x108 * 1)) A0)) :: (.int .u16 xz17_133o12_1) :: (.pointer (Option.map (fun (p : Addr) => p.add (Int.toNat x108 * 1)) A0)) :: (.pointer (Option.map (fun (p : Addr) => p.add (Int.toNat (IntKind.i64.wrap (x108 - 1)) * 1)) A0)) :: dd u17 95 38 ([])))))).toArray, []⟩ _
                 refine gx_blkN ?_
                 refine gx_thenN ?_
                 refine hK117 _ _ ?_
                 refine gx_region ?_
                 refine gx_k (.int .i64 x108) w137 (gx_k (.int .i64 (IntKind.i64.wrap (x108 - 1))) w137 (gx_k (.int .i64 (IntKind.i64.wrap (x108 - 1))) w137 ?_))
                 refine gx_nil ?_
                 refine gx_thenN ?_
                 exact ⟨k109, Nat.lt_succ_self k109, lz17_133o17_3, (IntKind.i64.wrap (x108 - 1)), selfA_i (by kernel_rfl), hL110, hS138, ((hn106.trans (setx_len hxz17_133o15_4).symm).trans (setx_len hxz17_133o17_4).symm)⟩
                ·intro K139
                 refine gd1 0 { dst := some 79, op := _, type := _, pos := _, after := _, guard := _ } (.slice A0 p0.length c0) rfl (hS136.pick [] rfl rfl) (fun w hSw => by kernel_rfl) ?_
                 refine gd1 1 { dst := some 80, op := _, type := _, pos := _, after := _, guard := _ } (.int .i64 x108) rfl (hS136.pick [] rfl rfl) (fun w hSw => by kernel_rfl) ?_
                 refine gd1 2 { dst := some 81, op := _, type := _, pos := _, after := _, guard := _ } (.slice A0 p0.length c0) rfl (hS136.pick [] rfl rfl) (fun w hSw => by kernel_rfl) ?_
                 refine gd1 3 { dst := some 82, op := _, type := _, pos := _, after := _, guard := _ } (.int .i64 x108) rfl (hS136.pick [] rfl rfl) (fun w hSw => by kernel_rfl) ?_
                 refine gd1 4 { dst := some 83, op := _, type := _, pos := _, after := _, guard := _ } (.int .i64 (IntKind.i64.wrap (x108 - 1))) rfl (hS136.pick [] rfl rfl) (fun w hSw => by kernel_rfl) ?_
                 refine gd1 5 { dst := some 84, op := _, type := _, pos := _, after := _, guard := _ } (.slice A0 p0.length c0) rfl (hS136.pick [] rfl rfl) (fun w hSw => by kernel_rfl) ?_
                 refine gd1 6 { dst := some 85, op := _, type := _, pos := _, after := _, guard := _ } (.int .i64 x108) rfl (hS136.pick [] rfl rfl) (fun w hSw => by kernel_rfl) ?_
                 refine gd1 7 { dst := some 86, op := _, type := _, pos := _, after := _, guard := _ } (.int .i64 (IntKind.i64.wrap (x108 - 1))) rfl (hS136.pick [] rfl rfl) (fun w hSw => by kernel_rfl) ?_
                 refine gd1 8 { dst := some 87, op := _, type := _, pos := _, after := _, guard := _ } (.pointer (Option.map (fun (p : Addr) => p.add (Int.toNat (IntKind.i64.wrap (x108 - 1)) * 1)) A0)) rfl (hS136.pick [] rfl rfl) (fun w hSw => run_ixaddr (E := 45) (s := 1) (k := .i64) (c := c0) rfl (by kernel_rfl) (by kernel_rfl) (by kernel_rfl) (fun _ => by kernel_rfl) (ix_in hxz17_133o8_2).1 (lt_len hn106 (ix_in hxz17_133o8_2).2.1) (nil_len hn106 (num_nil (hS136.row 0 rfl).1))) ?_
                 refine gd1 10 { dst := some 89, op := _, type := _, pos := _, after := _, guard := _ } (.slice A0 p0.length c0) rfl (hS136.pick [] rfl rfl) (fun w hSw => by kernel_rfl) ?_
                 refine gd1 11 { dst := some 90, op := _, type := _, pos := _, after := _, guard := _ } (.int .i64 x108) rfl (hS136.pick [] rfl rfl) (fun w hSw => by kernel_rfl) ?_
                 refine gd1 12 { dst := some 91, op := _, type := _, pos := _, after := _, guard := _ } (.pointer (Option.map (fun (p : Addr) => p.add (Int.toNat x108 * 1)) A0)) rfl (hS136.pick [] rfl rfl) (fun w hSw => run_ixaddr (E := 45) (s := 1) (k := .i64) (c := c0) rfl (by kernel_rfl) (by kernel_rfl) (by kernel_rfl) (fun _ => by kernel_rfl) (ix_in hxz17_133o12_2).1 (lt_len hn106 (ix_in hxz17_133o12_2).2.1) (nil_len hn106 (num_nil (hS136.row 0 rfl).1))) ?_
                 refine gd_fork2 9 13 { dst := some 88, op := _, type := _, pos := _, after := _, guard := _ } { dst := some 92, op := _, type := _, pos := _, after := _, guard := _ } rfl rfl ?_ ?_
                 ·refine gfR 9 { dst := some 88, op := _, type := _, pos := _, after := _, guard := _ } (R := fun v w => v = .int .u16 xz17_133o8_1 ∧ w135 = w) rfl ⟨_, _, run_loadix rfl (by kernel_rfl) (fun _ => by kernel_rfl) (hS136.row 0 rfl).1 hxz17_133o8_2, rfl, rfl⟩ ?_
                  rintro _ _ ⟨rfl, rfl⟩
                  refine ⟨(hS136.pick [] rfl rfl), ?_⟩
                  refine gdR 13 { dst := some 92, op := _, type := _, pos := _, after := _, guard := _ } (R := fun v w => v = .int .u16 xz17_133o12_1 ∧ w135 = w) rfl ⟨_, _, run_loadix rfl (by kernel_rfl) (fun _ => by kernel_rfl) (hS136.row 0 rfl).1 hxz17_133o12_2, rfl, rfl⟩ ?_
                  rintro _ _ ⟨rfl, rfl⟩
                  refine ⟨(hS136.pick [] rfl rfl), ?_⟩
                  refine gd1 14 { dst := some 93, op := _, type := _, pos := _, after := _, guard := _ } (.pointer (Option.map (fun (p : Addr) => p.add (Int.toNat x108 * 1)) A0)) rfl (hS136.pick [] rfl rfl) (fun w hSw => run_ixaddr (E := 45) (s := 1) (k := .i64) (c := c0) rfl (by kernel_rfl) (by kernel_rfl) (by kernel_rfl) (fun _ => by kernel_rfl) (ix_in hxz17_133o14_2).1 (lt_len hn106 (ix_in hxz17_133o14_2).2.1) (nil_len hn106 (num_nil (hS136.row 0 rfl).1))) ?_
                  refine gdS 15 { dst := none, op := _, type := _, pos := _, after := _, guard := _ } rfl (st_storeix rfl (by kernel_rfl) (by kernel_rfl) (fun _ => by kernel_rfl) hS136 0 rfl hxz17_133o15_4) ?_
                  rintro wz17_133o15_1 hSz17_133o15_2
                  have hSz17_133o15_2 : St _ _ wz17_133o15_1 [rowE .u16 45 A0 c0 lz17_133o15_3] := hSz17_133o15_2
                  refine ⟨(hSz17_133o15_2.pick [] rfl rfl), ?_⟩
                  refine gd1 16 { dst := some 94, op := _, type := _, pos := _, after := _, guard := _ } (.pointer (Option.map (fun (p : Addr) => p.add (Int.toNat (IntKind.i64.wrap (x108 - 1)) * 1)) A0)) rfl (hSz17_133o15_2.pick [] rfl rfl) (fun w hSw => run_ixaddr (E := 45) (s := 1) (k := .i64) (c := c0) rfl (by kernel_rfl) (by kernel_rfl) (by kernel_rfl) (fun _ => by kernel_rfl) (ix_in hxz17_133o16_2).1 (lt_len (hn106.trans (setx_len hxz17_133o15_4).symm) (ix_in hxz17_133o16_2).2.1) (nil_len (hn106.trans (setx_len hxz17_133o15_4).symm) (num_nil (hSz17_133o15_2.row 0 rfl).1))) ?_
                  refine gdS 17 { dst := none, op := _, type := _, pos := _, after := _, guard := _ } rfl (st_storeix rfl (by kernel_rfl) (by kernel_rfl) (fun _ => by kernel_rfl) hSz17_133o15_2 0 rfl hxz17_133o17_4) ?_
                  rintro wz17_133o17_1 hSz17_133o17_2
                  have hSz17_133o17_2 : St _ _ wz17_133o17_1 [rowE .u16 45 A0 c0 lz17_133o17_3] := hSz17_133o17_2
                  refine ⟨(hSz17_133o17_2.pick [] rfl rfl), ?_⟩
                  exact gd_meet (by kernel_rfl) (by kernel_rfl) (K139 () _ hSz17_133o17_2)
                 ·refine gfR 13 { dst := some 92, op := _, type := _, pos := _, after := _, guard := _ } (R := fun v w => v = .int .u16 xz17_133o12_1 ∧ w135 = w) rfl ⟨_, _, run_loadix rfl (by kernel_rfl) (fun _ => by kernel_rfl) (hS136.row 0 rfl).1 hxz17_133o12_2, rfl, rfl⟩ ?_
                  rintro _ _ ⟨rfl, rfl⟩
                  refine ⟨(hS136.pick [] rfl rfl), ?_⟩
                  refine gdR 9 { dst := some 88, op := _, type := _, pos := _, after := _, guard := _ } (R := fun v w => v = .int .u16 xz17_133o8_1 ∧ w135 = w) rfl ⟨_, _, run_loadix rfl (by kernel_rfl) (fun _ => by kernel_rfl) (hS136.row 0 rfl).1 hxz17_133o8_2, rfl, rfl⟩ ?_
                  rintro _ _ ⟨rfl, rfl⟩
                  refine ⟨(hS136.pick [] rfl rfl), ?_⟩
                  refine gd1 14 { dst := some 93, op := _, type := _, pos := _, after := _, guard := _ } (.pointer (Option.map (fun (p : Addr) => p.add (Int.toNat x108 * 1)) A0)) rfl (hS136.pick [] rfl rfl) (fun w hSw => run_ixaddr (E := 45) (s := 1) (k := .i64) (c := c0) rfl (by kernel_rfl) (by kernel_rfl) (by kernel_rfl) (fun _ => by kernel_rfl) (ix_in hxz17_133o14_2).1 (lt_len hn106 (ix_in hxz17_133o14_2).2.1) (nil_len hn106 (num_nil (hS136.row 0 rfl).1))) ?_
                  refine gdS 15 { dst := none, op := _, type := _, pos := _, after := _, guard := _ } rfl (st_storeix rfl (by kernel_rfl) (by kernel_rfl) (fun _ => by kernel_rfl) hS136 0 rfl hxz17_133o15_4) ?_
                  rintro wz17_133o15_1 hSz17_133o15_2
                  have hSz17_133o15_2 : St _ _ wz17_133o15_1 [rowE .u16 45 A0 c0 lz17_133o15_3] := hSz17_133o15_2
                  refine ⟨(hSz17_133o15_2.pick [] rfl rfl), ?_⟩
                  refine gd1 16 { dst := some 94, op := _, type := _, pos := _, after := _, guard := _ } (.pointer (Option.map (fun (p : Addr) => p.add (Int.toNat (IntKind.i64.wrap (x108 - 1)) * 1)) A0)) rfl (hSz17_133o15_2.pick [] rfl rfl) (fun w hSw => run_ixaddr (E := 45) (s := 1) (k := .i64) (c := c0) rfl (by kernel_rfl) (by kernel_rfl) (by kernel_rfl) (fun _ => by kernel_rfl) (ix_in hxz17_133o16_2).1 (lt_len (hn106.trans (setx_len hxz17_133o15_4).symm) (ix_in hxz17_133o16_2).2.1) (nil_len (hn106.trans (setx_len hxz17_133o15_4).symm) (num_nil (hSz17_133o15_2.row 0 rfl).1))) ?_
                  refine gdS 17 { dst := none, op := _, type := _, pos := _, after := _, guard := _ } rfl (st_storeix rfl (by kernel_rfl) (by kernel_rfl) (fun _ => by kernel_rfl) hSz17_133o15_2 0 rfl hxz17_133o17_4) ?_
                  rintro wz17_133o17_1 hSz17_133o17_2
                  have hSz17_133o17_2 : St _ _ wz17_133o17_1 [rowE .u16 45 A0 c0 lz17_133o17_3] := hSz17_133o17_2
                  refine ⟨(hSz17_133o17_2.pick [] rfl rfl), ?_⟩
                  exact gd_meet (by kernel_rfl) (by kernel_rfl) (K139 () _ hSz17_133o17_2)
               | false =>
                try dsimp only at hL110
                refine gd1 10 { dst := some 78, op := _, type := _, pos := _, after := _, guard := _ } (.bool true) rfl hS132 (fun w hSw => by kernel_rfl) ?_
                refine gd_done (by kernel_rfl) ?_
                refine gx_thenN ?_
                refine hK121 _ _ ?_
                refine gx_yes (by kernel_rfl) ?_
                refine gx_exit ?_
                refine gx_thenE ?_
                refine gx_blkO (by decide) ?_
                refine gx_thenE ?_
                refine gx_thenE ?_
                refine gx_blkE ?_
                refine gx_thenN ?_
                exact ⟨l107, selfA_i (by kernel_rfl), (Option.some.inj hL110), hS132, hn106⟩
              ·refine gx_v (.bool false) w103 (run_boolE (decide_eq_false h115) (by kernel_rfl)) ?_
               refine gx_nil ?_
               refine gx_thenN ?_
               refine hK114 _ _ ?_
               refine gx_no (by kernel_rfl) ?_
               refine gx_exit ?_
               refine gx_thenE ?_
               refine gx_thenE ?_
               refine gx_blkE ?_
               refine gx_thenN ?_
               exact ⟨l107, selfA_i (by kernel_rfl), (Option.some.inj hL110), hS104, hn106⟩
           ·refine gx_v (.bool false) w88 (run_boolE (decide_eq_false h100) (by kernel_rfl)) ?_
            refine gx_nil ?_
            refine gx_thenN ?_
            refine hK99 _ _ ?_
            refine gx_no (by kernel_rfl) ?_
            refine gx_pass ?_
            refine gx_thenN ?_
            exact ⟨lz11_84o17_3, selfA_i (by kernel_rfl), (Option.some.inj hE96), hS89, ((hn18.trans (setx_len hxz11_84o15_4).symm).trans (setx_len hxz11_84o17_4).symm)⟩
          ·rintro _ w90 ⟨l94, hq184, rfl, hS91, hn93⟩
           obtain ⟨u92, rfl⟩ := selfA_u hq184
           try dsimp only at hO97
           refine gx_seq (fun K141 hK142 => ?_)
           refine gx_region ?_
           refine gx_k (.int .i64 p2) w90 (gx_k (.int .i64 x41) w90 (gx_k (.int .i64 (IntKind.i64.wrap (p2 - x41))) w90 ?_))
           rcases if_in hO97 with ⟨h143, hO97⟩ | ⟨h143, hO97⟩
           ·refine gx_v (.bool true) w90 (run_boolE (decide_eq_true h143) (by kernel_rfl)) ?_
            refine gx_nil ?_
            refine gx_thenN ?_
            refine hK142 _ _ ?_
            refine gx_yes (by kernel_rfl) ?_
            refine gx_seq (fun K144 hK145 => ?_)
            refine gx_region ?_
            refine gx_k (.int .i64 x41) w90 (gx_k (.int .i64 (IntKind.i64.wrap (x41 + 1))) w90 (gx_k (.int .i64 (IntKind.i64.wrap (x41 + 1))) w90 ?_))
            refine gx_nil ?_
            refine gx_thenN ?_
            refine hK145 _ _ ?_
            refine gx_block ?_
            refine gx_loop (fun k a w => ∃ (l150 : List Int) (x151 : Int), selfA (fun u148 => ⟨((.slice A0 p0.length c0) :: (.int .i64 p1) :: (.int .i64 p2) :: un 3 ((u17 6) :: (.int .i64 x41) :: (.int .i64 x21) :: (u92 9) :: (.int .i64 x151) :: (.int .i64 p1) :: (.int .i64 (IntKind.i64.wrap (p1 + 1))) :: (.int .i64 x21) :: (.bool true) :: dd u17 15 2 (dd u40 17 18 ((.int .i64 x41) :: (.int .i64 p2) :: (.bool false) :: (.int .i64 p2) :: (.int .i64 p1) :: (.int .i64 (IntKind.i64.wrap (p2 - p1))) :: (.bool false) :: (u92 42) :: (.int .i64 x41) :: (u92 44) :: (.int .i64 x41) :: (.int .i64 (IntKind.i64.wrap (x41 - 1))) :: (u92 47) :: (.int .i64 x41) :: (.int .i64 (IntKind.i64.wrap (x41 - 1))) :: (.pointer (Option.map (fun (p : Addr) => p.add (Int.toNat (IntKind.i64.wrap (x41 - 1)) * 1)) A0)) :: (.int .u16 xz11_84o8_1) :: (u92 52) :: (.int .i64 x41) :: (.pointer (Option.map (fun (p : Addr) => p.add (Int.toNat x41 * 1)) A0)) :: (.int .u16 xz11_84o12_1) :: (.pointer (Option.map (fun (p : Addr) => p.add (Int.toNat x41 * 1)) A0)) :: (.pointer (Option.map (fun (p : Addr) => p.add (Int.toNat (IntKind.i64.wrap (x41 - 1)) * 1)) A0)) :: dd u92 58 37 ((.int .i64 p2) :: (.int .i64 x41) :: (.int .i64 (IntKind.i64.wrap (p2 - x41))) :: (.bool true) :: (.int .i64 x41) :: (.int .i64 (IntKind.i64.wrap (x41 + 1))) :: dd u148 101 32 ([])))))).toArray, []⟩) a ∧ zPart_L4 N p2 x41 k l150 x151 = some c35 ∧ St (foots [rowE .u16 45 A0 c0 p0]) w0 w [rowE .u16 45 A0 c0 l150] ∧ p0.length = l150.length) N ?_ ?_
            ·exact ⟨l94, (IntKind.i64.wrap (x41 + 1)), selfA_i (by kernel_rfl), hO97, hS91, hn93⟩
            ·rintro k152 _ w146 ⟨l150, x151, hq183, hL153, hS147, hn149⟩
             obtain ⟨u148, rfl⟩ := selfA_u hq183
             cases k152 with
             | zero => cases hL153
             | succ k152 =>
              first | rw [zPart_L4] at hL153 | unfold zPart_L4 at hL153
              refine gx_seq (fun K154 hK155 => ?_)
              refine gx_seq (fun K156 hK157 => ?_)
              refine gx_region ?_
              refine gx_k (.int .i64 x151) w146 (gx_k (.int .i64 p2) w146 ?_)
              rcases if_in hL153 with ⟨h158, hL153⟩ | ⟨h158, hL153⟩
              ·refine gx_v (.bool true) w146 (run_boolE (decide_eq_true h158) (by kernel_rfl)) ?_
               refine gx_nil ?_
               refine gx_thenN ?_
               refine hK157 _ _ ?_
               refine gx_yes (by kernel_rfl) ?_
               refine gx_pass ?_
               refine gx_thenN ?_
               refine hK155 _ _ ?_
               refine gx_seq (fun K159 hK160 => ?_)
               refine gx_block ?_
               refine gx_seq (fun K161 hK162 => ?_)
               refine gx_seq (fun K163 hK164 => ?_)
               refine gd_start (fun w => St (foots [rowE .u16 45 A0 c0 p0]) w0 w [rowE .u16 45 A0 c0 l150]) 11 #[false, false, false, false, false, false, false, false, false, false, false] (by kernel_rfl) (by kernel_rfl) ?_
               have hS166 := hS147.drew
               generalize w146.drew = w165 at hS166 ⊢
               refine gd1 0 { dst := some 106, op := _, type := _, pos := _, after := _, guard := _ } (.slice A0 p0.length c0) rfl hS166 (fun w hSw => by kernel_rfl) ?_
               refine gd1 1 { dst := some 107, op := _, type := _, pos := _, after := _, guard := _ } (.int .i64 x151) rfl hS166 (fun w hSw => by kernel_rfl) ?_
               obtain ⟨x167, hx168, hL153⟩ := bind_in hL153
               refine gd1 2 { dst := some 108, op := _, type := _, pos := _, after := _, guard := _ } (.pointer (Option.map (fun (p : Addr) => p.add (Int.toNat x151 * 1)) A0)) rfl hS166 (fun w hSw => run_ixaddr (E := 45) (s := 1) (k := .i64) (c := c0) rfl (by kernel_rfl) (by kernel_rfl) (by kernel_rfl) (fun _ => by kernel_rfl) (ix_in hx168).1 (lt_len hn149 (ix_in hx168).2.1) (nil_len hn149 (num_nil (hS166.row 0 rfl).1))) ?_
               refine gd1 3 { dst := some 109, op := _, type := _, pos := _, after := _, guard := _ } (.int .u16 x167) rfl hS166 (fun w hSw => run_loadix rfl (by kernel_rfl) (fun _ => by kernel_rfl) (hSw.row 0 rfl).1 hx168) ?_
               refine gd1 4 { dst := some 110, op := _, type := _, pos := _, after := _, guard := _ } (.slice A0 p0.length c0) rfl hS166 (fun w hSw => by kernel_rfl) ?_
               refine gd1 5 { dst := some 111, op := _, type := _, pos := _, after := _, guard := _ } (.int .i64 x151) rfl hS166 (fun w hSw => by kernel_rfl) ?_
               refine gd1 6 { dst := some 112, op := _, type := _, pos := _, after := _, guard := _ } (.int .i64 (IntKind.i64.wrap (x151 - 1))) rfl hS166 (fun w hSw => by kernel_rfl) ?_
               obtain ⟨x169, hx170, hL153⟩ := bind_in hL153
               refine gd1 7 { dst := some 113, op := _, type := _, pos := _, after := _, guard := _ } (.pointer (Option.map (fun (p : Addr) => p.add (Int.toNat (IntKind.i64.wrap (x151 - 1)) * 1)) A0)) rfl hS166 (fun w hSw => run_ixaddr (E := 45) (s := 1) (k := .i64) (c := c0) rfl (by kernel_rfl) (by kernel_rfl) (by kernel_rfl) (fun _ => by kernel_rfl) (ix_in hx170).1 (lt_len hn149 (ix_in hx170).2.1) (nil_len hn149 (num_nil (hS166.row 0 rfl).1))) ?_
               refine gd1 8 { dst := some 114, op := _, type := _, pos := _, after := _, guard := _ } (.int .u16 x169) rfl hS166 (fun w hSw => run_loadix rfl (by kernel_rfl) (fun _ => by kernel_rfl) (hSw.row 0 rfl).1 hx170) ?_
               have hP171 : St _ _ w165 ([] ++ [rowE .u16 45 A0 c0 l150]) := hS166
               obtain ⟨b173, hc172, hL153⟩ := bind_in hL153
               try dsimp only at hL153
               refine gdC 9 { dst := some 115, op := _, type := _, pos := _, after := _, guard := _ } (zLess_R b173 w165) rfl (by kernel_rfl) (zLess_ok N x167 x169 _ hc172 w165 ) ?_
               rintro _ w174 ⟨rfl, hT176⟩
               have hS175 : St _ _ w174 [rowE .u16 45 A0 c0 l150] := hS166.take _ hT176
               refine ⟨hS175, ?_⟩
               cases b173 with
               | true =>
                try dsimp only at hL153
                refine gd1 10 { dst := some 116, op := _, type := _, pos := _, after := _, guard := _ } (.bool false) rfl hS175 (fun w hSw => by kernel_rfl) ?_
                refine gd_done (by kernel_rfl) ?_
                refine gx_thenN ?_
                refine hK164 _ _ ?_
                refine gx_no (by kernel_rfl) ?_
                refine gx_pass ?_
                refine gx_thenN ?_
                refine hK162 _ _ ?_
                refine gd_start (fun w => St (foots [rowE .u16 45 A0 c0 p0]) w0 w []) 18 #[false, false, false, false, false, false, false, false, false, false, false, false, false, false, false, false, false, false] (by kernel_rfl) (by kernel_rfl) ?_
                have hS179 := hS175.drew
                generalize w174.drew = w178 at hS179 ⊢
                obtain ⟨xz23_176o8_1, hxz23_176o8_2, hL153⟩ := bind_in hL153
                obtain ⟨xz23_176o12_1, hxz23_176o12_2, hL153⟩ := bind_in hL153
                obtain ⟨xz23_176o14_1, hxz23_176o14_2, hL153⟩ := bind_in hL153
                obtain ⟨lz23_176o15_3, hxz23_176o15_4, hL153⟩ := bind_in hL153
                obtain ⟨xz23_176o16_1, hxz23_176o16_2, hL153⟩ := bind_in hL153
                obtain ⟨lz23_176o17_3, hxz23_176o17_4, hL153⟩ := bind_in hL153
                refine gd_share (X := Unit) (fun _ => ⟨((.slice A0 p0.length c0) :: (.int .i64 p1) :: (.int .i64 p2) :: un 3 ((u17 6) :: (.int .i64 x41) :: (.int .i64 x21) :: (u92 9) :: (.int .i64 x151) :: (.int .i64 p1) :: (.int .i64 (IntKind.i64.wrap (p1 + 1))) :: (.int .i64 x21) :: (.bool true) :: dd u17 15 2 (dd u40 17 18 ((.int .i64 x41) :: (.int .i64 p2) :: (.bool false) :: (.int .i64 p2) :: (.int .i64 p1) :: (.int .i64 (IntKind.i64.wrap (p2 - p1))) :: (.bool false) :: (u92 42) :: (.int .i64 x41) :: (u92 44) :: (.int .i64 x41) :: (.int .i64 (IntKind.i64.wrap (x41 - 1))) :: (u92 47) :: (.int .i64 x41) :: (.int .i64 (IntKind.i64.wrap (x41 - 1))) :: (.pointer (Option.map (fun (p : Addr) => p.add (Int.toNat (IntKind.i64.wrap (x41 - 1)) * 1)) A0)) :: (.int .u16 xz11_84o8_1) :: (u92 52) :: (.int .i64 x41) :: (.pointer (Option.map (fun (p : Addr) => p.add (Int.toNat x41 * 1)) A0)) :: (.int .u16 xz11_84o12_1) :: (.pointer (Option.map (fun (p : Addr) => p.add (Int.toNat x41 * 1)) A0)) :: (.pointer (Option.map (fun (p : Addr) => p.add (Int.toNat (IntKind.i64.wrap (x41 - 1)) * 1)) A0)) :: dd u92 58 37 ((.int .i64 p2) :: (.int .i64 x41) :: (.int .i64 (IntKind.i64.wrap (p2 - x41))) :: (.bool true) :: (.int .i64 x41) :: (.int .i64 (IntKind.i64.wrap (x41 + 1))) :: (.int .i64 x151) :: (.int .i64 p2) :: (.bool true) :: dd u148 104 2 ((.slice A0 p0.length c0) :: (.int .i64 x151) :: (.pointer (Option.map (fun (p : Addr) => p.add (Int.toNat x151 * 1)) A0)) :: (.int .u16 x167) :: (.slice A0 p0.length c0) :: (.int .i64 x151) :: (.int .i64 (IntKind.i64.wrap (x151 - 1))) :: (.pointer (Option.map (fun (p : Addr) => p.add (Int.toNat (IntKind.i64.wrap (x151 - 1)) * 1)) A0)) :: (.int .u16 x169) :: (.bool true) :: (.bool false) :: (.slice A0 p0.length c0) :: (.int .i64 x151) :: (.slice A0 p0.length c0) :: (.int .i64 x151) :: (.int .i64 (IntKind.i64.wrap (x151 - 1))) :: (.slice A0 p0.length c0) :: (.int .i64 x151) :: (.int .i64 (IntKind.i64.wrap (x151 - 1))) :: (.pointer (Option.map (fun (p : Addr) => p.add (Int.toNat (IntKind.i64.wrap (x151 - 1)) * 1)) A0)) :: (.int .u16 xz23_176o8_1) :: (.slice A0 p0.length c0) :: (.int .i64 x151) :: (.pointer (Option.map (fun (p : Addr) => p.add (Int.toNat x151 * 1)) A0)) :: (.int .u16 xz23_176o12_1) :: (.pointer (Option.map (fun (p : Addr) => p.add (Int.toNat x151 * 1)) A0)) :: (.pointer (Option.map (fun (p : Addr) => p.add (Int.toNat (IntKind.i64.wrap (x151 - 1)) * 1)) A0)) :: [])))))).toArray, []⟩) (fun _ w => St (foots [rowE .u16 45 A0 c0 p0]) w0 w [rowE .u16 45 A0 c0 lz23_176o17_3]) ?_ ?_
                ·rintro _ w180 hS181
                 have hS181 : St _ _ w180 [rowE .u16 45 A0 c0 lz23_176o17_3] := hS181
                 show WQ _ _ ⟨((.slice A0 p0.length c0) :: (.int .i64 p1) :: (.int .i64 p2) :: un 3 ((u17 6) :: (.int .i64 x41) :: (.int .i64 x21) :: (u92 9) :: (.int .i64 x151) :: (.int .i64 p1) :: (.int .i64 (IntKind.i64.wrap (p1 + 1))) :: (.int .i64 x21) :: (.bool true) :: dd u17 15 2 (dd u40 17 18 ((.int .i64 x41) :: (.int .i64 p2) :: (.bool false) :: (.int .i64 p2) :: (.int .i64 p1) :: (.int .i64 (IntKind.i64.wrap (p2 - p1))) :: (.bool false) :: (u92 42) :: (.int .i64 x41) :: (u92 44) :: (.int .i64 x41) :: (.int .i64 (IntKind.i64.wrap (x41 - 1))) :: (u92 47) :: (.int .i64 x41) :: (.int .i64 (IntKind.i64.wrap (x41 - 1))) :: (.pointer (Option.map (fun (p : Addr) => p.add (Int.toNat (IntKind.i64.wrap (x41 - 1)) * 1)) A0)) :: (.int .u16 xz11_84o8_1) :: (u92 52) :: (.int .i64 x41) :: (.pointer (Option.map (fun (p : Addr) => p.add (Int.toNat x41 * 1)) A0)) :: (.int .u16 xz11_84o12_1) :: (.pointer (Option.map (fun (p : Addr) => p.add (Int.toNat x41 * 1)) A0)) :: (.pointer (Option.map (fun (p : Addr) => p.add (Int.toNat (IntKind.i64.wrap (x41 - 1)) * 1)) A0)) :: dd u92 58 37 ((.int .i64 p2) :: (.int .i64 x41) :: (.int .i64 (IntKind.i64.wrap (p2 - x41))) :: (.bool true) :: (.int .i64 x41) :: (.int .i64 (IntKind.i64.wrap (x41 + 1))) :: (.int .i64 x151) :: (.int .i64 p2) :: (.bool true) :: dd u148 104 2 ((.slice A0 p0.length c0) :: (.int .i64 x151) :: (.pointer (Option.map (fun (p : Addr) => p.add (Int.toNat x151 * 1)) A0)) :: (.int .u16 x167) :: (.slice A0 p0.length c0) :: (.int .i64 x151) :: (.int .i64 (IntKind.i64.wrap (x151 - 1))) :: (.pointer (Option.map (fun (p : Addr) => p.add (Int.toNat (IntKind.i64.wrap (x151 - 1)) * 1)) A0)) :: (.int .u16 x169) :: (.bool true) :: (.bool false) :: (.slice A0 p0.length c0) :: (.int .i64 x151) :: (.slice A0 p0.length c0) :: (.int .i64 x151) :: (.int .i64 (IntKind.i64.wrap (x151 - 1))) :: (.slice A0 p0.length c0) :: (.int .i64 x151) :: (.int .i64 (IntKind.i64.wrap (x151 - 1))) :: (.pointer (Option.map (fun (p : Addr) => p.add (Int.toNat (IntKind.i64.wrap (x151 - 1)) * 1)) A0)) :: (.int .u16 xz23_176o8_1) :: (.slice A0 p0.length c0) :: (.int .i64 x151) :: (.pointer (Option.map (fun (p : Addr) => p.add (Int.toNat x151 * 1)) A0)) :: (.int .u16 xz23_176o12_1) :: (.pointer (Option.map (fun (p : Addr) => p.add (Int.toNat x151 * 1)) A0)) :: (.pointer (Option.map (fun (p : Addr) => p.add (Int.toNat (IntKind.i64.wrap (x151 - 1)) * 1)) A0)) :: [])))))).toArray, []⟩ _
                 refine gx_blkN ?_
                 refine gx_thenN ?_
                 refine hK160 _ _ ?_
                 refine gx_region ?_
                 refine gx_k (.int .i64 x151) w180 (gx_k (.int .i64 (IntKind.i64.wrap (x151 + 1))) w180 (gx_k (.int .i64 (IntKind.i64.wrap (x151 + 1))) w180 ?_))
                 refine gx_nil ?_
                 refine gx_thenN ?_
                 exact ⟨k152, Nat.lt_succ_self k152, lz23_176o17_3, (IntKind.i64.wrap (x151 + 1)), selfA_i (by kernel_rfl), hL153, hS181, ((hn149.trans (setx_len hxz23_176o15_4).symm).trans (setx_len hxz23_176o17_4).symm)⟩
                ·intro K182
                 refine gd1 0 { dst := some 117, op := _, type := _, pos := _, after := _, guard := _ } (.slice A0 p0.length c0) rfl (hS179.pick [] rfl rfl) (fun w hSw => by kernel_rfl) ?_
                 refine gd1 1 { dst := some 118, op := _, type := _, pos := _, after := _, guard := _ } (.int .i64 x151) rfl (hS179.pick [] rfl rfl) (fun w hSw => by kernel_rfl) ?_
                 refine gd1 2 { dst := some 119, op := _, type := _, pos := _, after := _, guard := _ } (.slice A0 p0.length c0) rfl (hS179.pick [] rfl rfl) (fun w hSw => by kernel_rfl) ?_
                 refine gd1 3 { dst := some 120, op := _, type := _, pos := _, after := _, guard := _ } (.int .i64 x151) rfl (hS179.pick [] rfl rfl) (fun w hSw => by kernel_rfl) ?_
                 refine gd1 4 { dst := some 121, op := _, type := _, pos := _, after := _, guard := _ } (.int .i64 (IntKind.i64.wrap (x151 - 1))) rfl (hS179.pick [] rfl rfl) (fun w hSw => by kernel_rfl) ?_
                 refine gd1 5 { dst := some 122, op := _, type := _, pos := _, after := _, guard := _ } (.slice A0 p0.length c0) rfl (hS179.pick [] rfl rfl) (fun w hSw => by kernel_rfl) ?_
                 refine gd1 6 { dst := some 123, op := _, type := _, pos := _, after := _, guard := _ } (.int .i64 x151) rfl (hS179.pick [] rfl rfl) (fun w hSw => by kernel_rfl) ?_
                 refine gd1 7 { dst := some 124, op := _, type := _, pos := _, after := _, guard := _ } (.int .i64 (IntKind.i64.wrap (x151 - 1))) rfl (hS179.pick [] rfl rfl) (fun w hSw => by kernel_rfl) ?_
                 refine gd1 8 { dst := some 125, op := _, type := _, pos := _, after := _, guard := _ } (.pointer (Option.map (fun (p : Addr) => p.add (Int.toNat (IntKind.i64.wrap (x151 - 1)) * 1)) A0)) rfl (hS179.pick [] rfl rfl) (fun w hSw => run_ixaddr (E := 45) (s := 1) (k := .i64) (c := c0) rfl (by kernel_rfl) (by kernel_rfl) (by kernel_rfl) (fun _ => by kernel_rfl) (ix_in hxz23_176o8_2).1 (lt_len hn149 (ix_in hxz23_176o8_2).2.1) (nil_len hn149 (num_nil (hS179.row 0 rfl).1))) ?_
                 refine gd1 10 { dst := some 127, op := _, type := _, pos := _, after := _, guard := _ } (.slice A0 p0.length c0) rfl (hS179.pick [] rfl rfl) (fun w hSw => by kernel_rfl) ?_
                 refine gd1 11 { dst := some 128, op := _, type := _, pos := _, after := _, guard := _ } (.int .i64 x151) rfl (hS179.pick [] rfl rfl) (fun w hSw => by kernel_rfl) ?_
                 refine gd1 12 { dst := some 129, op := _, type := _, pos := _, after := _, guard := _ } (.pointer (Option.map (fun (p : Addr) => p.add (Int.toNat x151 * 1)) A0)) rfl (hS179.pick [] rfl rfl) (fun w hSw => run_ixaddr (E := 45) (s := 1) (k := .i64) (c := c0) rfl (by kernel_rfl) (by kernel_rfl) (by kernel_rfl) (fun _ => by kernel_rfl) (ix_in hxz23_176o12_2).1 (lt_len hn149 (ix_in hxz23_176o12_2).2.1) (nil_len hn149 (num_nil (hS179.row 0 rfl).1))) ?_
                 refine gd_fork2 9 13 { dst := some 126, op := _, type := _, pos := _, after := _, guard := _ } { dst := some 130, op := _, type := _, pos := _, after := _, guard := _ } rfl rfl ?_ ?_
                 ·refine gfR 9 { dst := some 126, op := _, type := _, pos := _, after := _, guard := _ } (R := fun v w => v = .int .u16 xz23_176o8_1 ∧ w178 = w) rfl ⟨_, _, run_loadix rfl (by kernel_rfl) (fun _ => by kernel_rfl) (hS179.row 0 rfl).1 hxz23_176o8_2, rfl, rfl⟩ ?_
                  rintro _ _ ⟨rfl, rfl⟩
                  refine ⟨(hS179.pick [] rfl rfl), ?_⟩
                  refine gdR 13 { dst := some 130, op := _, type := _, pos := _, after := _, guard := _ } (R := fun v w => v = .int .u16 xz23_176o12_1 ∧ w178 = w) rfl ⟨_, _, run_loadix rfl (by kernel_rfl) (fun _ => by kernel_rfl) (hS179.row 0 rfl).1 hxz23_176o12_2, rfl, rfl⟩ ?_
                  rintro _ _ ⟨rfl, rfl⟩
                  refine ⟨(hS179.pick [] rfl rfl), ?_⟩
                  refine gd1 14 { dst := some 131, op := _, type := _, pos := _, after := _, guard := _ } (.pointer (Option.map (fun (p : Addr) => p.add (Int.toNat x151 * 1)) A0)) rfl (hS179.pick [] rfl rfl) (fun w hSw => run_ixaddr (E := 45) (s := 1) (k := .i64) (c := c0) rfl (by kernel_rfl) (by kernel_rfl) (by kernel_rfl) (fun _ => by kernel_rfl) (ix_in hxz23_176o14_2).1 (lt_len hn149 (ix_in hxz23_176o14_2).2.1) (nil_len hn149 (num_nil (hS179.row 0 rfl).1))) ?_
                  refine gdS 15 { dst := none, op := _, type := _, pos := _, after := _, guard := _ } rfl (st_storeix rfl (by kernel_rfl) (by kernel_rfl) (fun _ => by kernel_rfl) hS179 0 rfl hxz23_176o15_4) ?_
                  rintro wz23_176o15_1 hSz23_176o15_2
                  have hSz23_176o15_2 : St _ _ wz23_176o15_1 [rowE .u16 45 A0 c0 lz23_176o15_3] := hSz23_176o15_2
                  refine ⟨(hSz23_176o15_2.pick [] rfl rfl), ?_⟩
                  refine gd1 16 { dst := some 132, op := _, type := _, pos := _, after := _, guard := _ } (.pointer (Option.map (fun (p : Addr) => p.add (Int.toNat (IntKind.i64.wrap (x151 - 1)) * 1)) A0)) rfl (hSz23_176o15_2.pick [] rfl rfl) (fun w hSw => run_ixaddr (E := 45) (s := 1) (k := .i64) (c := c0) rfl (by kernel_rfl) (by kernel_rfl) (by kernel_rfl) (fun _ => by kernel_rfl) (ix_in hxz23_176o16_2).1 (lt_len (hn149.trans (setx_len hxz23_176o15_4).symm) (ix_in hxz23_176o16_2).2.1) (nil_len (hn149.trans (setx_len hxz23_176o15_4).symm) (num_nil (hSz23_176o15_2.row 0 rfl).1))) ?_
                  refine gdS 17 { dst := none, op := _, type := _, pos := _, after := _, guard := _ } rfl (st_storeix rfl (by kernel_rfl) (by kernel_rfl) (fun _ => by kernel_rfl) hSz23_176o15_2 0 rfl hxz23_176o17_4) ?_
                  rintro wz23_176o17_1 hSz23_176o17_2
                  have hSz23_176o17_2 : St _ _ wz23_176o17_1 [rowE .u16 45 A0 c0 lz23_176o17_3] := hSz23_176o17_2
                  refine ⟨(hSz23_176o17_2.pick [] rfl rfl), ?_⟩
                  exact gd_meet (by kernel_rfl) (by kernel_rfl) (K182 () _ hSz23_176o17_2)
                 ·refine gfR 13 { dst := some 130, op := _, type := _, pos := _, after := _, guard := _ } (R := fun v w => v = .int .u16 xz23_176o12_1 ∧ w178 = w) rfl ⟨_, _, run_loadix rfl (by kernel_rfl) (fun _ => by kernel_rfl) (hS179.row 0 rfl).1 hxz23_176o12_2, rfl, rfl⟩ ?_
                  rintro _ _ ⟨rfl, rfl⟩
                  refine ⟨(hS179.pick [] rfl rfl), ?_⟩
                  refine gdR 9 { dst := some 126, op := _, type := _, pos := _, after := _, guard := _ } (R := fun v w => v = .int .u16 xz23_176o8_1 ∧ w178 = w) rfl ⟨_, _, run_loadix rfl (by kernel_rfl) (fun _ => by kernel_rfl) (hS179.row 0 rfl).1 hxz23_176o8_2, rfl, rfl⟩ ?_
                  rintro _ _ ⟨rfl, rfl⟩
                  refine ⟨(hS179.pick [] rfl rfl), ?_⟩
                  refine gd1 14 { dst := some 131, op := _, type := _, pos := _, after := _, guard := _ } (.pointer (Option.map (fun (p : Addr) => p.add (Int.toNat x151 * 1)) A0)) rfl (hS179.pick [] rfl rfl) (fun w hSw => run_ixaddr (E := 45) (s := 1) (k := .i64) (c := c0) rfl (by kernel_rfl) (by kernel_rfl) (by kernel_rfl) (fun _ => by kernel_rfl) (ix_in hxz23_176o14_2).1 (lt_len hn149 (ix_in hxz23_176o14_2).2.1) (nil_len hn149 (num_nil (hS179.row 0 rfl).1))) ?_
                  refine gdS 15 { dst := none, op := _, type := _, pos := _, after := _, guard := _ } rfl (st_storeix rfl (by kernel_rfl) (by kernel_rfl) (fun _ => by kernel_rfl) hS179 0 rfl hxz23_176o15_4) ?_
                  rintro wz23_176o15_1 hSz23_176o15_2
                  have hSz23_176o15_2 : St _ _ wz23_176o15_1 [rowE .u16 45 A0 c0 lz23_176o15_3] := hSz23_176o15_2
                  refine ⟨(hSz23_176o15_2.pick [] rfl rfl), ?_⟩
                  refine gd1 16 { dst := some 132, op := _, type := _, pos := _, after := _, guard := _ } (.pointer (Option.map (fun (p : Addr) => p.add (Int.toNat (IntKind.i64.wrap (x151 - 1)) * 1)) A0)) rfl (hSz23_176o15_2.pick [] rfl rfl) (fun w hSw => run_ixaddr (E := 45) (s := 1) (k := .i64) (c := c0) rfl (by kernel_rfl) (by kernel_rfl) (by kernel_rfl) (fun _ => by kernel_rfl) (ix_in hxz23_176o16_2).1 (lt_len (hn149.trans (setx_len hxz23_176o15_4).symm) (ix_in hxz23_176o16_2).2.1) (nil_len (hn149.trans (setx_len hxz23_176o15_4).symm) (num_nil (hSz23_176o15_2.row 0 rfl).1))) ?_
                  refine gdS 17 { dst := none, op := _, type := _, pos := _, after := _, guard := _ } rfl (st_storeix rfl (by kernel_rfl) (by kernel_rfl) (fun _ => by kernel_rfl) hSz23_176o15_2 0 rfl hxz23_176o17_4) ?_
                  rintro wz23_176o17_1 hSz23_176o17_2
                  have hSz23_176o17_2 : St _ _ wz23_176o17_1 [rowE .u16 45 A0 c0 lz23_176o17_3] := hSz23_176o17_2
                  refine ⟨(hSz23_176o17_2.pick [] rfl rfl), ?_⟩
                  exact gd_meet (by kernel_rfl) (by kernel_rfl) (K182 () _ hSz23_176o17_2)
               | false =>
                try dsimp only at hL153
                refine gd1 10 { dst := some 116, op := _, type := _, pos := _, after := _, guard := _ } (.bool true) rfl hS175 (fun w hSw => by kernel_rfl) ?_
                refine gd_done (by kernel_rfl) ?_
                refine gx_thenN ?_
                refine hK164 _ _ ?_
                refine gx_yes (by kernel_rfl) ?_
                refine gx_exit ?_
                refine gx_thenE ?_
                refine gx_blkO (by decide) ?_
                refine gx_thenE ?_
                refine gx_thenE ?_
                refine gx_blkE ?_
                refine gx_blkN ?_
                refine gx_thenN ?_
                exact ⟨l150, x41, selfA_i (by kernel_rfl), (Option.some.inj hL153), hS175, hn149⟩
              ·refine gx_v (.bool false) w146 (run_boolE (decide_eq_false h158) (by kernel_rfl)) ?_
               refine gx_nil ?_
               refine gx_thenN ?_
               refine hK157 _ _ ?_
               refine gx_no (by kernel_rfl) ?_
               refine gx_exit ?_
               refine gx_thenE ?_
               refine gx_thenE ?_
               refine gx_blkE ?_
               refine gx_blkN ?_
               refine gx_thenN ?_
               exact ⟨l150, x41, selfA_i (by kernel_rfl), (Option.some.inj hL153), hS147, hn149⟩
           ·refine gx_v (.bool false) w90 (run_boolE (decide_eq_false h143) (by kernel_rfl)) ?_
            refine gx_nil ?_
            refine gx_thenN ?_
            refine hK142 _ _ ?_
            refine gx_no (by kernel_rfl) ?_
            refine gx_pass ?_
            refine gx_blkN ?_
            refine gx_thenN ?_
            exact ⟨l94, x41, selfA_i (by kernel_rfl), (Option.some.inj hO97), hS91, hn93⟩
         ·intro K185
          refine gd1 0 { dst := some 42, op := _, type := _, pos := _, after := _, guard := _ } (.slice A0 p0.length c0) rfl (hS87.pick [] rfl rfl) (fun w hSw => by kernel_rfl) ?_
          refine gd1 1 { dst := some 43, op := _, type := _, pos := _, after := _, guard := _ } (.int .i64 x41) rfl (hS87.pick [] rfl rfl) (fun w hSw => by kernel_rfl) ?_
          refine gd1 2 { dst := some 44, op := _, type := _, pos := _, after := _, guard := _ } (.slice A0 p0.length c0) rfl (hS87.pick [] rfl rfl) (fun w hSw => by kernel_rfl) ?_
          refine gd1 3 { dst := some 45, op := _, type := _, pos := _, after := _, guard := _ } (.int .i64 x41) rfl (hS87.pick [] rfl rfl) (fun w hSw => by kernel_rfl) ?_
          refine gd1 4 { dst := some 46, op := _, type := _, pos := _, after := _, guard := _ } (.int .i64 (IntKind.i64.wrap (x41 - 1))) rfl (hS87.pick [] rfl rfl) (fun w hSw => by kernel_rfl) ?_
          refine gd1 5 { dst := some 47, op := _, type := _, pos := _, after := _, guard := _ } (.slice A0 p0.length c0) rfl (hS87.pick [] rfl rfl) (fun w hSw => by kernel_rfl) ?_
          refine gd1 6 { dst := some 48, op := _, type := _, pos := _, after := _, guard := _ } (.int .i64 x41) rfl (hS87.pick [] rfl rfl) (fun w hSw => by kernel_rfl) ?_
          refine gd1 7 { dst := some 49, op := _, type := _, pos := _, after := _, guard := _ } (.int .i64 (IntKind.i64.wrap (x41 - 1))) rfl (hS87.pick [] rfl rfl) (fun w hSw => by kernel_rfl) ?_
          refine gd1 8 { dst := some 50, op := _, type := _, pos := _, after := _, guard := _ } (.pointer (Option.map (fun (p : Addr) => p.add (Int.toNat (IntKind.i64.wrap (x41 - 1)) * 1)) A0)) rfl (hS87.pick [] rfl rfl) (fun w hSw => run_ixaddr (E := 45) (s := 1) (k := .i64) (c := c0) rfl (by kernel_rfl) (by kernel_rfl) (by kernel_rfl) (fun _ => by kernel_rfl) (ix_in hxz11_84o8_2).1 (lt_len hn18 (ix_in hxz11_84o8_2).2.1) (nil_len hn18 (num_nil (hS87.row 0 rfl).1))) ?_
          refine gd1 10 { dst := some 52, op := _, type := _, pos := _, after := _, guard := _ } (.slice A0 p0.length c0) rfl (hS87.pick [] rfl rfl) (fun w hSw => by kernel_rfl) ?_
          refine gd1 11 { dst := some 53, op := _, type := _, pos := _, after := _, guard := _ } (.int .i64 x41) rfl (hS87.pick [] rfl rfl) (fun w hSw => by kernel_rfl) ?_
          refine gd1 12 { dst := some 54, op := _, type := _, pos := _, after := _, guard := _ } (.pointer (Option.map (fun (p : Addr) => p.add (Int.toNat x41 * 1)) A0)) rfl (hS87.pick [] rfl rfl) (fun w hSw => run_ixaddr (E := 45) (s := 1) (k := .i64) (c := c0) rfl (by kernel_rfl) (by kernel_rfl) (by kernel_rfl) (fun _ => by kernel_rfl) (ix_in hxz11_84o12_2).1 (lt_len hn18 (ix_in hxz11_84o12_2).2.1) (nil_len hn18 (num_nil (hS87.row 0 rfl).1))) ?_
          refine gd_fork2 9 13 { dst := some 51, op := _, type := _, pos := _, after := _, guard := _ } { dst := some 55, op := _, type := _, pos := _, after := _, guard := _ } rfl rfl ?_ ?_
          ·refine gfR 9 { dst := some 51, op := _, type := _, pos := _, after := _, guard := _ } (R := fun v w => v = .int .u16 xz11_84o8_1 ∧ w86 = w) rfl ⟨_, _, run_loadix rfl (by kernel_rfl) (fun _ => by kernel_rfl) (hS87.row 0 rfl).1 hxz11_84o8_2, rfl, rfl⟩ ?_
           rintro _ _ ⟨rfl, rfl⟩
           refine ⟨(hS87.pick [] rfl rfl), ?_⟩
           refine gdR 13 { dst := some 55, op := _, type := _, pos := _, after := _, guard := _ } (R := fun v w => v = .int .u16 xz11_84o12_1 ∧ w86 = w) rfl ⟨_, _, run_loadix rfl (by kernel_rfl) (fun _ => by kernel_rfl) (hS87.row 0 rfl).1 hxz11_84o12_2, rfl, rfl⟩ ?_
           rintro _ _ ⟨rfl, rfl⟩
           refine ⟨(hS87.pick [] rfl rfl), ?_⟩
           refine gd1 14 { dst := some 56, op := _, type := _, pos := _, after := _, guard := _ } (.pointer (Option.map (fun (p : Addr) => p.add (Int.toNat x41 * 1)) A0)) rfl (hS87.pick [] rfl rfl) (fun w hSw => run_ixaddr (E := 45) (s := 1) (k := .i64) (c := c0) rfl (by kernel_rfl) (by kernel_rfl) (by kernel_rfl) (fun _ => by kernel_rfl) (ix_in hxz11_84o14_2).1 (lt_len hn18 (ix_in hxz11_84o14_2).2.1) (nil_len hn18 (num_nil (hS87.row 0 rfl).1))) ?_
           refine gdS 15 { dst := none, op := _, type := _, pos := _, after := _, guard := _ } rfl (st_storeix rfl (by kernel_rfl) (by kernel_rfl) (fun _ => by kernel_rfl) hS87 0 rfl hxz11_84o15_4) ?_
           rintro wz11_84o15_1 hSz11_84o15_2
           have hSz11_84o15_2 : St _ _ wz11_84o15_1 [rowE .u16 45 A0 c0 lz11_84o15_3] := hSz11_84o15_2
           refine ⟨(hSz11_84o15_2.pick [] rfl rfl), ?_⟩
           refine gd1 16 { dst := some 57, op := _, type := _, pos := _, after := _, guard := _ } (.pointer (Option.map (fun (p : Addr) => p.add (Int.toNat (IntKind.i64.wrap (x41 - 1)) * 1)) A0)) rfl (hSz11_84o15_2.pick [] rfl rfl) (fun w hSw => run_ixaddr (E := 45) (s := 1) (k := .i64) (c := c0) rfl (by kernel_rfl) (by kernel_rfl) (by kernel_rfl) (fun _ => by kernel_rfl) (ix_in hxz11_84o16_2).1 (lt_len (hn18.trans (setx_len hxz11_84o15_4).symm) (ix_in hxz11_84o16_2).2.1) (nil_len (hn18.trans (setx_len hxz11_84o15_4).symm) (num_nil (hSz11_84o15_2.row 0 rfl).1))) ?_
           refine gdS 17 { dst := none, op := _, type := _, pos := _, after := _, guard := _ } rfl (st_storeix rfl (by kernel_rfl) (by kernel_rfl) (fun _ => by kernel_rfl) hSz11_84o15_2 0 rfl hxz11_84o17_4) ?_
           rintro wz11_84o17_1 hSz11_84o17_2
           have hSz11_84o17_2 : St _ _ wz11_84o17_1 [rowE .u16 45 A0 c0 lz11_84o17_3] := hSz11_84o17_2
           refine ⟨(hSz11_84o17_2.pick [] rfl rfl), ?_⟩
           exact gd_meet (by kernel_rfl) (by kernel_rfl) (K185 () _ hSz11_84o17_2)
          ·refine gfR 13 { dst := some 55, op := _, type := _, pos := _, after := _, guard := _ } (R := fun v w => v = .int .u16 xz11_84o12_1 ∧ w86 = w) rfl ⟨_, _, run_loadix rfl (by kernel_rfl) (fun _ => by kernel_rfl) (hS87.row 0 rfl).1 hxz11_84o12_2, rfl, rfl⟩ ?_
           rintro _ _ ⟨rfl, rfl⟩
           refine ⟨(hS87.pick [] rfl rfl), ?_⟩
           refine gdR 9 { dst := some 51, op := _, type := _, pos := _, after := _, guard := _ } (R := fun v w => v = .int .u16 xz11_84o8_1 ∧ w86 = w) rfl ⟨_, _, run_loadix rfl (by kernel_rfl) (fun _ => by kernel_rfl) (hS87.row 0 rfl).1 hxz11_84o8_2, rfl, rfl⟩ ?_
           rintro _ _ ⟨rfl, rfl⟩
           refine ⟨(hS87.pick [] rfl rfl), ?_⟩
           refine gd1 14 { dst := some 56, op := _, type := _, pos := _, after := _, guard := _ } (.pointer (Option.map (fun (p : Addr) => p.add (Int.toNat x41 * 1)) A0)) rfl (hS87.pick [] rfl rfl) (fun w hSw => run_ixaddr (E := 45) (s := 1) (k := .i64) (c := c0) rfl (by kernel_rfl) (by kernel_rfl) (by kernel_rfl) (fun _ => by kernel_rfl) (ix_in hxz11_84o14_2).1 (lt_len hn18 (ix_in hxz11_84o14_2).2.1) (nil_len hn18 (num_nil (hS87.row 0 rfl).1))) ?_
           refine gdS 15 { dst := none, op := _, type := _, pos := _, after := _, guard := _ } rfl (st_storeix rfl (by kernel_rfl) (by kernel_rfl) (fun _ => by kernel_rfl) hS87 0 rfl hxz11_84o15_4) ?_
           rintro wz11_84o15_1 hSz11_84o15_2
           have hSz11_84o15_2 : St _ _ wz11_84o15_1 [rowE .u16 45 A0 c0 lz11_84o15_3] := hSz11_84o15_2
           refine ⟨(hSz11_84o15_2.pick [] rfl rfl), ?_⟩
           refine gd1 16 { dst := some 57, op := _, type := _, pos := _, after := _, guard := _ } (.pointer (Option.map (fun (p : Addr) => p.add (Int.toNat (IntKind.i64.wrap (x41 - 1)) * 1)) A0)) rfl (hSz11_84o15_2.pick [] rfl rfl) (fun w hSw => run_ixaddr (E := 45) (s := 1) (k := .i64) (c := c0) rfl (by kernel_rfl) (by kernel_rfl) (by kernel_rfl) (fun _ => by kernel_rfl) (ix_in hxz11_84o16_2).1 (lt_len (hn18.trans (setx_len hxz11_84o15_4).symm) (ix_in hxz11_84o16_2).2.1) (nil_len (hn18.trans (setx_len hxz11_84o15_4).symm) (num_nil (hSz11_84o15_2.row 0 rfl).1))) ?_
           refine gdS 17 { dst := none, op := _, type := _, pos := _, after := _, guard := _ } rfl (st_storeix rfl (by kernel_rfl) (by kernel_rfl) (fun _ => by kernel_rfl) hSz11_84o15_2 0 rfl hxz11_84o17_4) ?_
           rintro wz11_84o17_1 hSz11_84o17_2
           have hSz11_84o17_2 : St _ _ wz11_84o17_1 [rowE .u16 45 A0 c0 lz11_84o17_3] := hSz11_84o17_2
           refine ⟨(hSz11_84o17_2.pick [] rfl rfl), ?_⟩
           exact gd_meet (by kernel_rfl) (by kernel_rfl) (K185 () _ hSz11_84o17_2)
     ·rintro _ w29 ⟨l33, x34, hq187, rfl, hS30, hn32⟩
      obtain ⟨u31, rfl⟩ := selfA_u hq187
      try dsimp only at hO37
      refine gx_region ?_
      refine gx_k (.int .i64 x21) w29 (gx_k (.int .i64 (IntKind.i64.wrap (x21 + 1))) w29 (gx_k (.int .i64 (IntKind.i64.wrap (x21 + 1))) w29 ?_))
      refine gx_nil ?_
      refine gx_thenN ?_
      exact ⟨k22, Nat.lt_succ_self k22, l33, x34, (IntKind.i64.wrap (x21 + 1)), selfA_i (by kernel_rfl), hO37, hS30, hn32⟩
    ·refine gx_v (.bool false) w15 (run_boolE (decide_eq_false h28) (by kernel_rfl)) ?_
     refine gx_nil ?_
     refine gx_thenN ?_
     refine hK27 _ _ ?_
     refine gx_no (by kernel_rfl) ?_
     refine gx_exit ?_
     refine gx_thenE ?_
     refine gx_thenE ?_
     refine gx_blkE ?_
     refine gx_thenN ?_
     exact ⟨l19, selfA_i (by kernel_rfl), (Option.some.inj hL23), hS16, hn18⟩
 ·rintro _ w5 ⟨l9, hq191, rfl, hS6, hn8⟩
  obtain ⟨u7, rfl⟩ := selfA_u hq191
  try dsimp only at hO12
  refine gx_seq (fun K189 hK190 => ?_)
  refine gx_region ?_
  refine gx_k (.bool false) w5 ?_
  refine gx_nil ?_
  refine gx_thenN ?_
  refine hK190 _ _ ?_
  refine gx_ret ?_
  obtain rfl := Option.some.inj hO12
  exact gx_fin (.bool false) (by kernel_rfl) (by kernel_rfl) ⟨_, rfl, rfl, hS6, (hn8).symm⟩

end Go.Proofs.Ytcleaepcjbfmhaa

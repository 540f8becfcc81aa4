/-
  The program, walked.
-/
import Derived.Test.YtdpcaidhpccaiaaP0
namespace Go.Proofs.Ytdpcaidhpccaiaa
open Go Go.RowKit
set_option linter.unusedVariables false

def pMarks_L1 (N : Nat) (p0 : List Int) : Nat → (List Int) → Int → Int → Option (List Int)
 | 0, _, _, _ => none
 | k12+1, l9, x10, x11 => (if x11 < ((p0.length : Nat) : Int) then ((ix l9 x11).bind fun x23 => (((if x23 = 9 then ((ix l9 x11).bind fun _x36 => ((setx l9 x11 x10).bind fun l40 => some (l40))) else some (l9)) : Option (List Int)).bind fun l29 => ((ix l29 x11).bind fun x44 => ((pIso N x44).bind fun b50 => (match b50 with | true => pMarks_L1 N p0 k12 l29 14 (IntKind.i64.wrap (x11 + 1)) | false => pMarks_L1 N p0 k12 l29 x44 (IntKind.i64.wrap (x11 + 1))))))) else some l9)
def pMarks (N : Nat) (p0 : List Int) (p1 : Int) : Option (List Int) :=
 pMarks_L1 N p0 N p0 p1 0

set_option linter.unusedVariables false in
def pMarks_R (p0 : List Int) (p1 : Int) (A0 : Option Addr) (c0 : Nat) (r : List Int) (w0 : World) (v : Value) (w : World) : Prop := v = .tuple #[] ∧ St (foots [rowE .u8 23 A0 c0 p0]) w0 w [rowE .u8 23 A0 c0 r] ∧ r.length = p0.length

set_option maxRecDepth 100000 in
set_option maxHeartbeats 4000000 in
theorem pMarks_ok (N : Nat) (p0 : List Int) (p1 : Int) (A0 : Option Addr) (c0 : Nat) (r : List Int) (hF : pMarks N p0 p1 = some r) (w0 : World) (hl : St (foots [rowE .u8 23 A0 c0 p0]) w0 w0 [rowE .u8 23 A0 c0 p0]) :
  Calls Try.prog 29 #[.slice A0 p0.length c0, .int .u8 p1] w0 fun e w => ∃ v, e = .returned v ∧ pMarks_R p0 p1 A0 c0 r w0 v w := by
 have hS0 := hl
 unfold pMarks at hF
 refine calls_of Try.func29 rfl ⟨((.slice A0 p0.length c0) :: (.int .u8 p1) :: un 26 ([])).toArray, []⟩ (by kernel_rfl) ?_
 refine gx_seq (fun K1 hK2 => ?_)
 refine gx_region ?_
 refine gx_k (.int .u8 p1) w0 (gx_k (.int .u8 p1) w0 ?_)
 refine gx_nil ?_
 refine gx_thenN ?_
 refine hK2 _ _ ?_
 refine gx_seq (fun K3 hK4 => ?_)
 refine gx_region ?_
 refine gx_k (.slice A0 p0.length c0) w0 (gx_k (.int .i64 ((p0.length : Nat) : Int)) w0 (gx_k (.int .i64 0) w0 ?_))
 refine gx_nil ?_
 refine gx_thenN ?_
 refine hK4 _ _ ?_
 refine gx_block ?_
 refine gx_loop (fun k a w => ∃ (l9 : List Int) (x10 : Int) (x11 : Int), selfA (fun u7 => ⟨((.slice A0 p0.length c0) :: (.int .u8 p1) :: undef :: undef :: (.int .u8 x10) :: dd u7 5 2 ((.int .u8 p1) :: (.slice A0 p0.length c0) :: (.int .i64 ((p0.length : Nat) : Int)) :: (.int .i64 x11) :: dd u7 11 17 ([]))).toArray, []⟩) a ∧ pMarks_L1 N p0 k l9 x10 x11 = some r ∧ St (foots [rowE .u8 23 A0 c0 p0]) w0 w [rowE .u8 23 A0 c0 l9] ∧ p0.length = l9.length) N ?_ ?_
 ·exact ⟨p0, p1, 0, selfA_i (by kernel_rfl), hF, hS0, rfl⟩
 ·rintro k12 _ w5 ⟨l9, x10, x11, hq57, hL13, hS6, hn8⟩
  obtain ⟨u7, rfl⟩ := selfA_u hq57
  cases k12 with
  | zero => cases hL13
  | succ k12 =>
   first | rw [pMarks_L1] at hL13 | unfold pMarks_L1 at hL13
   refine gx_seq (fun K14 hK15 => ?_)
   refine gx_region ?_
   rcases if_in hL13 with ⟨h16, hL13⟩ | ⟨h16, hL13⟩
   ·refine gx_v (.bool true) w5 (run_boolE (decide_eq_true h16) (by kernel_rfl)) ?_
    refine gx_nil ?_
    refine gx_thenN ?_
    refine hK15 _ _ ?_
    refine gx_seq (fun K17 hK18 => ?_)
    refine gx_yes (by kernel_rfl) ?_
    refine gx_pass ?_
    refine gx_thenN ?_
    refine hK18 _ _ ?_
    refine gx_seq (fun K19 hK20 => ?_)
    refine gx_block ?_
    refine gx_seq (fun K21 hK22 => ?_)
    refine gx_region ?_
    refine gx_k (.int .i64 x11) w5 ?_
    obtain ⟨x23, hx24, hL13⟩ := bind_in hL13
    refine gx_v (.pointer (Option.map (fun (p : Addr) => p.add (Int.toNat x11 * 1)) A0)) w5 (run_ixaddr (E := 23) (s := 1) (k := .i64) (c := c0) rfl (by kernel_rfl) (by kernel_rfl) (by kernel_rfl) (fun _ => by kernel_rfl) (ix_in hx24).1 (lt_len hn8 (ix_in hx24).2.1) (nil_len hn8 (num_nil (hS6.row 0 rfl).1))) ?_
    refine gx_v (.int .u8 x23) w5 (run_loadix rfl (by kernel_rfl) (fun _ => by kernel_rfl) (hS6.row 0 rfl).1 hx24) ?_
    refine gx_k (.int .i64 x11) w5 (gx_k (.int .u8 x23) w5 ?_)
    refine gx_nil ?_
    refine gx_thenN ?_
    refine hK22 _ _ ?_
    obtain ⟨c30, hE31, hO32⟩ := bind_in hL13
    refine gx_cut (fun a w => ∃ (l29 : List Int), selfA (fun u27 => ⟨((.slice A0 p0.length c0) :: (.int .u8 p1) :: undef :: undef :: (.int .u8 x10) :: (.int .i64 x11) :: (.int .u8 x23) :: (.int .u8 p1) :: (.slice A0 p0.length c0) :: (.int .i64 ((p0.length : Nat) : Int)) :: (.int .i64 x11) :: (.bool true) :: (.int .i64 x11) :: (.pointer (Option.map (fun (p : Addr) => p.add (Int.toNat x11 * 1)) A0)) :: (.int .u8 x23) :: dd u27 15 6 (dd u7 21 7 ([]))).toArray, []⟩) a ∧ l29 = c30 ∧ St (foots [rowE .u8 23 A0 c0 p0]) w0 w [rowE .u8 23 A0 c0 l29] ∧ p0.length = l29.length) ?_ ?_
    ·refine gx_seq (fun K33 hK34 => ?_)
     refine gx_region ?_
     refine gx_k (.int .u8 x23) w5 ?_
     rcases if_in hE31 with ⟨h35, hE31⟩ | ⟨h35, hE31⟩
     ·refine gx_v (.bool true) w5 (run_boolE (decide_eq_true h35) (by kernel_rfl)) ?_
      refine gx_nil ?_
      refine gx_thenN ?_
      refine hK34 _ _ ?_
      refine gx_yes (by kernel_rfl) ?_
      refine gx_region ?_
      refine gx_k (.slice A0 p0.length c0) w5 (gx_k (.int .i64 x11) w5 (gx_k (.int .u8 x10) w5 ?_))
      obtain ⟨x36, hx37, hE31⟩ := bind_in hE31
      refine gx_v (.pointer (Option.map (fun (p : Addr) => p.add (Int.toNat x11 * 1)) A0)) w5 (run_ixaddr (E := 23) (s := 1) (k := .i64) (c := c0) rfl (by kernel_rfl) (by kernel_rfl) (by kernel_rfl) (fun _ => by kernel_rfl) (ix_in hx37).1 (lt_len hn8 (ix_in hx37).2.1) (nil_len hn8 (num_nil (hS6.row 0 rfl).1))) ?_
      obtain ⟨l40, hx41, hE31⟩ := bind_in hE31
      refine gx_s (st_storeix rfl (by kernel_rfl) (by kernel_rfl) (fun _ => by kernel_rfl) hS6 0 rfl hx41) ?_
      rintro w38 hS39
      have hS39 : St _ _ w38 [rowE .u8 23 A0 c0 l40] := hS39
      refine gx_nil ?_
      refine gx_thenN ?_
      exact ⟨l40, selfA_i (by kernel_rfl), (Option.some.inj hE31), hS39, (hn8.trans (setx_len hx41).symm)⟩
     ·refine gx_v (.bool false) w5 (run_boolE (decide_eq_false h35) (by kernel_rfl)) ?_
      refine gx_nil ?_
      refine gx_thenN ?_
      refine hK34 _ _ ?_
      refine gx_no (by kernel_rfl) ?_
      refine gx_pass ?_
      refine gx_thenN ?_
      exact ⟨l9, selfA_i (by kernel_rfl), (Option.some.inj hE31), hS6, hn8⟩
    ·rintro _ w25 ⟨l29, hq54, rfl, hS26, hn28⟩
     obtain ⟨u27, rfl⟩ := selfA_u hq54
     try dsimp only at hO32
     refine gx_seq (fun K42 hK43 => ?_)
     refine gx_region ?_
     refine gx_k (.slice A0 p0.length c0) w25 (gx_k (.int .i64 x11) w25 ?_)
     obtain ⟨x44, hx45, hO32⟩ := bind_in hO32
     refine gx_v (.pointer (Option.map (fun (p : Addr) => p.add (Int.toNat x11 * 1)) A0)) w25 (run_ixaddr (E := 23) (s := 1) (k := .i64) (c := c0) rfl (by kernel_rfl) (by kernel_rfl) (by kernel_rfl) (fun _ => by kernel_rfl) (ix_in hx45).1 (lt_len hn28 (ix_in hx45).2.1) (nil_len hn28 (num_nil (hS26.row 0 rfl).1))) ?_
     refine gx_v (.int .u8 x44) w25 (run_loadix rfl (by kernel_rfl) (fun _ => by kernel_rfl) (hS26.row 0 rfl).1 hx45) ?_
     refine gx_k (.int .u8 x44) w25 ?_
     refine gx_nil ?_
     refine gx_thenN ?_
     refine hK43 _ _ ?_
     refine gx_seq (fun K46 hK47 => ?_)
     refine gx_region ?_
     refine gx_k (.int .u8 x44) w25 ?_
     have hP48 : St _ _ w25 ([] ++ [rowE .u8 23 A0 c0 l29]) := hS26
     obtain ⟨b50, hc49, hO32⟩ := bind_in hO32
     try dsimp only at hO32
     refine gx_c (pIso_R b50 w25) (pIso_ok N x44 _ hc49 w25 ) ?_
     rintro _ w51 ⟨rfl, hT53⟩
     have hS52 : St _ _ w51 [rowE .u8 23 A0 c0 l29] := hS26.take _ hT53
     refine gx_nil ?_
     refine gx_thenN ?_
     refine hK47 _ _ ?_
     cases b50 with
     | true =>
      try dsimp only at hO32
      refine gx_yes (by kernel_rfl) ?_
      refine gx_region ?_
      refine gx_k (.int .u8 14) w51 ?_
      refine gx_nil ?_
      refine gx_blkN ?_
      refine gx_thenN ?_
      refine hK20 _ _ ?_
      refine gx_region ?_
      refine gx_k (.int .i64 (IntKind.i64.wrap (x11 + 1))) w51 (gx_k (.int .i64 (IntKind.i64.wrap (x11 + 1))) w51 ?_)
      refine gx_nil ?_
      refine gx_thenN ?_
      exact ⟨k12, Nat.lt_succ_self k12, l29, 14, (IntKind.i64.wrap (x11 + 1)), selfA_i (by kernel_rfl), hO32, hS52, hn28⟩
     | false =>
      try dsimp only at hO32
      refine gx_no (by kernel_rfl) ?_
      refine gx_pass ?_
      refine gx_blkN ?_
      refine gx_thenN ?_
      refine hK20 _ _ ?_
      refine gx_region ?_
      refine gx_k (.int .i64 (IntKind.i64.wrap (x11 + 1))) w51 (gx_k (.int .i64 (IntKind.i64.wrap (x11 + 1))) w51 ?_)
      refine gx_nil ?_
      refine gx_thenN ?_
      exact ⟨k12, Nat.lt_succ_self k12, l29, x44, (IntKind.i64.wrap (x11 + 1)), selfA_i (by kernel_rfl), hO32, hS52, hn28⟩
   ·refine gx_v (.bool false) w5 (run_boolE (decide_eq_false h16) (by kernel_rfl)) ?_
    refine gx_nil ?_
    refine gx_thenN ?_
    refine hK15 _ _ ?_
    refine gx_seq (fun K55 hK56 => ?_)
    refine gx_no (by kernel_rfl) ?_
    refine gx_exit ?_
    refine gx_thenE ?_
    refine gx_thenE ?_
    refine gx_blkE ?_
    obtain rfl := Option.some.inj hL13
    exact gx_finN (.tuple #[]) (by kernel_rfl) (by kernel_rfl) ⟨_, rfl, rfl, hS6, (hn8).symm⟩

def pArab_L1 (N : Nat) (p0 : List Int) : Nat → (List Int) → Int → Int → Option (List Int)
 | 0, _, _, _ => none
 | k12+1, l9, x10, x11 => (if x11 < ((p0.length : Nat) : Int) then ((ix l9 x11).bind fun x23 => (((if x23 = 1 then some (true) else (if x23 = 2 then some (true) else some (false))) : Option (Bool)).bind fun b30 => (match b30 with | true => pArab_L1 N p0 k12 l9 x23 (IntKind.i64.wrap (x11 + 1)) | false => (if x23 = 3 then ((ix l9 x11).bind fun _x43 => ((setx l9 x11 2).bind fun l47 => pArab_L1 N p0 k12 l47 x23 (IntKind.i64.wrap (x11 + 1)))) else (if x23 = 4 then (if x10 = 3 then ((ix l9 x11).bind fun _x55 => ((setx l9 x11 7).bind fun l59 => pArab_L1 N p0 k12 l59 x10 (IntKind.i64.wrap (x11 + 1)))) else pArab_L1 N p0 k12 l9 x10 (IntKind.i64.wrap (x11 + 1))) else pArab_L1 N p0 k12 l9 x10 (IntKind.i64.wrap (x11 + 1))))))) else some l9)
def pArab (N : Nat) (p0 : List Int) (p1 : Int) : Option (List Int) :=
 pArab_L1 N p0 N p0 p1 0

set_option linter.unusedVariables false in
def pArab_R (p0 : List Int) (p1 : Int) (A0 : Option Addr) (c0 : Nat) (r : List Int) (w0 : World) (v : Value) (w : World) : Prop := v = .tuple #[] ∧ St (foots [rowE .u8 23 A0 c0 p0]) w0 w [rowE .u8 23 A0 c0 r] ∧ r.length = p0.length

set_option maxRecDepth 100000 in
set_option maxHeartbeats 4000000 in
theorem pArab_ok (N : Nat) (p0 : List Int) (p1 : Int) (A0 : Option Addr) (c0 : Nat) (r : List Int) (hF : pArab N p0 p1 = some r) (w0 : World) (hl : St (foots [rowE .u8 23 A0 c0 p0]) w0 w0 [rowE .u8 23 A0 c0 p0]) :
  Calls Try.prog 30 #[.slice A0 p0.length c0, .int .u8 p1] w0 fun e w => ∃ v, e = .returned v ∧ pArab_R p0 p1 A0 c0 r w0 v w := by
 have hS0 := hl
 unfold pArab at hF
 refine calls_of Try.func30 rfl ⟨((.slice A0 p0.length c0) :: (.int .u8 p1) :: un 32 ([])).toArray, []⟩ (by kernel_rfl) ?_
 refine gx_seq (fun K1 hK2 => ?_)
 refine gx_region ?_
 refine gx_k (.int .u8 p1) w0 (gx_k (.int .u8 p1) w0 ?_)
 refine gx_nil ?_
 refine gx_thenN ?_
 refine hK2 _ _ ?_
 refine gx_seq (fun K3 hK4 => ?_)
 refine gx_region ?_
 refine gx_k (.slice A0 p0.length c0) w0 (gx_k (.int .i64 ((p0.length : Nat) : Int)) w0 (gx_k (.int .i64 0) w0 ?_))
 refine gx_nil ?_
 refine gx_thenN ?_
 refine hK4 _ _ ?_
 refine gx_block ?_
 refine gx_loop (fun k a w => ∃ (l9 : List Int) (x10 : Int) (x11 : Int), selfA (fun u7 => ⟨((.slice A0 p0.length c0) :: (.int .u8 p1) :: undef :: undef :: (.int .u8 x10) :: dd u7 5 2 ((.int .u8 p1) :: (.slice A0 p0.length c0) :: (.int .i64 ((p0.length : Nat) : Int)) :: (.int .i64 x11) :: dd u7 11 23 ([]))).toArray, []⟩) a ∧ pArab_L1 N p0 k l9 x10 x11 = some r ∧ St (foots [rowE .u8 23 A0 c0 p0]) w0 w [rowE .u8 23 A0 c0 l9] ∧ p0.length = l9.length) N ?_ ?_
 ·exact ⟨p0, p1, 0, selfA_i (by kernel_rfl), hF, hS0, rfl⟩
 ·rintro k12 _ w5 ⟨l9, x10, x11, hq64, hL13, hS6, hn8⟩
  obtain ⟨u7, rfl⟩ := selfA_u hq64
  cases k12 with
  | zero => cases hL13
  | succ k12 =>
   first | rw [pArab_L1] at hL13 | unfold pArab_L1 at hL13
   refine gx_seq (fun K14 hK15 => ?_)
   refine gx_region ?_
   rcases if_in hL13 with ⟨h16, hL13⟩ | ⟨h16, hL13⟩
   ·refine gx_v (.bool true) w5 (run_boolE (decide_eq_true h16) (by kernel_rfl)) ?_
    refine gx_nil ?_
    refine gx_thenN ?_
    refine hK15 _ _ ?_
    refine gx_seq (fun K17 hK18 => ?_)
    refine gx_yes (by kernel_rfl) ?_
    refine gx_pass ?_
    refine gx_thenN ?_
    refine hK18 _ _ ?_
    refine gx_seq (fun K19 hK20 => ?_)
    refine gx_block ?_
    refine gx_seq (fun K21 hK22 => ?_)
    refine gx_region ?_
    refine gx_k (.int .i64 x11) w5 ?_
    obtain ⟨x23, hx24, hL13⟩ := bind_in hL13
    refine gx_v (.pointer (Option.map (fun (p : Addr) => p.add (Int.toNat x11 * 1)) A0)) w5 (run_ixaddr (E := 23) (s := 1) (k := .i64) (c := c0) rfl (by kernel_rfl) (by kernel_rfl) (by kernel_rfl) (fun _ => by kernel_rfl) (ix_in hx24).1 (lt_len hn8 (ix_in hx24).2.1) (nil_len hn8 (num_nil (hS6.row 0 rfl).1))) ?_
    refine gx_v (.int .u8 x23) w5 (run_loadix rfl (by kernel_rfl) (fun _ => by kernel_rfl) (hS6.row 0 rfl).1 hx24) ?_
    refine gx_k (.int .i64 x11) w5 (gx_k (.int .u8 x23) w5 ?_)
    refine gx_nil ?_
    refine gx_thenN ?_
    refine hK22 _ _ ?_
    refine gx_seq (fun K25 hK26 => ?_)
    refine gx_region ?_
    refine gx_k (.int .u8 x23) w5 ?_
    refine gx_nil ?_
    refine gx_thenN ?_
    refine hK26 _ _ ?_
    refine gx_block ?_
    obtain ⟨c31, hE32, hO33⟩ := bind_in hL13
    refine gx_cut (fun a w => ∃ (b30 : Bool), selfA (fun u29 => ⟨((.slice A0 p0.length c0) :: (.int .u8 p1) :: undef :: undef :: (.int .u8 x10) :: (.int .i64 x11) :: (.int .u8 x23) :: (.int .u8 p1) :: (.slice A0 p0.length c0) :: (.int .i64 ((p0.length : Nat) : Int)) :: (.int .i64 x11) :: (.bool true) :: (.int .i64 x11) :: (.pointer (Option.map (fun (p : Addr) => p.add (Int.toNat x11 * 1)) A0)) :: (.int .u8 x23) :: (.int .u8 x23) :: (.bool b30) :: dd u29 17 2 (dd u7 19 15 ([]))).toArray, []⟩) a ∧ b30 = c31 ∧ St (foots [rowE .u8 23 A0 c0 p0]) w0 w [rowE .u8 23 A0 c0 l9]) ?_ ?_
    ·refine gx_seq (fun K34 hK35 => ?_)
     refine gx_region ?_
     rcases if_in hE32 with ⟨h36, hE32⟩ | ⟨h36, hE32⟩
     ·refine gx_v (.bool true) w5 (run_boolE (decide_eq_true h36) (by kernel_rfl)) ?_
      refine gx_k (.bool true) w5 ?_
      refine gx_nil ?_
      refine gx_thenN ?_
      refine hK35 _ _ ?_
      refine gx_yes (by kernel_rfl) ?_
      refine gx_pass ?_
      refine gx_thenN ?_
      exact ⟨true, selfA_i (by kernel_rfl), (Option.some.inj hE32), hS6⟩
     ·refine gx_v (.bool false) w5 (run_boolE (decide_eq_false h36) (by kernel_rfl)) ?_
      refine gx_k (.bool false) w5 ?_
      refine gx_nil ?_
      refine gx_thenN ?_
      refine hK35 _ _ ?_
      refine gx_no (by kernel_rfl) ?_
      refine gx_region ?_
      rcases if_in hE32 with ⟨h37, hE32⟩ | ⟨h37, hE32⟩
      ·refine gx_v (.bool true) w5 (run_boolE (decide_eq_true h37) (by kernel_rfl)) ?_
       refine gx_k (.bool true) w5 ?_
       refine gx_nil ?_
       refine gx_thenN ?_
       exact ⟨true, selfA_i (by kernel_rfl), (Option.some.inj hE32), hS6⟩
      ·refine gx_v (.bool false) w5 (run_boolE (decide_eq_false h37) (by kernel_rfl)) ?_
       refine gx_k (.bool false) w5 ?_
       refine gx_nil ?_
       refine gx_thenN ?_
       exact ⟨false, selfA_i (by kernel_rfl), (Option.some.inj hE32), hS6⟩
    ·rintro _ w27 ⟨b30, hq61, rfl, hS28⟩
     obtain ⟨u29, rfl⟩ := selfA_u hq61
     try dsimp only at hO33
     cases b30 with
     | true =>
      try dsimp only at hO33
      refine gx_yes (by kernel_rfl) ?_
      refine gx_region ?_
      refine gx_k (.int .u8 x23) w27 (gx_k (.int .u8 x23) w27 ?_)
      refine gx_nil ?_
      refine gx_blkN ?_
      refine gx_blkN ?_
      refine gx_thenN ?_
      refine hK20 _ _ ?_
      refine gx_region ?_
      refine gx_k (.int .i64 (IntKind.i64.wrap (x11 + 1))) w27 (gx_k (.int .i64 (IntKind.i64.wrap (x11 + 1))) w27 ?_)
      refine gx_nil ?_
      refine gx_thenN ?_
      exact ⟨k12, Nat.lt_succ_self k12, l9, x23, (IntKind.i64.wrap (x11 + 1)), selfA_i (by kernel_rfl), hO33, hS28, hn8⟩
     | false =>
      try dsimp only at hO33
      refine gx_no (by kernel_rfl) ?_
      refine gx_seq (fun K38 hK39 => ?_)
      refine gx_region ?_
      rcases if_in hO33 with ⟨h40, hO33⟩ | ⟨h40, hO33⟩
      ·refine gx_v (.bool true) w27 (run_boolE (decide_eq_true h40) (by kernel_rfl)) ?_
       refine gx_k (.bool true) w27 ?_
       refine gx_nil ?_
       refine gx_thenN ?_
       refine hK39 _ _ ?_
       refine gx_yes (by kernel_rfl) ?_
       refine gx_seq (fun K41 hK42 => ?_)
       refine gx_region ?_
       refine gx_k (.int .u8 x23) w27 (gx_k (.int .u8 x23) w27 ?_)
       refine gx_nil ?_
       refine gx_thenN ?_
       refine hK42 _ _ ?_
       refine gx_region ?_
       refine gx_k (.slice A0 p0.length c0) w27 (gx_k (.int .i64 x11) w27 ?_)
       obtain ⟨x43, hx44, hO33⟩ := bind_in hO33
       refine gx_v (.pointer (Option.map (fun (p : Addr) => p.add (Int.toNat x11 * 1)) A0)) w27 (run_ixaddr (E := 23) (s := 1) (k := .i64) (c := c0) rfl (by kernel_rfl) (by kernel_rfl) (by kernel_rfl) (fun _ => by kernel_rfl) (ix_in hx44).1 (lt_len hn8 (ix_in hx44).2.1) (nil_len hn8 (num_nil (hS28.row 0 rfl).1))) ?_
       obtain ⟨l47, hx48, hO33⟩ := bind_in hO33
       refine gx_s (st_storeix rfl (by kernel_rfl) (by kernel_rfl) (fun _ => by kernel_rfl) hS28 0 rfl hx48) ?_
       rintro w45 hS46
       have hS46 : St _ _ w45 [rowE .u8 23 A0 c0 l47] := hS46
       refine gx_nil ?_
       refine gx_blkN ?_
       refine gx_blkN ?_
       refine gx_thenN ?_
       refine hK20 _ _ ?_
       refine gx_region ?_
       refine gx_k (.int .i64 (IntKind.i64.wrap (x11 + 1))) w45 (gx_k (.int .i64 (IntKind.i64.wrap (x11 + 1))) w45 ?_)
       refine gx_nil ?_
       refine gx_thenN ?_
       exact ⟨k12, Nat.lt_succ_self k12, l47, x23, (IntKind.i64.wrap (x11 + 1)), selfA_i (by kernel_rfl), hO33, hS46, (hn8.trans (setx_len hx48).symm)⟩
      ·refine gx_v (.bool false) w27 (run_boolE (decide_eq_false h40) (by kernel_rfl)) ?_
       refine gx_k (.bool false) w27 ?_
       refine gx_nil ?_
       refine gx_thenN ?_
       refine hK39 _ _ ?_
       refine gx_no (by kernel_rfl) ?_
       refine gx_seq (fun K49 hK50 => ?_)
       refine gx_region ?_
       rcases if_in hO33 with ⟨h51, hO33⟩ | ⟨h51, hO33⟩
       ·refine gx_v (.bool true) w27 (run_boolE (decide_eq_true h51) (by kernel_rfl)) ?_
        refine gx_k (.bool true) w27 ?_
        refine gx_nil ?_
        refine gx_thenN ?_
        refine hK50 _ _ ?_
        refine gx_yes (by kernel_rfl) ?_
        refine gx_seq (fun K52 hK53 => ?_)
        refine gx_region ?_
        refine gx_k (.int .u8 x10) w27 ?_
        rcases if_in hO33 with ⟨h54, hO33⟩ | ⟨h54, hO33⟩
        ·refine gx_v (.bool true) w27 (run_boolE (decide_eq_true h54) (by kernel_rfl)) ?_
         refine gx_nil ?_
         refine gx_thenN ?_
         refine hK53 _ _ ?_
         refine gx_yes (by kernel_rfl) ?_
         refine gx_region ?_
         refine gx_k (.slice A0 p0.length c0) w27 (gx_k (.int .i64 x11) w27 ?_)
         obtain ⟨x55, hx56, hO33⟩ := bind_in hO33
         refine gx_v (.pointer (Option.map (fun (p : Addr) => p.add (Int.toNat x11 * 1)) A0)) w27 (run_ixaddr (E := 23) (s := 1) (k := .i64) (c := c0) rfl (by kernel_rfl) (by kernel_rfl) (by kernel_rfl) (fun _ => by kernel_rfl) (ix_in hx56).1 (lt_len hn8 (ix_in hx56).2.1) (nil_len hn8 (num_nil (hS28.row 0 rfl).1))) ?_
         obtain ⟨l59, hx60, hO33⟩ := bind_in hO33
         refine gx_s (st_storeix rfl (by kernel_rfl) (by kernel_rfl) (fun _ => by kernel_rfl) hS28 0 rfl hx60) ?_
         rintro w57 hS58
         have hS58 : St _ _ w57 [rowE .u8 23 A0 c0 l59] := hS58
         refine gx_nil ?_
         refine gx_blkN ?_
         refine gx_blkN ?_
         refine gx_thenN ?_
         refine hK20 _ _ ?_
         refine gx_region ?_
         refine gx_k (.int .i64 (IntKind.i64.wrap (x11 + 1))) w57 (gx_k (.int .i64 (IntKind.i64.wrap (x11 + 1))) w57 ?_)
         refine gx_nil ?_
         refine gx_thenN ?_
         exact ⟨k12, Nat.lt_succ_self k12, l59, x10, (IntKind.i64.wrap (x11 + 1)), selfA_i (by kernel_rfl), hO33, hS58, (hn8.trans (setx_len hx60).symm)⟩
        ·refine gx_v (.bool false) w27 (run_boolE (decide_eq_false h54) (by kernel_rfl)) ?_
         refine gx_nil ?_
         refine gx_thenN ?_
         refine hK53 _ _ ?_
         refine gx_no (by kernel_rfl) ?_
         refine gx_pass ?_
         refine gx_blkN ?_
         refine gx_blkN ?_
         refine gx_thenN ?_
         refine hK20 _ _ ?_
         refine gx_region ?_
         refine gx_k (.int .i64 (IntKind.i64.wrap (x11 + 1))) w27 (gx_k (.int .i64 (IntKind.i64.wrap (x11 + 1))) w27 ?_)
         refine gx_nil ?_
         refine gx_thenN ?_
         exact ⟨k12, Nat.lt_succ_self k12, l9, x10, (IntKind.i64.wrap (x11 + 1)), selfA_i (by kernel_rfl), hO33, hS28, hn8⟩
       ·refine gx_v (.bool false) w27 (run_boolE (decide_eq_false h51) (by kernel_rfl)) ?_
        refine gx_k (.bool false) w27 ?_
        refine gx_nil ?_
        refine gx_thenN ?_
        refine hK50 _ _ ?_
        refine gx_no (by kernel_rfl) ?_
        refine gx_pass ?_
        refine gx_blkN ?_
        refine gx_blkN ?_
        refine gx_thenN ?_
        refine hK20 _ _ ?_
        refine gx_region ?_
        refine gx_k (.int .i64 (IntKind.i64.wrap (x11 + 1))) w27 (gx_k (.int .i64 (IntKind.i64.wrap (x11 + 1))) w27 ?_)
        refine gx_nil ?_
        refine gx_thenN ?_
        exact ⟨k12, Nat.lt_succ_self k12, l9, x10, (IntKind.i64.wrap (x11 + 1)), selfA_i (by kernel_rfl), hO33, hS28, hn8⟩
   ·refine gx_v (.bool false) w5 (run_boolE (decide_eq_false h16) (by kernel_rfl)) ?_
    refine gx_nil ?_
    refine gx_thenN ?_
    refine hK15 _ _ ?_
    refine gx_seq (fun K62 hK63 => ?_)
    refine gx_no (by kernel_rfl) ?_
    refine gx_exit ?_
    refine gx_thenE ?_
    refine gx_thenE ?_
    refine gx_blkE ?_
    obtain rfl := Option.some.inj hL13
    exact gx_finN (.tuple #[]) (by kernel_rfl) (by kernel_rfl) ⟨_, rfl, rfl, hS6, (hn8).symm⟩

def pNums_L2 (N : Nat) (p0 : List Int) (self17 : (List Int) → Int → Int → Int → Option (List Int)) : Nat → (List Int) → Int → Int → Int → Option (List Int)
 | 0, _, _, _, _ => none
 | k26+1, l22, x23, x24, x25 => (if x25 < ((p0.length : Nat) : Int) then ((ix l22 x25).bind fun x35 => (((((if x35 = 1 then some (true) else (if x35 = 2 then some (true) else some (false))) : Option (Bool)).bind fun b53 => (match b53 with | true => some (Ctl.go (l22, x35, x25, x35)) | false => (((if x35 = 5 then some (true) else (if x35 = 8 then some (true) else some (false))) : Option (Bool)).bind fun b64 => (match b64 with | true => ((pClassAt N l22 (IntKind.i64.wrap (x25 + 1))).bind fun x74 => ((pSep N x24 x35 x74).bind fun x80 => some (Ctl.go (l22, x23, x25, x80)))) | false => (if x35 = 6 then ((pEndT N l22 x25).bind fun x91 => (((if x24 = 4 then some (4) else ((pClassAt N l22 x91).bind fun x107 => (if x107 = 4 then some (4) else some (x35)))) : Option (Int)).bind fun x98 => ((cutx l22 x25 x91).bind fun l116 => ((pSett N x98 x23).bind fun x124 => ((pFill N l116 x124).bind fun l131 => ((putx l22 x25 x91 l131).bind fun l133 => (self17 l133 x23 6 x91).bind fun r => some (Ctl.ret r))))))) else some (Ctl.go (l22, x23, x25, x35))))))) : Option (Ctl (List Int × Int × Int × Int) (List Int))).bind fun | Ctl.go (l41, x42, x43, x44) => ((pSett N x44 x42).bind fun x149 => ((ix l41 x43).bind fun _x153 => ((setx l41 x43 x149).bind fun l157 => pNums_L2 N p0 self17 k26 l157 x42 x44 (IntKind.i64.wrap (x43 + 1))))) | Ctl.ret r => some r)) else some l22)
def pNums_S1 (N : Nat) (p0 : List Int) : Nat → (List Int) → Int → Int → Int → Option (List Int)
 | 0, _, _, _, _ => none
 | k15+1, l11, x12, x13, x14 => pNums_L2 N p0 (pNums_S1 N p0 k15) N l11 x12 x13 x14
def pNums (N : Nat) (p0 : List Int) (p1 : Int) : Option (List Int) :=
 pNums_S1 N p0 N p0 p1 0 0

set_option linter.unusedVariables false in
def pNums_R (p0 : List Int) (p1 : Int) (A0 : Option Addr) (c0 : Nat) (r : List Int) (w0 : World) (v : Value) (w : World) : Prop := v = .tuple #[] ∧ St (foots [rowE .u8 23 A0 c0 p0]) w0 w [rowE .u8 23 A0 c0 r] ∧ r.length = p0.length

set_option maxRecDepth 100000 in
set_option maxHeartbeats 4000000 in
theorem pNums_ok (N : Nat) (p0 : List Int) (p1 : Int) (A0 : Option Addr) (c0 : Nat) (r : List Int) (hF : pNums N p0 p1 = some r) (w0 : World) (hl : St (foots [rowE .u8 23 A0 c0 p0]) w0 w0 [rowE .u8 23 A0 c0 p0]) :
  Calls Try.prog 31 #[.slice A0 p0.length c0, .int .u8 p1] w0 fun e w => ∃ v, e = .returned v ∧ pNums_R p0 p1 A0 c0 r w0 v w := by
 have hS0 := hl
 unfold pNums at hF
 refine calls_of Try.func31 rfl ⟨((.slice A0 p0.length c0) :: (.int .u8 p1) :: un 62 ([])).toArray, []⟩ (by kernel_rfl) ?_
 refine gx_scopeB 0 rfl ?_
 refine gx_seq (fun K3 hK4 => ?_)
 refine gx_region ?_
 refine gx_k (.int .u8 p1) w0 (gx_k (.int .u8 p1) w0 (gx_k (.int .u8 0) w0 ?_))
 refine gx_nil ?_
 refine gx_thenN ?_
 refine hK4 _ _ ?_
 refine gx_seq (fun K5 hK6 => ?_)
 refine gx_region ?_
 refine gx_k (.int .i64 0) w0 ?_
 refine gx_nil ?_
 refine gx_thenN ?_
 refine hK6 _ _ ?_
 refine gx_here (fun k a w => ∃ (l11 : List Int) (x12 : Int) (x13 : Int) (x14 : Int), selfA (fun u9 => ⟨((.slice A0 p0.length c0) :: (.int .u8 p1) :: undef :: undef :: (.int .u8 x12) :: (.int .u8 x13) :: (.int .i64 x14) :: dd u9 7 2 ((.int .u8 p1) :: dd u9 10 54 ([]))).toArray, []⟩) a ∧ pNums_S1 N p0 k l11 x12 x13 x14 = some r ∧ St (foots [rowE .u8 23 A0 c0 p0]) w0 w [rowE .u8 23 A0 c0 l11] ∧ p0.length = l11.length) N ?_ ?_
 ·exact ⟨p0, p1, 0, 0, selfA_i (by kernel_rfl), hF, hS0, rfl⟩
 ·rintro k15 _ w7 ⟨l11, x12, x13, x14, hq161, hL16, hS8, hn10⟩
  obtain ⟨u9, rfl⟩ := selfA_u hq161
  cases k15 with
  | zero => cases hL16
  | succ k15 =>
   first | rw [pNums_S1] at hL16 | unfold pNums_S1 at hL16
   refine gx_block ?_
   refine gx_loop (fun k a w => ∃ (l22 : List Int) (x23 : Int) (x24 : Int) (x25 : Int), selfA (fun u20 => ⟨((.slice A0 p0.length c0) :: (.int .u8 p1) :: undef :: undef :: (.int .u8 x23) :: (.int .u8 x24) :: (.int .i64 x25) :: dd u20 7 2 ((.int .u8 p1) :: dd u20 10 54 ([]))).toArray, []⟩) a ∧ pNums_L2 N p0 (pNums_S1 N p0 k15) k l22 x23 x24 x25 = some r ∧ St (foots [rowE .u8 23 A0 c0 p0]) w0 w [rowE .u8 23 A0 c0 l22] ∧ p0.length = l22.length) N ?_ ?_
   ·exact ⟨l11, x12, x13, x14, selfA_i (by kernel_rfl), hL16, hS8, hn10⟩
   ·rintro k26 _ w18 ⟨l22, x23, x24, x25, hq160, hL27, hS19, hn21⟩
    obtain ⟨u20, rfl⟩ := selfA_u hq160
    cases k26 with
    | zero => cases hL27
    | succ k26 =>
     first | rw [pNums_L2] at hL27 | unfold pNums_L2 at hL27
     refine gx_seq (fun K28 hK29 => ?_)
     refine gx_seq (fun K30 hK31 => ?_)
     refine gx_region ?_
     refine gx_k (.int .i64 x25) w18 (gx_k (.slice A0 p0.length c0) w18 (gx_k (.int .i64 ((p0.length : Nat) : Int)) w18 ?_))
     rcases if_in hL27 with ⟨h32, hL27⟩ | ⟨h32, hL27⟩
     ·refine gx_v (.bool true) w18 (run_boolE (decide_eq_true h32) (by kernel_rfl)) ?_
      refine gx_nil ?_
      refine gx_thenN ?_
      refine hK31 _ _ ?_
      refine gx_yes (by kernel_rfl) ?_
      refine gx_pass ?_
      refine gx_thenN ?_
      refine hK29 _ _ ?_
      refine gx_block ?_
      refine gx_seq (fun K33 hK34 => ?_)
      refine gx_region ?_
      refine gx_k (.slice A0 p0.length c0) w18 (gx_k (.int .i64 x25) w18 ?_)
      obtain ⟨x35, hx36, hL27⟩ := bind_in hL27
      refine gx_v (.pointer (Option.map (fun (p : Addr) => p.add (Int.toNat x25 * 1)) A0)) w18 (run_ixaddr (E := 23) (s := 1) (k := .i64) (c := c0) rfl (by kernel_rfl) (by kernel_rfl) (by kernel_rfl) (fun _ => by kernel_rfl) (ix_in hx36).1 (lt_len hn21 (ix_in hx36).2.1) (nil_len hn21 (num_nil (hS19.row 0 rfl).1))) ?_
      refine gx_v (.int .u8 x35) w18 (run_loadix rfl (by kernel_rfl) (fun _ => by kernel_rfl) (hS19.row 0 rfl).1 hx36) ?_
      refine gx_k (.int .u8 x35) w18 ?_
      refine gx_nil ?_
      refine gx_thenN ?_
      refine hK34 _ _ ?_
      obtain ⟨c45, hE46, hO47⟩ := bind_in hL27
      refine gx_cut (fun a w => ∃ (l41 : List Int) (x42 : Int) (x43 : Int) (x44 : Int), selfA (fun u39 => ⟨((.slice A0 p0.length c0) :: (.int .u8 p1) :: undef :: undef :: (.int .u8 x42) :: (u39 5) :: (.int .i64 x43) :: (.int .u8 x44) :: (u39 8) :: (.int .u8 p1) :: (.int .i64 x25) :: (u39 11) :: (.int .i64 ((p0.length : Nat) : Int)) :: (.bool true) :: (u39 14) :: (.int .i64 x25) :: (.pointer (Option.map (fun (p : Addr) => p.add (Int.toNat x25 * 1)) A0)) :: (.int .u8 x35) :: dd u39 18 37 (dd u20 55 9 ([]))).toArray, []⟩) a ∧ Ctl.go (l41, x42, x43, x44) = c45 ∧ St (foots [rowE .u8 23 A0 c0 p0]) w0 w [rowE .u8 23 A0 c0 l41] ∧ p0.length = l41.length) ?_ ?_
      ·refine gx_seq (fun K48 hK49 => ?_)
       refine gx_region ?_
       refine gx_k (.int .u8 x35) w18 ?_
       refine gx_nil ?_
       refine gx_thenN ?_
       refine hK49 _ _ ?_
       refine gx_block ?_
       obtain ⟨c54, hE55, hO56⟩ := bind_in hE46
       refine gx_cut (fun a w => ∃ (b53 : Bool), selfA (fun u52 => ⟨((.slice A0 p0.length c0) :: (.int .u8 p1) :: undef :: undef :: (.int .u8 x23) :: (.int .u8 x24) :: (.int .i64 x25) :: (.int .u8 x35) :: (u20 8) :: (.int .u8 p1) :: (.int .i64 x25) :: (u52 11) :: (.int .i64 ((p0.length : Nat) : Int)) :: (.bool true) :: (u52 14) :: (.int .i64 x25) :: (.pointer (Option.map (fun (p : Addr) => p.add (Int.toNat x25 * 1)) A0)) :: (.int .u8 x35) :: (.int .u8 x35) :: (.bool b53) :: dd u52 20 2 (dd u20 22 42 ([]))).toArray, []⟩) a ∧ b53 = c54 ∧ St (foots [rowE .u8 23 A0 c0 p0]) w0 w [rowE .u8 23 A0 c0 l22]) ?_ ?_
       ·refine gx_seq (fun K57 hK58 => ?_)
        refine gx_region ?_
        rcases if_in hE55 with ⟨h59, hE55⟩ | ⟨h59, hE55⟩
        ·refine gx_v (.bool true) w18 (run_boolE (decide_eq_true h59) (by kernel_rfl)) ?_
         refine gx_k (.bool true) w18 ?_
         refine gx_nil ?_
         refine gx_thenN ?_
         refine hK58 _ _ ?_
         refine gx_yes (by kernel_rfl) ?_
         refine gx_pass ?_
         refine gx_thenN ?_
         exact ⟨true, selfA_i (by kernel_rfl), (Option.some.inj hE55), hS19⟩
        ·refine gx_v (.bool false) w18 (run_boolE (decide_eq_false h59) (by kernel_rfl)) ?_
         refine gx_k (.bool false) w18 ?_
         refine gx_nil ?_
         refine gx_thenN ?_
         refine hK58 _ _ ?_
         refine gx_no (by kernel_rfl) ?_
         refine gx_region ?_
         rcases if_in hE55 with ⟨h60, hE55⟩ | ⟨h60, hE55⟩
         ·refine gx_v (.bool true) w18 (run_boolE (decide_eq_true h60) (by kernel_rfl)) ?_
          refine gx_k (.bool true) w18 ?_
          refine gx_nil ?_
          refine gx_thenN ?_
          exact ⟨true, selfA_i (by kernel_rfl), (Option.some.inj hE55), hS19⟩
         ·refine gx_v (.bool false) w18 (run_boolE (decide_eq_false h60) (by kernel_rfl)) ?_
          refine gx_k (.bool false) w18 ?_
          refine gx_nil ?_
          refine gx_thenN ?_
          exact ⟨false, selfA_i (by kernel_rfl), (Option.some.inj hE55), hS19⟩
       ·rintro _ w50 ⟨b53, hq144, rfl, hS51⟩
        obtain ⟨u52, rfl⟩ := selfA_u hq144
        try dsimp only at hO56
        cases b53 with
        | true =>
         try dsimp only at hO56
         refine gx_yes (by kernel_rfl) ?_
         refine gx_region ?_
         refine gx_k (.int .u8 x35) w50 (gx_k (.int .u8 x35) w50 ?_)
         refine gx_nil ?_
         refine gx_blkN ?_
         refine gx_thenN ?_
         exact ⟨l22, x35, x25, x35, selfA_i (by kernel_rfl), (Option.some.inj hO56), hS51, hn21⟩
        | false =>
         try dsimp only at hO56
         refine gx_no (by kernel_rfl) ?_
         obtain ⟨c65, hE66, hO67⟩ := bind_in hO56
         refine gx_cut (fun a w => ∃ (b64 : Bool), selfA (fun u63 => ⟨((.slice A0 p0.length c0) :: (.int .u8 p1) :: undef :: undef :: (.int .u8 x23) :: (.int .u8 x24) :: (.int .i64 x25) :: (.int .u8 x35) :: (u20 8) :: (.int .u8 p1) :: (.int .i64 x25) :: (u52 11) :: (.int .i64 ((p0.length : Nat) : Int)) :: (.bool true) :: (u52 14) :: (.int .i64 x25) :: (.pointer (Option.map (fun (p : Addr) => p.add (Int.toNat x25 * 1)) A0)) :: (.int .u8 x35) :: (.int .u8 x35) :: (.bool false) :: dd u52 20 2 ((u20 22) :: (.bool b64) :: dd u63 24 2 (dd u20 26 38 ([])))).toArray, []⟩) a ∧ b64 = c65 ∧ St (foots [rowE .u8 23 A0 c0 p0]) w0 w [rowE .u8 23 A0 c0 l22]) ?_ ?_
         ·refine gx_seq (fun K68 hK69 => ?_)
          refine gx_region ?_
          rcases if_in hE66 with ⟨h70, hE66⟩ | ⟨h70, hE66⟩
          ·refine gx_v (.bool true) w50 (run_boolE (decide_eq_true h70) (by kernel_rfl)) ?_
           refine gx_k (.bool true) w50 ?_
           refine gx_nil ?_
           refine gx_thenN ?_
           refine hK69 _ _ ?_
           refine gx_yes (by kernel_rfl) ?_
           refine gx_pass ?_
           refine gx_thenN ?_
           exact ⟨true, selfA_i (by kernel_rfl), (Option.some.inj hE66), hS51⟩
          ·refine gx_v (.bool false) w50 (run_boolE (decide_eq_false h70) (by kernel_rfl)) ?_
           refine gx_k (.bool false) w50 ?_
           refine gx_nil ?_
           refine gx_thenN ?_
           refine hK69 _ _ ?_
           refine gx_no (by kernel_rfl) ?_
           refine gx_region ?_
           rcases if_in hE66 with ⟨h71, hE66⟩ | ⟨h71, hE66⟩
           ·refine gx_v (.bool true) w50 (run_boolE (decide_eq_true h71) (by kernel_rfl)) ?_
            refine gx_k (.bool true) w50 ?_
            refine gx_nil ?_
            refine gx_thenN ?_
            exact ⟨true, selfA_i (by kernel_rfl), (Option.some.inj hE66), hS51⟩
           ·refine gx_v (.bool false) w50 (run_boolE (decide_eq_false h71) (by kernel_rfl)) ?_
            refine gx_k (.bool false) w50 ?_
            refine gx_nil ?_
            refine gx_thenN ?_
            exact ⟨false, selfA_i (by kernel_rfl), (Option.some.inj hE66), hS51⟩
         ·rintro _ w61 ⟨b64, hq143, rfl, hS62⟩
          obtain ⟨u63, rfl⟩ := selfA_u hq143
          try dsimp only at hO67
          cases b64 with
          | true =>
           try dsimp only at hO67
           refine gx_yes (by kernel_rfl) ?_
           refine gx_region ?_
           refine gx_k (.int .u8 x24) w61 (gx_k (.int .u8 x35) w61 (gx_k (.slice A0 p0.length c0) w61 (gx_k (.int .i64 x25) w61 (gx_k (.int .i64 (IntKind.i64.wrap (x25 + 1))) w61 ?_))))
           have hP72 : St _ _ w61 ([] ++ [rowE .u8 23 A0 c0 l22]) := hS62
           obtain ⟨x74, hc73, hO67⟩ := bind_in hO67
           try dsimp only at hO67
           refine gx_call (pClassAt_R x74 w61) (by kernel_rfl) (by rw [← hn21] <;> kernel_rfl) (pClassAt_ok N l22 (IntKind.i64.wrap (x25 + 1)) A0 c0 _ hc73 w61 (hP72.vwB 0 rfl)) ?_
           rintro _ w75 ⟨rfl, hT77⟩
           have hS76 : St _ _ w75 [rowE .u8 23 A0 c0 l22] := hS62.take _ hT77
           have hP78 : St _ _ w75 ([] ++ [rowE .u8 23 A0 c0 l22]) := hS76
           obtain ⟨x80, hc79, hO67⟩ := bind_in hO67
           try dsimp only at hO67
           refine gx_c (pSep_R x80 w75) (pSep_ok N x24 x35 x74 _ hc79 w75 ) ?_
           rintro _ w81 ⟨rfl, hT83⟩
           have hS82 : St _ _ w81 [rowE .u8 23 A0 c0 l22] := hS76.take _ hT83
           refine gx_k (.int .u8 x80) w81 ?_
           refine gx_nil ?_
           refine gx_blkN ?_
           refine gx_thenN ?_
           exact ⟨l22, x23, x25, x80, selfA_i (by kernel_rfl), (Option.some.inj hO67), hS82, hn21⟩
          | false =>
           try dsimp only at hO67
           refine gx_no (by kernel_rfl) ?_
           refine gx_seq (fun K84 hK85 => ?_)
           refine gx_region ?_
           rcases if_in hO67 with ⟨h86, hO67⟩ | ⟨h86, hO67⟩
           ·refine gx_v (.bool true) w61 (run_boolE (decide_eq_true h86) (by kernel_rfl)) ?_
            refine gx_k (.bool true) w61 ?_
            refine gx_nil ?_
            refine gx_thenN ?_
            refine hK85 _ _ ?_
            refine gx_yes (by kernel_rfl) ?_
            refine gx_seq (fun K87 hK88 => ?_)
            refine gx_region ?_
            refine gx_k (.slice A0 p0.length c0) w61 (gx_k (.int .i64 x25) w61 ?_)
            have hP89 : St _ _ w61 ([] ++ [rowE .u8 23 A0 c0 l22]) := hS62
            obtain ⟨x91, hc90, hO67⟩ := bind_in hO67
            try dsimp only at hO67
            refine gx_call (pEndT_R x91 w61) (by kernel_rfl) (by rw [← hn21] <;> kernel_rfl) (pEndT_ok N l22 x25 A0 c0 _ hc90 w61 (hP89.vwB 0 rfl)) ?_
            rintro _ w92 ⟨rfl, hT94⟩
            have hS93 : St _ _ w92 [rowE .u8 23 A0 c0 l22] := hS62.take _ hT94
            refine gx_k (.int .i64 x91) w92 ?_
            refine gx_nil ?_
            refine gx_thenN ?_
            refine hK88 _ _ ?_
            obtain ⟨c99, hE100, hO101⟩ := bind_in hO67
            refine gx_cut (fun a w => ∃ (x98 : Int), selfA (fun u97 => ⟨((.slice A0 p0.length c0) :: (.int .u8 p1) :: undef :: undef :: (.int .u8 x23) :: (.int .u8 x24) :: (.int .i64 x25) :: (.int .u8 x98) :: (.int .i64 x91) :: (.int .u8 p1) :: (.int .i64 x25) :: (u52 11) :: (.int .i64 ((p0.length : Nat) : Int)) :: (.bool true) :: (u52 14) :: (.int .i64 x25) :: (.pointer (Option.map (fun (p : Addr) => p.add (Int.toNat x25 * 1)) A0)) :: (.int .u8 x35) :: (.int .u8 x35) :: (.bool false) :: dd u52 20 2 ((u20 22) :: (.bool false) :: dd u63 24 2 (dd u20 26 7 ((.bool true) :: (.bool true) :: (u97 35) :: (.int .i64 x25) :: (.int .i64 x91) :: dd u97 38 8 (dd u20 46 18 ([])))))).toArray, []⟩) a ∧ x98 = c99 ∧ St (foots [rowE .u8 23 A0 c0 p0]) w0 w [rowE .u8 23 A0 c0 l22]) ?_ ?_
            ·refine gx_seq (fun K102 hK103 => ?_)
             refine gx_region ?_
             refine gx_k (.int .u8 x24) w92 ?_
             rcases if_in hE100 with ⟨h104, hE100⟩ | ⟨h104, hE100⟩
             ·refine gx_v (.bool true) w92 (run_boolE (decide_eq_true h104) (by kernel_rfl)) ?_
              refine gx_k (.bool true) w92 (gx_o (gx_o (gx_o (gx_o (gx_k (.bool true) w92 ?_)))))
              refine gx_nil ?_
              refine gx_thenN ?_
              refine hK103 _ _ ?_
              refine gx_yes (by kernel_rfl) ?_
              refine gx_region ?_
              refine gx_k (.int .u8 4) w92 ?_
              refine gx_nil ?_
              refine gx_thenN ?_
              exact ⟨4, selfA_i (by kernel_rfl), (Option.some.inj hE100), hS93⟩
             ·refine gx_v (.bool false) w92 (run_boolE (decide_eq_false h104) (by kernel_rfl)) ?_
              refine gx_k (.bool false) w92 (gx_k (.slice A0 p0.length c0) w92 (gx_k (.int .i64 x91) w92 ?_))
              have hP105 : St _ _ w92 ([] ++ [rowE .u8 23 A0 c0 l22]) := hS93
              obtain ⟨x107, hc106, hE100⟩ := bind_in hE100
              try dsimp only at hE100
              refine gx_call (pClassAt_R x107 w92) (by kernel_rfl) (by rw [← hn21] <;> kernel_rfl) (pClassAt_ok N l22 x91 A0 c0 _ hc106 w92 (hP105.vwB 0 rfl)) ?_
              rintro _ w108 ⟨rfl, hT110⟩
              have hS109 : St _ _ w108 [rowE .u8 23 A0 c0 l22] := hS93.take _ hT110
              rcases if_in hE100 with ⟨h111, hE100⟩ | ⟨h111, hE100⟩
              ·refine gx_v (.bool true) w108 (run_boolE (decide_eq_true h111) (by kernel_rfl)) ?_
               refine gx_k (.bool true) w108 ?_
               refine gx_nil ?_
               refine gx_thenN ?_
               refine hK103 _ _ ?_
               refine gx_yes (by kernel_rfl) ?_
               refine gx_region ?_
               refine gx_k (.int .u8 4) w108 ?_
               refine gx_nil ?_
               refine gx_thenN ?_
               exact ⟨4, selfA_i (by kernel_rfl), (Option.some.inj hE100), hS109⟩
              ·refine gx_v (.bool false) w108 (run_boolE (decide_eq_false h111) (by kernel_rfl)) ?_
               refine gx_k (.bool false) w108 ?_
               refine gx_nil ?_
               refine gx_thenN ?_
               refine hK103 _ _ ?_
               refine gx_no (by kernel_rfl) ?_
               refine gx_pass ?_
               refine gx_thenN ?_
               exact ⟨x35, selfA_i (by kernel_rfl), (Option.some.inj hE100), hS109⟩
            ·rintro _ w95 ⟨x98, hq142, rfl, hS96⟩
             obtain ⟨u97, rfl⟩ := selfA_u hq142
             try dsimp only at hO101
             refine gx_seq (fun K112 hK113 => ?_)
             refine gd_start (fun w => St (foots [rowE .u8 23 A0 c0 p0]) w0 w []) 8 #[false, false, false, false, false, false, false, false] (by kernel_rfl) (by kernel_rfl) ?_
             have hS115 := hS96.drew
             generalize w95.drew = w114 at hS115 ⊢
             refine gd1 0 { dst := some 46, op := _, type := _, pos := _, after := _, guard := _ } (.slice A0 p0.length c0) rfl (hS115.pick [] rfl rfl) (fun w hSw => by kernel_rfl) ?_
             refine gd1 1 { dst := some 47, op := _, type := _, pos := _, after := _, guard := _ } (.int .i64 x25) rfl (hS115.pick [] rfl rfl) (fun w hSw => by kernel_rfl) ?_
             refine gd1 2 { dst := some 48, op := _, type := _, pos := _, after := _, guard := _ } (.int .i64 x91) rfl (hS115.pick [] rfl rfl) (fun w hSw => by kernel_rfl) ?_
             obtain ⟨l116, hx117, hO101⟩ := bind_in hO101
             obtain ⟨A118, c119, hA120⟩ := cut_is A0 (Int.toNat x25) (Int.toNat x91) c0
             rw [← cutx_len hx117] at hA120
             refine gd1 3 { dst := some 49, op := _, type := _, pos := _, after := _, guard := _ } (.slice A118 l116.length c119) rfl (hS115.pick [] rfl rfl) (fun w hSw => run_cut (TE := 23) (n := p0.length) (l := Int.toNat x25) (h := Int.toNat x91) (some (.int .i64 x25)) (some (.int .i64 x91)) rfl (by kernel_rfl) (by kernel_rfl) (by kernel_rfl) (by kernel_rfl) (fun _ => by kernel_rfl) (bnd_lh (cutx_in hx117).1 (cutx_in hx117).2.1 (Int.le_trans (cutx_in hx117).2.2.1 (by exact_mod_cast num_room (hS115.row 0 rfl).1))) hA120) ?_
             refine gd1 4 { dst := some 50, op := _, type := _, pos := _, after := _, guard := _ } (.int .u8 x98) rfl (hS115.pick [] rfl rfl) (fun w hSw => by kernel_rfl) ?_
             refine gd1 5 { dst := some 51, op := _, type := _, pos := _, after := _, guard := _ } (.int .u8 x23) rfl (hS115.pick [] rfl rfl) (fun w hSw => by kernel_rfl) ?_
             have hP122 : St _ _ w114 ([] ++ [rowE .u8 23 A0 c0 l22]) := hS115
             obtain ⟨x124, hc123, hO101⟩ := bind_in hO101
             try dsimp only at hO101
             refine gdC 6 { dst := some 52, op := _, type := _, pos := _, after := _, guard := _ } (pSett_R x124 w114) rfl (by kernel_rfl) (pSett_ok N x98 x23 _ hc123 w114 ) ?_
             rintro _ w125 ⟨rfl, hT127⟩
             have hS126 : St _ _ w125 [rowE .u8 23 A0 c0 l22] := hS115.take _ hT127
             refine ⟨(hS126.pick [] rfl rfl), ?_⟩
             have hS128 : St _ _ w125 [pceE .u8 23 A0 c0 (List.take (Int.toNat x25) l22) (List.drop (Int.toNat x91) l22) l116] := hS126.asE 0 rfl (pce_of hx117)
             have hP129 : St _ _ w125 ([pceE .u8 23 A0 c0 (List.take (Int.toNat x25) l22) (List.drop (Int.toNat x91) l22) l116] ++ []) := hS128
             obtain ⟨l131, hc130, hO101⟩ := bind_in hO101
             try dsimp only at hO101
             refine gdC 7 { dst := some 53, op := _, type := _, pos := _, after := _, guard := _ } (pFill_R l116 x124 A0 c0 A118 c119 (List.take (Int.toNat x25) l22) (List.drop (Int.toNat x91) l22) l131 w125) rfl (by kernel_rfl) (pFill_ok N l116 x124 A0 c0 A118 c119 (List.take (Int.toNat x25) l22) (List.drop (Int.toNat x91) l22) _ hc130 w125 (pce_at hx117 hA120) hP129.part) ?_
             rintro _ w134 ⟨rfl, hT136, hl132⟩
             have hS135 : St _ _ w134 [pceE .u8 23 A0 c0 (List.take (Int.toNat x25) l22) (List.drop (Int.toNat x91) l22) l131] := hP129.lendN _ hT136
             obtain ⟨l133, hp137, hO101⟩ := bind_in hO101
             have hS138 : St _ _ w134 [rowE .u8 23 A0 c0 l133] := hS135.asE 0 rfl (pce_to hp137)
             refine ⟨(hS138.pick [] rfl rfl), ?_⟩
             refine gd_done (by kernel_rfl) ?_
             refine gx_thenN ?_
             refine hK113 _ _ ?_
             refine gx_seq (fun K139 hK140 => ?_)
             refine gx_region ?_
             refine gx_k (.int .i64 x91) w134 (gx_k (.int .i64 x91) w134 (gx_k (.int .u8 6) w134 ?_))
             refine gx_nil ?_
             refine gx_thenN ?_
             refine hK140 _ _ ?_
             refine gx_goto ?_
             refine gx_blkG ?_
             refine gx_thenG ?_
             obtain ⟨_, hB141, hO101⟩ := bind_in hO101
             obtain rfl := Option.some.inj hO101
             try dsimp only at hO47
             refine gx_blkG ?_
             refine gx_thenG ?_
             refine gx_blkG ?_
             obtain rfl := Option.some.inj hO47
             refine gx_jmpG ?_
             exact ⟨k15, Nat.lt_succ_self k15, l133, x23, 6, x91, selfA_i (by kernel_rfl), hB141, hS138, (hn21.trans (putx_len hx117 hl132 hp137).symm)⟩
           ·refine gx_v (.bool false) w61 (run_boolE (decide_eq_false h86) (by kernel_rfl)) ?_
            refine gx_k (.bool false) w61 ?_
            refine gx_nil ?_
            refine gx_thenN ?_
            refine hK85 _ _ ?_
            refine gx_no (by kernel_rfl) ?_
            refine gx_pass ?_
            refine gx_blkN ?_
            refine gx_thenN ?_
            exact ⟨l22, x23, x25, x35, selfA_i (by kernel_rfl), (Option.some.inj hO67), hS62, hn21⟩
      ·rintro _ w37 ⟨l41, x42, x43, x44, hq159, rfl, hS38, hn40⟩
       obtain ⟨u39, rfl⟩ := selfA_u hq159
       try dsimp only at hO47
       refine gx_seq (fun K145 hK146 => ?_)
       refine gx_region ?_
       refine gx_k (.slice A0 p0.length c0) w37 (gx_k (.int .i64 x43) w37 (gx_k (.int .u8 x44) w37 (gx_k (.int .u8 x42) w37 ?_)))
       have hP147 : St _ _ w37 ([] ++ [rowE .u8 23 A0 c0 l41]) := hS38
       obtain ⟨x149, hc148, hO47⟩ := bind_in hO47
       try dsimp only at hO47
       refine gx_c (pSett_R x149 w37) (pSett_ok N x44 x42 _ hc148 w37 ) ?_
       rintro _ w150 ⟨rfl, hT152⟩
       have hS151 : St _ _ w150 [rowE .u8 23 A0 c0 l41] := hS38.take _ hT152
       obtain ⟨x153, hx154, hO47⟩ := bind_in hO47
       refine gx_v (.pointer (Option.map (fun (p : Addr) => p.add (Int.toNat x43 * 1)) A0)) w150 (run_ixaddr (E := 23) (s := 1) (k := .i64) (c := c0) rfl (by kernel_rfl) (by kernel_rfl) (by kernel_rfl) (fun _ => by kernel_rfl) (ix_in hx154).1 (lt_len hn40 (ix_in hx154).2.1) (nil_len hn40 (num_nil (hS151.row 0 rfl).1))) ?_
       obtain ⟨l157, hx158, hO47⟩ := bind_in hO47
       refine gx_s (st_storeix rfl (by kernel_rfl) (by kernel_rfl) (fun _ => by kernel_rfl) hS151 0 rfl hx158) ?_
       rintro w155 hS156
       have hS156 : St _ _ w155 [rowE .u8 23 A0 c0 l157] := hS156
       refine gx_nil ?_
       refine gx_thenN ?_
       refine hK146 _ _ ?_
       refine gx_region ?_
       refine gx_k (.int .i64 x43) w155 (gx_k (.int .i64 (IntKind.i64.wrap (x43 + 1))) w155 (gx_k (.int .u8 x44) w155 (gx_k (.int .i64 (IntKind.i64.wrap (x43 + 1))) w155 (gx_k (.int .u8 x44) w155 ?_))))
       refine gx_nil ?_
       refine gx_blkN ?_
       refine gx_thenN ?_
       exact ⟨k26, Nat.lt_succ_self k26, l157, x42, x44, (IntKind.i64.wrap (x43 + 1)), selfA_i (by kernel_rfl), hO47, hS156, (hn40.trans (setx_len hx158).symm)⟩
     ·refine gx_v (.bool false) w18 (run_boolE (decide_eq_false h32) (by kernel_rfl)) ?_
      refine gx_nil ?_
      refine gx_thenN ?_
      refine hK31 _ _ ?_
      refine gx_no (by kernel_rfl) ?_
      refine gx_exit ?_
      refine gx_thenE ?_
      refine gx_thenE ?_
      refine gx_blkE ?_
      refine gx_jmpN ?_
      obtain rfl := Option.some.inj hL27
      exact gx_finN (.tuple #[]) (by kernel_rfl) (by kernel_rfl) ⟨_, rfl, rfl, hS19, (hn21).symm⟩

def pNeut_L1 (N : Nat) (p0 : List Int) (p1 : Int) (p3 : Int) : Nat → (List Int) → Int → Int → Option (List Int)
 | 0, _, _, _ => none
 | k12+1, l9, x10, x11 => (if x11 < ((p0.length : Nat) : Int) then ((pEndN N l9 x11).bind fun x25 => (((if x25 < ((p0.length : Nat) : Int) then ((ix l9 x25).bind fun x41 => ((pDir N x41).bind fun x45 => some (x45))) else some (p3)) : Option (Int)).bind fun x34 => ((cutx l9 x11 x25).bind fun l53 => ((pBetw N x10 x34 p1).bind fun x61 => ((pFill N l53 x61).bind fun l68 => ((putx l9 x11 x25 l68).bind fun l70 => pNeut_L1 N p0 p1 p3 k12 l70 x34 (IntKind.i64.wrap (x25 + 1)))))))) else some l9)
def pNeut (N : Nat) (p0 : List Int) (p1 : Int) (p2 : Int) (p3 : Int) : Option (List Int) :=
 pNeut_L1 N p0 p1 p3 N p0 p2 0

set_option linter.unusedVariables false in
def pNeut_R (p0 : List Int) (p1 : Int) (p2 : Int) (p3 : Int) (A0 : Option Addr) (c0 : Nat) (r : List Int) (w0 : World) (v : Value) (w : World) : Prop := v = .tuple #[] ∧ St (foots [rowE .u8 23 A0 c0 p0]) w0 w [rowE .u8 23 A0 c0 r] ∧ r.length = p0.length

set_option maxRecDepth 100000 in
set_option maxHeartbeats 4000000 in
theorem pNeut_ok (N : Nat) (p0 : List Int) (p1 : Int) (p2 : Int) (p3 : Int) (A0 : Option Addr) (c0 : Nat) (r : List Int) (hF : pNeut N p0 p1 p2 p3 = some r) (w0 : World) (hl : St (foots [rowE .u8 23 A0 c0 p0]) w0 w0 [rowE .u8 23 A0 c0 p0]) :
  Calls Try.prog 38 #[.slice A0 p0.length c0, .int .u8 p1, .int .u8 p2, .int .u8 p3] w0 fun e w => ∃ v, e = .returned v ∧ pNeut_R p0 p1 p2 p3 A0 c0 r w0 v w := by
 have hS0 := hl
 unfold pNeut at hF
 refine calls_of Try.func38 rfl ⟨((.slice A0 p0.length c0) :: (.int .u8 p1) :: (.int .u8 p2) :: (.int .u8 p3) :: un 39 ([])).toArray, []⟩ (by kernel_rfl) ?_
 refine gx_seq (fun K1 hK2 => ?_)
 refine gx_region ?_
 refine gx_k (.int .u8 p2) w0 (gx_k (.int .u8 p2) w0 ?_)
 refine gx_nil ?_
 refine gx_thenN ?_
 refine hK2 _ _ ?_
 refine gx_seq (fun K3 hK4 => ?_)
 refine gx_region ?_
 refine gx_k (.int .i64 0) w0 ?_
 refine gx_nil ?_
 refine gx_thenN ?_
 refine hK4 _ _ ?_
 refine gx_block ?_
 refine gx_loop (fun k a w => ∃ (l9 : List Int) (x10 : Int) (x11 : Int), selfA (fun u7 => ⟨((.slice A0 p0.length c0) :: (.int .u8 p1) :: (.int .u8 p2) :: (.int .u8 p3) :: un 4 ((.int .u8 x10) :: (.int .i64 x11) :: dd u7 10 2 ((.int .u8 p2) :: dd u7 13 30 ([])))).toArray, []⟩) a ∧ pNeut_L1 N p0 p1 p3 k l9 x10 x11 = some r ∧ St (foots [rowE .u8 23 A0 c0 p0]) w0 w [rowE .u8 23 A0 c0 l9] ∧ p0.length = l9.length) N ?_ ?_
 ·exact ⟨p0, p2, 0, selfA_i (by kernel_rfl), hF, hS0, rfl⟩
 ·rintro k12 _ w5 ⟨l9, x10, x11, hq77, hL13, hS6, hn8⟩
  obtain ⟨u7, rfl⟩ := selfA_u hq77
  cases k12 with
  | zero => cases hL13
  | succ k12 =>
   first | rw [pNeut_L1] at hL13 | unfold pNeut_L1 at hL13
   refine gx_seq (fun K14 hK15 => ?_)
   refine gx_seq (fun K16 hK17 => ?_)
   refine gx_region ?_
   refine gx_k (.int .i64 x11) w5 (gx_k (.slice A0 p0.length c0) w5 (gx_k (.int .i64 ((p0.length : Nat) : Int)) w5 ?_))
   rcases if_in hL13 with ⟨h18, hL13⟩ | ⟨h18, hL13⟩
   ·refine gx_v (.bool true) w5 (run_boolE (decide_eq_true h18) (by kernel_rfl)) ?_
    refine gx_nil ?_
    refine gx_thenN ?_
    refine hK17 _ _ ?_
    refine gx_yes (by kernel_rfl) ?_
    refine gx_pass ?_
    refine gx_thenN ?_
    refine hK15 _ _ ?_
    refine gx_seq (fun K19 hK20 => ?_)
    refine gx_block ?_
    refine gx_seq (fun K21 hK22 => ?_)
    refine gx_region ?_
    refine gx_k (.slice A0 p0.length c0) w5 (gx_k (.int .i64 x11) w5 ?_)
    have hP23 : St _ _ w5 ([] ++ [rowE .u8 23 A0 c0 l9]) := hS6
    obtain ⟨x25, hc24, hL13⟩ := bind_in hL13
    try dsimp only at hL13
    refine gx_call (pEndN_R x25 w5) (by kernel_rfl) (by rw [← hn8] <;> kernel_rfl) (pEndN_ok N l9 x11 A0 c0 _ hc24 w5 (hP23.vwB 0 rfl)) ?_
    rintro _ w26 ⟨rfl, hT28⟩
    have hS27 : St _ _ w26 [rowE .u8 23 A0 c0 l9] := hS6.take _ hT28
    refine gx_k (.int .i64 x25) w26 ?_
    refine gx_nil ?_
    refine gx_thenN ?_
    refine hK22 _ _ ?_
    refine gx_seq (fun K29 hK30 => ?_)
    refine gx_region ?_
    refine gx_k (.int .u8 p3) w26 (gx_k (.int .u8 p3) w26 ?_)
    refine gx_nil ?_
    refine gx_thenN ?_
    refine hK30 _ _ ?_
    obtain ⟨c35, hE36, hO37⟩ := bind_in hL13
    refine gx_cut (fun a w => ∃ (x34 : Int), selfA (fun u33 => ⟨((.slice A0 p0.length c0) :: (.int .u8 p1) :: (.int .u8 p2) :: (.int .u8 p3) :: un 4 ((.int .u8 x10) :: (.int .i64 x11) :: (.int .i64 x25) :: (.int .u8 x34) :: (.int .u8 p2) :: (.int .i64 x11) :: (u33 14) :: (.int .i64 ((p0.length : Nat) : Int)) :: (.bool true) :: dd u7 17 2 ((u33 19) :: (.int .i64 x11) :: (.int .i64 x25) :: (.int .u8 p3) :: dd u33 23 9 (dd u7 32 11 ([]))))).toArray, []⟩) a ∧ x34 = c35 ∧ St (foots [rowE .u8 23 A0 c0 p0]) w0 w [rowE .u8 23 A0 c0 l9]) ?_ ?_
    ·refine gx_seq (fun K38 hK39 => ?_)
     refine gx_region ?_
     refine gx_k (.int .i64 x25) w26 (gx_k (.slice A0 p0.length c0) w26 (gx_k (.int .i64 ((p0.length : Nat) : Int)) w26 ?_))
     rcases if_in hE36 with ⟨h40, hE36⟩ | ⟨h40, hE36⟩
     ·refine gx_v (.bool true) w26 (run_boolE (decide_eq_true h40) (by kernel_rfl)) ?_
      refine gx_nil ?_
      refine gx_thenN ?_
      refine hK39 _ _ ?_
      refine gx_yes (by kernel_rfl) ?_
      refine gx_region ?_
      refine gx_k (.slice A0 p0.length c0) w26 (gx_k (.int .i64 x25) w26 ?_)
      obtain ⟨x41, hx42, hE36⟩ := bind_in hE36
      refine gx_v (.pointer (Option.map (fun (p : Addr) => p.add (Int.toNat x25 * 1)) A0)) w26 (run_ixaddr (E := 23) (s := 1) (k := .i64) (c := c0) rfl (by kernel_rfl) (by kernel_rfl) (by kernel_rfl) (fun _ => by kernel_rfl) (ix_in hx42).1 (lt_len hn8 (ix_in hx42).2.1) (nil_len hn8 (num_nil (hS27.row 0 rfl).1))) ?_
      refine gx_v (.int .u8 x41) w26 (run_loadix rfl (by kernel_rfl) (fun _ => by kernel_rfl) (hS27.row 0 rfl).1 hx42) ?_
      have hP43 : St _ _ w26 ([] ++ [rowE .u8 23 A0 c0 l9]) := hS27
      obtain ⟨x45, hc44, hE36⟩ := bind_in hE36
      try dsimp only at hE36
      refine gx_c (pDir_R x45 w26) (pDir_ok N x41 _ hc44 w26 ) ?_
      rintro _ w46 ⟨rfl, hT48⟩
      have hS47 : St _ _ w46 [rowE .u8 23 A0 c0 l9] := hS27.take _ hT48
      refine gx_k (.int .u8 x45) w46 ?_
      refine gx_nil ?_
      refine gx_thenN ?_
      exact ⟨x45, selfA_i (by kernel_rfl), (Option.some.inj hE36), hS47⟩
     ·refine gx_v (.bool false) w26 (run_boolE (decide_eq_false h40) (by kernel_rfl)) ?_
      refine gx_nil ?_
      refine gx_thenN ?_
      refine hK39 _ _ ?_
      refine gx_no (by kernel_rfl) ?_
      refine gx_pass ?_
      refine gx_thenN ?_
      exact ⟨p3, selfA_i (by kernel_rfl), (Option.some.inj hE36), hS27⟩
    ·rintro _ w31 ⟨x34, hq76, rfl, hS32⟩
     obtain ⟨u33, rfl⟩ := selfA_u hq76
     try dsimp only at hO37
     refine gx_seq (fun K49 hK50 => ?_)
     refine gd_start (fun w => St (foots [rowE .u8 23 A0 c0 p0]) w0 w []) 9 #[false, false, false, false, false, false, false, false, false] (by kernel_rfl) (by kernel_rfl) ?_
     have hS52 := hS32.drew
     generalize w31.drew = w51 at hS52 ⊢
     refine gd1 0 { dst := some 32, op := _, type := _, pos := _, after := _, guard := _ } (.slice A0 p0.length c0) rfl (hS52.pick [] rfl rfl) (fun w hSw => by kernel_rfl) ?_
     refine gd1 1 { dst := some 33, op := _, type := _, pos := _, after := _, guard := _ } (.int .i64 x11) rfl (hS52.pick [] rfl rfl) (fun w hSw => by kernel_rfl) ?_
     refine gd1 2 { dst := some 34, op := _, type := _, pos := _, after := _, guard := _ } (.int .i64 x25) rfl (hS52.pick [] rfl rfl) (fun w hSw => by kernel_rfl) ?_
     obtain ⟨l53, hx54, hO37⟩ := bind_in hO37
     obtain ⟨A55, c56, hA57⟩ := cut_is A0 (Int.toNat x11) (Int.toNat x25) c0
     rw [← cutx_len hx54] at hA57
     refine gd1 3 { dst := some 35, op := _, type := _, pos := _, after := _, guard := _ } (.slice A55 l53.length c56) rfl (hS52.pick [] rfl rfl) (fun w hSw => run_cut (TE := 23) (n := p0.length) (l := Int.toNat x11) (h := Int.toNat x25) (some (.int .i64 x11)) (some (.int .i64 x25)) rfl (by kernel_rfl) (by kernel_rfl) (by kernel_rfl) (by kernel_rfl) (fun _ => by kernel_rfl) (bnd_lh (cutx_in hx54).1 (cutx_in hx54).2.1 (Int.le_trans (cutx_in hx54).2.2.1 (by exact_mod_cast num_room (hS52.row 0 rfl).1))) hA57) ?_
     refine gd1 4 { dst := some 36, op := _, type := _, pos := _, after := _, guard := _ } (.int .u8 x10) rfl (hS52.pick [] rfl rfl) (fun w hSw => by kernel_rfl) ?_
     refine gd1 5 { dst := some 37, op := _, type := _, pos := _, after := _, guard := _ } (.int .u8 x34) rfl (hS52.pick [] rfl rfl) (fun w hSw => by kernel_rfl) ?_
     refine gd1 6 { dst := some 38, op := _, type := _, pos := _, after := _, guard := _ } (.int .u8 p1) rfl (hS52.pick [] rfl rfl) (fun w hSw => by kernel_rfl) ?_
     have hP59 : St _ _ w51 ([] ++ [rowE .u8 23 A0 c0 l9]) := hS52
     obtain ⟨x61, hc60, hO37⟩ := bind_in hO37
     try dsimp only at hO37
     refine gdC 7 { dst := some 39, op := _, type := _, pos := _, after := _, guard := _ } (pBetw_R x61 w51) rfl (by kernel_rfl) (pBetw_ok N x10 x34 p1 _ hc60 w51 ) ?_
     rintro _ w62 ⟨rfl, hT64⟩
     have hS63 : St _ _ w62 [rowE .u8 23 A0 c0 l9] := hS52.take _ hT64
     refine ⟨(hS63.pick [] rfl rfl), ?_⟩
     have hS65 : St _ _ w62 [pceE .u8 23 A0 c0 (List.take (Int.toNat x11) l9) (List.drop (Int.toNat x25) l9) l53] := hS63.asE 0 rfl (pce_of hx54)
     have hP66 : St _ _ w62 ([pceE .u8 23 A0 c0 (List.take (Int.toNat x11) l9) (List.drop (Int.toNat x25) l9) l53] ++ []) := hS65
     obtain ⟨l68, hc67, hO37⟩ := bind_in hO37
     try dsimp only at hO37
     refine gdC 8 { dst := some 40, op := _, type := _, pos := _, after := _, guard := _ } (pFill_R l53 x61 A0 c0 A55 c56 (List.take (Int.toNat x11) l9) (List.drop (Int.toNat x25) l9) l68 w62) rfl (by kernel_rfl) (pFill_ok N l53 x61 A0 c0 A55 c56 (List.take (Int.toNat x11) l9) (List.drop (Int.toNat x25) l9) _ hc67 w62 (pce_at hx54 hA57) hP66.part) ?_
     rintro _ w71 ⟨rfl, hT73, hl69⟩
     have hS72 : St _ _ w71 [pceE .u8 23 A0 c0 (List.take (Int.toNat x11) l9) (List.drop (Int.toNat x25) l9) l68] := hP66.lendN _ hT73
     obtain ⟨l70, hp74, hO37⟩ := bind_in hO37
     have hS75 : St _ _ w71 [rowE .u8 23 A0 c0 l70] := hS72.asE 0 rfl (pce_to hp74)
     refine ⟨(hS75.pick [] rfl rfl), ?_⟩
     refine gd_done (by kernel_rfl) ?_
     refine gx_thenN ?_
     refine hK50 _ _ ?_
     refine gx_region ?_
     refine gx_k (.int .i64 x25) w71 (gx_k (.int .u8 x34) w71 (gx_k (.int .i64 x25) w71 (gx_k (.int .u8 x34) w71 ?_)))
     refine gx_nil ?_
     refine gx_blkN ?_
     refine gx_thenN ?_
     refine hK20 _ _ ?_
     refine gx_region ?_
     refine gx_k (.int .i64 x25) w71 (gx_k (.int .i64 (IntKind.i64.wrap (x25 + 1))) w71 (gx_k (.int .i64 (IntKind.i64.wrap (x25 + 1))) w71 ?_))
     refine gx_nil ?_
     refine gx_thenN ?_
     exact ⟨k12, Nat.lt_succ_self k12, l70, x34, (IntKind.i64.wrap (x25 + 1)), selfA_i (by kernel_rfl), hO37, hS75, (hn8.trans (putx_len hx54 hl69 hp74).symm)⟩
   ·refine gx_v (.bool false) w5 (run_boolE (decide_eq_false h18) (by kernel_rfl)) ?_
    refine gx_nil ?_
    refine gx_thenN ?_
    refine hK17 _ _ ?_
    refine gx_no (by kernel_rfl) ?_
    refine gx_exit ?_
    refine gx_thenE ?_
    refine gx_thenE ?_
    refine gx_blkE ?_
    obtain rfl := Option.some.inj hL13
    exact gx_finN (.tuple #[]) (by kernel_rfl) (by kernel_rfl) ⟨_, rfl, rfl, hS6, (hn8).symm⟩

end Go.Proofs.Ytdpcaidhpccaiaa

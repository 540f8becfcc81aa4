/-
  ResolveWeakAgain, walked.
-/
import Derived.Test.YtdpcaidhpccaiaaF0
namespace Go.Proofs.Ytdpcaidhpccaiaa
open Go Go.RowKit
set_option linter.unusedVariables false

def fWeakAgain_L1 (N : Nat) (p0 : List Int) : Nat → (List Int) → Int → Option (List Int)
 | 0, _, _ => none
 | k47+1, l45, x46 => (if x46 < ((p0.length : Nat) : Int) then ((((ix p0 x46).bind fun x63 => (((if x63 = 1 then some (true) else ((ix p0 x46).bind fun x74 => (if x74 = 2 then some (true) else some (false)))) : Option (Bool)).bind fun b68 => (((match b68 with | true => some (true) | false => ((ix p0 x46).bind fun x85 => (if x85 = 7 then some (true) else some (false)))) : Option (Bool)).bind fun b80 => (match b80 with | true => some (true) | false => ((ix p0 x46).bind fun x88 => (if x88 ≥ 11 then ((ix p0 x46).bind fun x91 => (if x91 ≤ 14 then some (true) else some (false))) else some (false))))))) : Option (Bool)).bind fun b59 => (match b59 with | true => ((ix p0 x46).bind fun x94 => ((apx l45 ([x94])).bind fun l98 => fWeakAgain_L1 N p0 k47 l98 (IntKind.i64.wrap (x46 + 1)))) | false => fWeakAgain_L1 N p0 k47 l45 (IntKind.i64.wrap (x46 + 1)))) else some (l45))
def fWeakAgain (N : Nat) (p0 : List Int) (p1 : Int) : Option (Bool) :=
 (if ((p0.length : Nat) : Int) > 3000 then ((kArabic N ).bind fun b12 => some b12) else ((pWeak N p0 p1).bind fun l20 => ((fWeakAgain_L1 N p0 N ([]) 0 : Option (List Int)).bind fun l33 => ((pWeak N l20 p1).bind fun l111 => ((kIs N l111 l20).bind fun b119 => (match b119 with | true => ((pWeak N l33 p1).bind fun l125 => ((kIs N l125 l33).bind fun b133 => (match b133 with | true => ((kArabic N ).bind fun b139 => some b139) | false => some false))) | false => some false))))))

set_option linter.unusedVariables false in
def fWeakAgain_R (r : Bool) (w0 : World) (v : Value) (w : World) : Prop := v = .bool r ∧ St [] w0 w []

set_option maxRecDepth 100000 in
set_option maxHeartbeats 4000000 in
theorem fWeakAgain_ok (N : Nat) (p0 : List Int) (p1 : Int) (A0 : Option Addr) (c0 : Nat) (r : Bool) (hF : fWeakAgain N p0 p1 = some r) (w0 : World) (hv0 : Vw [] .u8 w0 A0 c0 p0) :
  Calls Try.prog 7 #[.slice A0 p0.length c0, .int .u8 p1] w0 fun e w => ∃ v, e = .returned v ∧ fWeakAgain_R r w0 v w := by
 have hS0 := St.start w0
 unfold fWeakAgain at hF
 refine calls_of Try.func7 rfl ⟨((.slice A0 p0.length c0) :: (.int .u8 p1) :: un 74 ([])).toArray, []⟩ (by kernel_rfl) ?_
 refine gx_seq (fun K1 hK2 => ?_)
 refine gx_region ?_
 refine gx_k (.bool false) w0 ?_
 refine gx_nil ?_
 refine gx_thenN ?_
 refine hK2 _ _ ?_
 refine gx_seq (fun K3 hK4 => ?_)
 refine gx_seq (fun K5 hK6 => ?_)
 refine gx_region ?_
 refine gx_k (.slice A0 p0.length c0) w0 (gx_k (.int .i64 ((p0.length : Nat) : Int)) w0 ?_)
 rcases if_in hF with ⟨h7, hF⟩ | ⟨h7, hF⟩
 ·refine gx_v (.bool true) w0 (run_boolE (decide_eq_true h7) (by kernel_rfl)) ?_
  refine gx_nil ?_
  refine gx_thenN ?_
  refine hK6 _ _ ?_
  refine gx_yes (by kernel_rfl) ?_
  refine gx_seq (fun K8 hK9 => ?_)
  refine gx_region ?_
  have hP10 : St _ _ w0 ([] ++ []) := hS0
  obtain ⟨b12, hc11, hF⟩ := bind_in hF
  try dsimp only at hF
  refine gx_c (kArabic_R b12 w0) (kArabic_ok N  _ hc11 w0 ) ?_
  rintro _ w13 ⟨rfl, hT15⟩
  have hS14 : St _ _ w13 [] := hS0.take _ hT15
  refine gx_k (.bool b12) w13 ?_
  refine gx_nil ?_
  refine gx_thenN ?_
  refine hK9 _ _ ?_
  refine gx_ret ?_
  refine gx_thenR ?_
  obtain rfl := Option.some.inj hF
  exact gx_fin (.bool b12) (by kernel_rfl) (by kernel_rfl) ⟨_, rfl, rfl, hS14⟩
 ·refine gx_v (.bool false) w0 (run_boolE (decide_eq_false h7) (by kernel_rfl)) ?_
  refine gx_nil ?_
  refine gx_thenN ?_
  refine hK6 _ _ ?_
  refine gx_no (by kernel_rfl) ?_
  refine gx_pass ?_
  refine gx_thenN ?_
  refine hK4 _ _ ?_
  refine gx_seq (fun K16 hK17 => ?_)
  refine gx_region ?_
  refine gx_k (.slice A0 p0.length c0) w0 (gx_k (.int .u8 p1) w0 ?_)
  have hP18 : St _ _ w0 ([] ++ []) := hS0
  obtain ⟨l20, hc19, hF⟩ := bind_in hF
  try dsimp only at hF
  refine gx_c (pWeak_R l20 w0) (pWeak_ok N p0 p1 A0 c0 _ hc19 w0 (hP18.vwA hv0)) ?_
  rintro _ w23 ⟨A21, c22, rfl, hT25⟩
  have hS24 : St _ _ w23 [rowE .u8 23 A21 c22 l20] := hS0.take _ hT25
  refine gx_k (.slice A21 l20.length c22) w23 ?_
  refine gx_nil ?_
  refine gx_thenN ?_
  refine hK17 _ _ ?_
  refine gx_seq (fun K26 hK27 => ?_)
  refine gx_region ?_
  refine gx_k (.slice none 0 0) w23 ?_
  refine gx_nil ?_
  refine gx_thenN ?_
  refine hK27 _ _ ?_
  obtain ⟨c34, hE35, hO36⟩ := bind_in hF
  refine gx_cut (fun a w => ∃ (l33 : List Int) (A31 : Option Addr) (c32 : Nat), selfA (fun u30 => ⟨((u30 0) :: (.int .u8 p1) :: undef :: undef :: (.bool false) :: (.slice A21 l20.length c22) :: (.slice A31 l33.length c32) :: dd u30 7 2 ((.int .i64 ((p0.length : Nat) : Int)) :: (.bool false) :: undef :: (u30 12) :: (.int .u8 p1) :: dd u30 14 47 (un 15 ([])))).toArray, []⟩) a ∧ l33 = c34 ∧ St [] w0 w [rowE .u8 23 A21 c22 l20, rowE .u8 23 A31 c32 l33]) ?_ ?_
  ·refine gx_seq (fun K37 hK38 => ?_)
   refine gx_region ?_
   refine gx_k (.int .i64 0) w23 ?_
   refine gx_nil ?_
   refine gx_thenN ?_
   refine hK38 _ _ ?_
   refine gx_block ?_
   have hS39 : St _ _ w23 [rowE .u8 23 A21 c22 l20, rowE .u8 23 none 0 ([])] := hS24.nilrow .u8 23
   refine gx_loop (fun k a w => ∃ (l45 : List Int) (x46 : Int) (A43 : Option Addr) (c44 : Nat), selfA (fun u42 => ⟨((.slice A0 p0.length c0) :: (.int .u8 p1) :: undef :: undef :: (.bool false) :: (.slice A21 l20.length c22) :: (.slice A43 l45.length c44) :: (.int .i64 x46) :: (u42 8) :: (.int .i64 ((p0.length : Nat) : Int)) :: (.bool false) :: undef :: (u42 12) :: (.int .u8 p1) :: dd u42 14 47 (un 15 ([]))).toArray, []⟩) a ∧ fWeakAgain_L1 N p0 k l45 x46 = some c34 ∧ St [] w0 w [rowE .u8 23 A21 c22 l20, rowE .u8 23 A43 c44 l45]) N ?_ ?_
   ·exact ⟨([]), 0, none, 0, selfA_i (by kernel_rfl), hE35, hS39⟩
   ·rintro k47 _ w40 ⟨l45, x46, A43, c44, hq106, hL48, hS41⟩
    obtain ⟨u42, rfl⟩ := selfA_u hq106
    cases k47 with
    | zero => cases hL48
    | succ k47 =>
     first | rw [fWeakAgain_L1] at hL48 | unfold fWeakAgain_L1 at hL48
     refine gx_seq (fun K49 hK50 => ?_)
     refine gx_seq (fun K51 hK52 => ?_)
     refine gx_region ?_
     refine gx_k (.int .i64 x46) w40 (gx_k (.slice A0 p0.length c0) w40 (gx_k (.int .i64 ((p0.length : Nat) : Int)) w40 ?_))
     rcases if_in hL48 with ⟨h53, hL48⟩ | ⟨h53, hL48⟩
     ·refine gx_v (.bool true) w40 (run_boolE (decide_eq_true h53) (by kernel_rfl)) ?_
      refine gx_nil ?_
      refine gx_thenN ?_
      refine hK52 _ _ ?_
      refine gx_yes (by kernel_rfl) ?_
      refine gx_pass ?_
      refine gx_thenN ?_
      refine hK50 _ _ ?_
      refine gx_seq (fun K54 hK55 => ?_)
      refine gx_block ?_
      obtain ⟨c60, hE61, hO62⟩ := bind_in hL48
      refine gx_cut (fun a w => ∃ (b59 : Bool), selfA (fun u58 => ⟨((.slice A0 p0.length c0) :: (.int .u8 p1) :: undef :: undef :: (.bool false) :: (.slice A21 l20.length c22) :: (.slice A43 l45.length c44) :: (.int .i64 x46) :: (u42 8) :: (.int .i64 ((p0.length : Nat) : Int)) :: (.bool false) :: undef :: (u42 12) :: (.int .u8 p1) :: (u42 14) :: (.int .i64 x46) :: (u58 16) :: (.int .i64 ((p0.length : Nat) : Int)) :: (.bool true) :: dd u42 19 2 (dd u58 21 32 ((.bool b59) :: dd u42 54 7 (un 15 ([]))))).toArray, []⟩) a ∧ b59 = c60 ∧ St [] w0 w [rowE .u8 23 A21 c22 l20, rowE .u8 23 A43 c44 l45]) ?_ ?_
      ·refine gx_region ?_
       refine gx_k (.slice A0 p0.length c0) w40 (gx_k (.int .i64 x46) w40 ?_)
       obtain ⟨x63, hx64, hE61⟩ := bind_in hE61
       refine gx_v (.pointer (Option.map (fun (p : Addr) => p.add (Int.toNat x46 * 1)) A0)) w40 (run_ixaddr (E := 23) (s := 1) (k := .i64) (c := c0) rfl (by kernel_rfl) (by kernel_rfl) (by kernel_rfl) (fun _ => by kernel_rfl) (ix_in hx64).1 (ix_in hx64).2.1 (num_nil (hS41.view hv0))) ?_
       refine gx_v (.int .u8 x63) w40 (run_loadix rfl (by kernel_rfl) (fun _ => by kernel_rfl) (hS41.view hv0) hx64) ?_
       obtain ⟨c69, hE70, hO71⟩ := bind_in hE61
       refine gx_part (l1 := [_, _, _, _, _, _, _, _]) (fun a w => ∃ (b68 : Bool), selfA (fun u67 => ⟨((.slice A0 p0.length c0) :: (.int .u8 p1) :: undef :: undef :: (.bool false) :: (.slice A21 l20.length c22) :: (.slice A43 l45.length c44) :: (.int .i64 x46) :: (u42 8) :: (.int .i64 ((p0.length : Nat) : Int)) :: (.bool false) :: undef :: (u42 12) :: (.int .u8 p1) :: (u42 14) :: (.int .i64 x46) :: (u67 16) :: (.int .i64 ((p0.length : Nat) : Int)) :: (.bool true) :: dd u42 19 2 ((u67 21) :: (.int .i64 x46) :: (.pointer (Option.map (fun (p : Addr) => p.add (Int.toNat x46 * 1)) A0)) :: (.int .u8 x63) :: dd u67 25 7 ((.bool b68) :: dd u42 33 28 (un 15 ([]))))).toArray, []⟩) a ∧ b68 = c69 ∧ St [] w0 w [rowE .u8 23 A21 c22 l20, rowE .u8 23 A43 c44 l45]) rfl ?_ ?_
       ·rcases if_in hE70 with ⟨h73, hE70⟩ | ⟨h73, hE70⟩
        ·refine gx_v (.bool true) w40 (run_boolE (decide_eq_true h73) (by kernel_rfl)) ?_
         refine gx_k (.bool true) w40 (gx_o (gx_o (gx_o (gx_o (gx_o (gx_k (.bool true) w40 ?_))))))
         refine gx_nil ?_
         refine gx_thenN ?_
         exact ⟨true, selfA_i (by kernel_rfl), (Option.some.inj hE70), hS41⟩
        ·refine gx_v (.bool false) w40 (run_boolE (decide_eq_false h73) (by kernel_rfl)) ?_
         refine gx_k (.bool false) w40 (gx_k (.slice A0 p0.length c0) w40 (gx_k (.int .i64 x46) w40 ?_))
         obtain ⟨x74, hx75, hE70⟩ := bind_in hE70
         refine gx_v (.pointer (Option.map (fun (p : Addr) => p.add (Int.toNat x46 * 1)) A0)) w40 (run_ixaddr (E := 23) (s := 1) (k := .i64) (c := c0) rfl (by kernel_rfl) (by kernel_rfl) (by kernel_rfl) (fun _ => by kernel_rfl) (ix_in hx75).1 (ix_in hx75).2.1 (num_nil (hS41.view hv0))) ?_
         refine gx_v (.int .u8 x74) w40 (run_loadix rfl (by kernel_rfl) (fun _ => by kernel_rfl) (hS41.view hv0) hx75) ?_
         rcases if_in hE70 with ⟨h76, hE70⟩ | ⟨h76, hE70⟩
         ·refine gx_v (.bool true) w40 (run_boolE (decide_eq_true h76) (by kernel_rfl)) ?_
          refine gx_k (.bool true) w40 ?_
          refine gx_nil ?_
          refine gx_thenN ?_
          exact ⟨true, selfA_i (by kernel_rfl), (Option.some.inj hE70), hS41⟩
         ·refine gx_v (.bool false) w40 (run_boolE (decide_eq_false h76) (by kernel_rfl)) ?_
          refine gx_k (.bool false) w40 ?_
          refine gx_nil ?_
          refine gx_thenN ?_
          exact ⟨false, selfA_i (by kernel_rfl), (Option.some.inj hE70), hS41⟩
       ·rintro _ w65 ⟨b68, hq72, rfl, hS66⟩
        obtain ⟨u67, rfl⟩ := selfA_u hq72
        try dsimp only at hO71
        obtain ⟨c81, hE82, hO83⟩ := bind_in hO71
        refine gx_part (l1 := [_, _, _, _, _, _, _]) (fun a w => ∃ (b80 : Bool), selfA (fun u79 => ⟨((.slice A0 p0.length c0) :: (.int .u8 p1) :: undef :: undef :: (.bool false) :: (.slice A21 l20.length c22) :: (.slice A43 l45.length c44) :: (.int .i64 x46) :: (u42 8) :: (.int .i64 ((p0.length : Nat) : Int)) :: (.bool false) :: undef :: (u42 12) :: (.int .u8 p1) :: (u42 14) :: (.int .i64 x46) :: (u67 16) :: (.int .i64 ((p0.length : Nat) : Int)) :: (.bool true) :: dd u42 19 2 ((u67 21) :: (.int .i64 x46) :: (.pointer (Option.map (fun (p : Addr) => p.add (Int.toNat x46 * 1)) A0)) :: (.int .u8 x63) :: dd u67 25 7 ((.bool b68) :: dd u79 33 6 ((.bool b80) :: dd u42 40 21 (un 15 ([])))))).toArray, []⟩) a ∧ b80 = c81 ∧ St [] w0 w [rowE .u8 23 A21 c22 l20, rowE .u8 23 A43 c44 l45]) rfl ?_ ?_
        ·refine gx_k (.bool b68) w65 ?_
         cases b68 with
         | true =>
          try dsimp only at hE82
          refine gx_o (gx_o (gx_o (gx_o (gx_o (gx_k (.bool true) w65 ?_)))))
          refine gx_nil ?_
          refine gx_thenN ?_
          exact ⟨true, selfA_i (by kernel_rfl), (Option.some.inj hE82), hS66⟩
         | false =>
          try dsimp only at hE82
          refine gx_k (.slice A0 p0.length c0) w65 (gx_k (.int .i64 x46) w65 ?_)
          obtain ⟨x85, hx86, hE82⟩ := bind_in hE82
          refine gx_v (.pointer (Option.map (fun (p : Addr) => p.add (Int.toNat x46 * 1)) A0)) w65 (run_ixaddr (E := 23) (s := 1) (k := .i64) (c := c0) rfl (by kernel_rfl) (by kernel_rfl) (by kernel_rfl) (fun _ => by kernel_rfl) (ix_in hx86).1 (ix_in hx86).2.1 (num_nil (hS66.view hv0))) ?_
          refine gx_v (.int .u8 x85) w65 (run_loadix rfl (by kernel_rfl) (fun _ => by kernel_rfl) (hS66.view hv0) hx86) ?_
          rcases if_in hE82 with ⟨h87, hE82⟩ | ⟨h87, hE82⟩
          ·refine gx_v (.bool true) w65 (run_boolE (decide_eq_true h87) (by kernel_rfl)) ?_
           refine gx_k (.bool true) w65 ?_
           refine gx_nil ?_
           refine gx_thenN ?_
           exact ⟨true, selfA_i (by kernel_rfl), (Option.some.inj hE82), hS66⟩
          ·refine gx_v (.bool false) w65 (run_boolE (decide_eq_false h87) (by kernel_rfl)) ?_
           refine gx_k (.bool false) w65 ?_
           refine gx_nil ?_
           refine gx_thenN ?_
           exact ⟨false, selfA_i (by kernel_rfl), (Option.some.inj hE82), hS66⟩
        ·rintro _ w77 ⟨b80, hq84, rfl, hS78⟩
         obtain ⟨u79, rfl⟩ := selfA_u hq84
         try dsimp only at hO83
         refine gx_k (.bool b80) w77 ?_
         cases b80 with
         | true =>
          try dsimp only at hO83
          refine gx_o (gx_o (gx_o (gx_o (gx_o (gx_o (gx_o (gx_o ?_)))))))
          refine gx_o (gx_o (gx_o (gx_o (gx_k (.bool true) w77 ?_))))
          refine gx_nil ?_
          refine gx_thenN ?_
          exact ⟨true, selfA_i (by kernel_rfl), (Option.some.inj hO83), hS78⟩
         | false =>
          try dsimp only at hO83
          refine gx_k (.slice A0 p0.length c0) w77 (gx_k (.int .i64 x46) w77 ?_)
          obtain ⟨x88, hx89, hO83⟩ := bind_in hO83
          refine gx_v (.pointer (Option.map (fun (p : Addr) => p.add (Int.toNat x46 * 1)) A0)) w77 (run_ixaddr (E := 23) (s := 1) (k := .i64) (c := c0) rfl (by kernel_rfl) (by kernel_rfl) (by kernel_rfl) (fun _ => by kernel_rfl) (ix_in hx89).1 (ix_in hx89).2.1 (num_nil (hS78.view hv0))) ?_
          refine gx_v (.int .u8 x88) w77 (run_loadix rfl (by kernel_rfl) (fun _ => by kernel_rfl) (hS78.view hv0) hx89) ?_
          rcases if_in hO83 with ⟨h90, hO83⟩ | ⟨h90, hO83⟩
          ·refine gx_v (.bool true) w77 (run_boolE (decide_eq_true h90) (by kernel_rfl)) ?_
           refine gx_k (.bool true) w77 (gx_k (.slice A0 p0.length c0) w77 (gx_k (.int .i64 x46) w77 ?_))
           obtain ⟨x91, hx92, hO83⟩ := bind_in hO83
           refine gx_v (.pointer (Option.map (fun (p : Addr) => p.add (Int.toNat x46 * 1)) A0)) w77 (run_ixaddr (E := 23) (s := 1) (k := .i64) (c := c0) rfl (by kernel_rfl) (by kernel_rfl) (by kernel_rfl) (fun _ => by kernel_rfl) (ix_in hx92).1 (ix_in hx92).2.1 (num_nil (hS78.view hv0))) ?_
           refine gx_v (.int .u8 x91) w77 (run_loadix rfl (by kernel_rfl) (fun _ => by kernel_rfl) (hS78.view hv0) hx92) ?_
           rcases if_in hO83 with ⟨h93, hO83⟩ | ⟨h93, hO83⟩
           ·refine gx_v (.bool true) w77 (run_boolE (decide_eq_true h93) (by kernel_rfl)) ?_
            refine gx_k (.bool true) w77 (gx_k (.bool true) w77 ?_)
            refine gx_nil ?_
            refine gx_thenN ?_
            exact ⟨true, selfA_i (by kernel_rfl), (Option.some.inj hO83), hS78⟩
           ·refine gx_v (.bool false) w77 (run_boolE (decide_eq_false h93) (by kernel_rfl)) ?_
            refine gx_k (.bool false) w77 (gx_k (.bool false) w77 ?_)
            refine gx_nil ?_
            refine gx_thenN ?_
            exact ⟨false, selfA_i (by kernel_rfl), (Option.some.inj hO83), hS78⟩
          ·refine gx_v (.bool false) w77 (run_boolE (decide_eq_false h90) (by kernel_rfl)) ?_
           refine gx_k (.bool false) w77 (gx_o (gx_o (gx_o (gx_o (gx_o (gx_k (.bool false) w77 (gx_k (.bool false) w77 ?_)))))))
           refine gx_nil ?_
           refine gx_thenN ?_
           exact ⟨false, selfA_i (by kernel_rfl), (Option.some.inj hO83), hS78⟩
      ·rintro _ w56 ⟨b59, hq105, rfl, hS57⟩
       obtain ⟨u58, rfl⟩ := selfA_u hq105
       try dsimp only at hO62
       cases b59 with
       | true =>
        try dsimp only at hO62
        refine gx_yes (by kernel_rfl) ?_
        refine gx_region ?_
        refine gx_k (.slice A43 l45.length c44) w56 (gx_k (.slice A0 p0.length c0) w56 (gx_k (.int .i64 x46) w56 ?_))
        obtain ⟨x94, hx95, hO62⟩ := bind_in hO62
        refine gx_v (.pointer (Option.map (fun (p : Addr) => p.add (Int.toNat x46 * 1)) A0)) w56 (run_ixaddr (E := 23) (s := 1) (k := .i64) (c := c0) rfl (by kernel_rfl) (by kernel_rfl) (by kernel_rfl) (fun _ => by kernel_rfl) (ix_in hx95).1 (ix_in hx95).2.1 (num_nil (hS57.view hv0))) ?_
        refine gx_v (.int .u8 x94) w56 (run_loadix rfl (by kernel_rfl) (fun _ => by kernel_rfl) (hS57.view hv0) hx95) ?_
        refine gx_r (st_made .u8 23 [x94] hS57 (by show 1 ≤ 1000000000; decide) (by kernel_rfl)) ?_
        rintro _ w96 ⟨rfl, hS97⟩
        have hS97 : St _ _ w96 [rowE .u8 23 A21 c22 l20, rowE .u8 23 A43 c44 l45, rowE .u8 23 (some ⟨w56.heap.size, 0, none⟩) 1 ([x94])] := hS97
        obtain ⟨l98, ha99, hO62⟩ := bind_in hO62
        obtain ⟨ha99, hq100⟩ := apx_in ha99
        refine gx_r (st_append rfl (by kernel_rfl) (by kernel_rfl) hS97 1 rfl (hS97.row 2 rfl).1 (hS97.row 2 rfl).2 ha99 (by kernel_rfl) (by kernel_rfl)) ?_
        rintro _ w103 ⟨A101, c102, rfl, hS104⟩
        rw [← hq100] at hS104 ⊢
        have hS104 : St _ _ w103 [rowE .u8 23 A21 c22 l20, rowE .u8 23 A101 c102 l98, rowE .u8 23 (some ⟨w56.heap.size, 0, none⟩) 1 ([x94])] := hS104
        refine gx_k (.slice A101 l98.length c102) w103 ?_
        refine gx_nil ?_
        refine gx_blkN ?_
        refine gx_thenN ?_
        refine hK55 _ _ ?_
        refine gx_region ?_
        refine gx_k (.int .i64 x46) w103 (gx_k (.int .i64 (IntKind.i64.wrap (x46 + 1))) w103 (gx_k (.int .i64 (IntKind.i64.wrap (x46 + 1))) w103 ?_))
        refine gx_nil ?_
        refine gx_thenN ?_
        exact ⟨k47, Nat.lt_succ_self k47, l98, (IntKind.i64.wrap (x46 + 1)), A101, c102, selfA_i (by kernel_rfl), hO62, (hS104.pick [0, 1] rfl rfl)⟩
       | false =>
        try dsimp only at hO62
        refine gx_no (by kernel_rfl) ?_
        refine gx_pass ?_
        refine gx_blkN ?_
        refine gx_thenN ?_
        refine hK55 _ _ ?_
        refine gx_region ?_
        refine gx_k (.int .i64 x46) w56 (gx_k (.int .i64 (IntKind.i64.wrap (x46 + 1))) w56 (gx_k (.int .i64 (IntKind.i64.wrap (x46 + 1))) w56 ?_))
        refine gx_nil ?_
        refine gx_thenN ?_
        exact ⟨k47, Nat.lt_succ_self k47, l45, (IntKind.i64.wrap (x46 + 1)), A43, c44, selfA_i (by kernel_rfl), hO62, hS57⟩
     ·refine gx_v (.bool false) w40 (run_boolE (decide_eq_false h53) (by kernel_rfl)) ?_
      refine gx_nil ?_
      refine gx_thenN ?_
      refine hK52 _ _ ?_
      refine gx_no (by kernel_rfl) ?_
      refine gx_exit ?_
      refine gx_thenE ?_
      refine gx_thenE ?_
      refine gx_blkE ?_
      refine gx_thenN ?_
      exact ⟨l45, A43, c44, selfA_i (by kernel_rfl), (Option.some.inj hL48), hS41⟩
  ·rintro _ w28 ⟨l33, A31, c32, hq143, rfl, hS29⟩
   obtain ⟨u30, rfl⟩ := selfA_u hq143
   try dsimp only at hO36
   refine gx_seq (fun K107 hK108 => ?_)
   refine gx_region ?_
   refine gx_k (.slice A21 l20.length c22) w28 (gx_k (.int .u8 p1) w28 ?_)
   have hP109 : St _ _ w28 ([] ++ [rowE .u8 23 A21 c22 l20, rowE .u8 23 A31 c32 l33]) := hS29
   obtain ⟨l111, hc110, hO36⟩ := bind_in hO36
   try dsimp only at hO36
   refine gx_c (pWeak_R l111 w28) (pWeak_ok N l20 p1 A21 c22 _ hc110 w28 (hP109.vwB 0 rfl)) ?_
   rintro _ w114 ⟨A112, c113, rfl, hT116⟩
   have hS115 : St _ _ w114 [rowE .u8 23 A21 c22 l20, rowE .u8 23 A31 c32 l33, rowE .u8 23 A112 c113 l111] := hS29.take _ hT116
   refine gx_k (.slice A21 l20.length c22) w114 ?_
   have hP117 : St _ _ w114 ([] ++ [rowE .u8 23 A21 c22 l20, rowE .u8 23 A31 c32 l33, rowE .u8 23 A112 c113 l111]) := hS115
   obtain ⟨b119, hc118, hO36⟩ := bind_in hO36
   try dsimp only at hO36
   refine gx_c (kIs_R b119 w114) (kIs_ok N l111 l20 A112 c113 A21 c22 _ hc118 w114 (hP117.vwB 2 rfl) (hP117.vwB 0 rfl)) ?_
   rintro _ w120 ⟨rfl, hT122⟩
   have hS121 : St _ _ w120 [rowE .u8 23 A21 c22 l20, rowE .u8 23 A31 c32 l33, rowE .u8 23 A112 c113 l111] := hS115.take _ hT122
   refine gx_k (.bool b119) w120 ?_
   cases b119 with
   | true =>
    try dsimp only at hO36
    refine gx_k (.slice A31 l33.length c32) w120 (gx_k (.int .u8 p1) w120 ?_)
    have hP123 : St _ _ w120 ([] ++ [rowE .u8 23 A21 c22 l20, rowE .u8 23 A31 c32 l33, rowE .u8 23 A112 c113 l111]) := hS121
    obtain ⟨l125, hc124, hO36⟩ := bind_in hO36
    try dsimp only at hO36
    refine gx_c (pWeak_R l125 w120) (pWeak_ok N l33 p1 A31 c32 _ hc124 w120 (hP123.vwB 1 rfl)) ?_
    rintro _ w128 ⟨A126, c127, rfl, hT130⟩
    have hS129 : St _ _ w128 [rowE .u8 23 A21 c22 l20, rowE .u8 23 A31 c32 l33, rowE .u8 23 A112 c113 l111, rowE .u8 23 A126 c127 l125] := hS121.take _ hT130
    refine gx_k (.slice A31 l33.length c32) w128 ?_
    have hP131 : St _ _ w128 ([] ++ [rowE .u8 23 A21 c22 l20, rowE .u8 23 A31 c32 l33, rowE .u8 23 A112 c113 l111, rowE .u8 23 A126 c127 l125]) := hS129
    obtain ⟨b133, hc132, hO36⟩ := bind_in hO36
    try dsimp only at hO36
    refine gx_c (kIs_R b133 w128) (kIs_ok N l125 l33 A126 c127 A31 c32 _ hc132 w128 (hP131.vwB 3 rfl) (hP131.vwB 1 rfl)) ?_
    rintro _ w134 ⟨rfl, hT136⟩
    have hS135 : St _ _ w134 [rowE .u8 23 A21 c22 l20, rowE .u8 23 A31 c32 l33, rowE .u8 23 A112 c113 l111, rowE .u8 23 A126 c127 l125] := hS129.take _ hT136
    refine gx_k (.bool b133) w134 (gx_k (.bool b133) w134 ?_)
    cases b133 with
    | true =>
     try dsimp only at hO36
     have hP137 : St _ _ w134 ([] ++ [rowE .u8 23 A21 c22 l20, rowE .u8 23 A31 c32 l33, rowE .u8 23 A112 c113 l111, rowE .u8 23 A126 c127 l125]) := hS135
     obtain ⟨b139, hc138, hO36⟩ := bind_in hO36
     try dsimp only at hO36
     refine gx_c (kArabic_R b139 w134) (kArabic_ok N  _ hc138 w134 ) ?_
     rintro _ w140 ⟨rfl, hT142⟩
     have hS141 : St _ _ w140 [rowE .u8 23 A21 c22 l20, rowE .u8 23 A31 c32 l33, rowE .u8 23 A112 c113 l111, rowE .u8 23 A126 c127 l125] := hS135.take _ hT142
     refine gx_k (.bool b139) w140 (gx_k (.bool b139) w140 ?_)
     refine gx_nil ?_
     refine gx_thenN ?_
     refine hK108 _ _ ?_
     refine gx_ret ?_
     obtain rfl := Option.some.inj hO36
     exact gx_fin (.bool b139) (by kernel_rfl) (by kernel_rfl) ⟨_, rfl, rfl, (hS141.pick [] rfl rfl)⟩
    | false =>
     try dsimp only at hO36
     refine gx_o (gx_k (.bool false) w134 (gx_k (.bool false) w134 ?_))
     refine gx_nil ?_
     refine gx_thenN ?_
     refine hK108 _ _ ?_
     refine gx_ret ?_
     obtain rfl := Option.some.inj hO36
     exact gx_fin (.bool false) (by kernel_rfl) (by kernel_rfl) ⟨_, rfl, rfl, (hS135.pick [] rfl rfl)⟩
   | false =>
    try dsimp only at hO36
    refine gx_o (gx_o (gx_o (gx_o (gx_o (gx_k (.bool false) w120 (gx_k (.bool false) w120 (gx_o ?_)))))))
    refine gx_k (.bool false) w120 (gx_k (.bool false) w120 ?_)
    refine gx_nil ?_
    refine gx_thenN ?_
    refine hK108 _ _ ?_
    refine gx_ret ?_
    obtain rfl := Option.some.inj hO36
    exact gx_fin (.bool false) (by kernel_rfl) (by kernel_rfl) ⟨_, rfl, rfl, (hS121.pick [] rfl rfl)⟩

end Go.Proofs.Ytdpcaidhpccaiaa

/-
  JoiningAgree, walked.
-/
import Derived.Test.YtbdhgjaoojimmaaDoorF0
import Derived.Test.YtbdhgjaoojimmaaDoorR0
namespace Go.Proofs.YtbdhgjaoojimmaaDoor
open Go Go.RowKit
set_option linter.unusedVariables false

def fAgree_L1 (N : Nat) (p0 : List Int) (l20 : List Int) : Nat → Int → Int → Option (Ctl (Unit) (Bool))
 | 0, _, _ => none
 | k48+1, x46, x47 => (if x47 < ((p0.length : Nat) : Int) then ((ix p0 x47).bind fun x61 => ((rfJn N x61).bind fun x65 => (if x65 = 4 then fAgree_L1 N p0 l20 k48 x46 (IntKind.i64.wrap (x47 + 1)) else ((((ix l20 x47).bind fun x77 => (if x77 = 3 then some (true) else ((ix l20 x47).bind fun x80 => (if x80 = 4 then some (true) else some (false))))) : Option (Bool)).bind fun b73 => (((if x46 < 0 then (match b73 with | true => some (Ctl.ret false) | false => some (Ctl.go ())) else some (Ctl.go ())) : Option (Ctl (Unit) (Bool))).bind fun | Ctl.go () => (if x46 ≥ 0 then ((((ix l20 x46).bind fun x106 => (((if x106 = 3 then some (true) else ((ix l20 x46).bind fun x117 => (if x117 = 2 then some (true) else some (false)))) : Option (Bool)).bind fun b111 => (match b111 with | true => some (true) | false => ((ix p0 x46).bind fun x120 => ((rfJn N x120).bind fun x124 => (if x124 = 3 then some (true) else some (false))))))) : Option (Bool)).bind fun b102 => ((ix p0 x47).bind fun x131 => ((rfJn N x131).bind fun x135 => (if x135 ≠ 3 then (((match b73 with | true => (match b102 with | true => some (false) | false => some (true)) | false => some (false)) : Option (Bool)).bind fun b145 => (match b145 with | true => some (Ctl.ret false) | false => ((ix l20 x46).bind fun x152 => (if x152 = 2 then (match b73 with | true => fAgree_L1 N p0 l20 k48 x47 (IntKind.i64.wrap (x47 + 1)) | false => some (Ctl.ret false)) else fAgree_L1 N p0 l20 k48 x47 (IntKind.i64.wrap (x47 + 1)))))) else (((match b73 with | true => (match b102 with | true => some (false) | false => some (true)) | false => some (false)) : Option (Bool)).bind fun b162 => (match b162 with | true => some (Ctl.ret false) | false => ((ix l20 x46).bind fun x169 => (if x169 = 2 then fAgree_L1 N p0 l20 k48 x47 (IntKind.i64.wrap (x47 + 1)) else fAgree_L1 N p0 l20 k48 x47 (IntKind.i64.wrap (x47 + 1)))))))))) else fAgree_L1 N p0 l20 k48 x47 (IntKind.i64.wrap (x47 + 1))) | Ctl.ret r => some (Ctl.ret r)))))) else some (Ctl.go ()))
def fAgree (N : Nat) (p0 : List Int) : Option (Bool) :=
 (if ((p0.length : Nat) : Int) > 600 then ((kWorks N ).bind fun b12 => some b12) else ((pForms N p0).bind fun l20 => (if ((l20.length : Nat) : Int) ≠ ((p0.length : Nat) : Int) then some false else ((fAgree_L1 N p0 l20 N (-1) 0 : Option (Ctl (Unit) (Bool))).bind fun | Ctl.go () => ((kWorks N ).bind fun b180 => some b180) | Ctl.ret r => some r))))

set_option linter.unusedVariables false in
def fAgree_R (r : Bool) (w0 : World) (v : Value) (w : World) : Prop := v = .bool r ∧ St [] w0 w []

set_option maxRecDepth 100000 in
set_option maxHeartbeats 4000000 in
theorem fAgree_ok (N : Nat) (p0 : List Int) (A0 : Option Addr) (c0 : Nat) (r : Bool) (hF : fAgree N p0 = some r) (w0 : World) (hv0 : Vw [] .i32 w0 A0 c0 p0) (hcd : MirB [] w0) :
  Calls Tryd.prog 6 #[.slice A0 p0.length c0] w0 fun e w => ∃ v, e = .returned v ∧ fAgree_R r w0 v w := by
 have hS0 := St.start w0
 unfold fAgree at hF
 refine calls_of Tryd.func6 rfl ⟨((.slice A0 p0.length c0) :: un 97 ([])).toArray, []⟩ (by kernel_rfl) ?_
 refine gx_seq (fun K1 hK2 => ?_)
 refine gx_region ?_
 refine gx_k (.bool false) w0 ?_
 refine gx_nil ?_
 refine gx_thenN ?_
 refine hK2 _ _ ?_
 refine gx_seq (fun K3 hK4 => ?_)
 refine gx_seq (fun K5 hK6 => ?_)
 refine gx_region ?_
 refine gx_k (.slice A0 p0.length c0) w0 (gx_k (.int .i64 ((p0.length : Nat) : Int)) w0 ?_)
 rcases if_in hF with ⟨h7, hF⟩ | ⟨h7, hF⟩
 ·refine gx_v (.bool true) w0 (run_boolE (decide_eq_true h7) (by kernel_rfl)) ?_
  refine gx_nil ?_
  refine gx_thenN ?_
  refine hK6 _ _ ?_
  refine gx_yes (by kernel_rfl) ?_
  refine gx_seq (fun K8 hK9 => ?_)
  refine gx_region ?_
  have hP10 : St _ _ w0 ([] ++ []) := hS0
  obtain ⟨b12, hc11, hF⟩ := bind_in hF
  try dsimp only at hF
  refine gx_c (kWorks_R b12 w0) (kWorks_ok N  _ hc11 w0 (MirB.atL hcd hP10)) ?_
  rintro _ w13 ⟨rfl, hT15⟩
  have hS14 : St _ _ w13 [] := hS0.take _ hT15
  refine gx_k (.bool b12) w13 ?_
  refine gx_nil ?_
  refine gx_thenN ?_
  refine hK9 _ _ ?_
  refine gx_ret ?_
  refine gx_thenR ?_
  obtain rfl := Option.some.inj hF
  exact gx_fin (.bool b12) (by kernel_rfl) (by kernel_rfl) ⟨_, rfl, rfl, hS14⟩
 ·refine gx_v (.bool false) w0 (run_boolE (decide_eq_false h7) (by kernel_rfl)) ?_
  refine gx_nil ?_
  refine gx_thenN ?_
  refine hK6 _ _ ?_
  refine gx_no (by kernel_rfl) ?_
  refine gx_pass ?_
  refine gx_thenN ?_
  refine hK4 _ _ ?_
  refine gx_seq (fun K16 hK17 => ?_)
  refine gx_region ?_
  refine gx_k (.slice A0 p0.length c0) w0 ?_
  have hP18 : St _ _ w0 ([] ++ []) := hS0
  obtain ⟨l20, hc19, hF⟩ := bind_in hF
  try dsimp only at hF
  refine gx_c (pForms_R l20 w0) (pForms_ok N p0 A0 c0 _ hc19 w0 (hP18.vwA hv0) (MirB.atL hcd hP18)) ?_
  rintro _ w23 ⟨A21, c22, rfl, hT25⟩
  have hS24 : St _ _ w23 [rowE .u8 5 A21 c22 l20] := hS0.take _ hT25
  refine gx_k (.slice A21 l20.length c22) w23 ?_
  refine gx_nil ?_
  refine gx_thenN ?_
  refine hK17 _ _ ?_
  refine gx_seq (fun K26 hK27 => ?_)
  refine gx_seq (fun K28 hK29 => ?_)
  refine gx_region ?_
  refine gx_k (.slice A21 l20.length c22) w23 (gx_k (.int .i64 ((l20.length : Nat) : Int)) w23 (gx_k (.slice A0 p0.length c0) w23 (gx_k (.int .i64 ((p0.length : Nat) : Int)) w23 ?_)))
  rcases if_in hF with ⟨h30, hF⟩ | ⟨h30, hF⟩
  ·refine gx_v (.bool true) w23 (run_boolE (ne_yes h30) (by kernel_rfl)) ?_
   refine gx_nil ?_
   refine gx_thenN ?_
   refine hK29 _ _ ?_
   refine gx_yes (by kernel_rfl) ?_
   refine gx_seq (fun K31 hK32 => ?_)
   refine gx_region ?_
   refine gx_k (.bool false) w23 ?_
   refine gx_nil ?_
   refine gx_thenN ?_
   refine hK32 _ _ ?_
   refine gx_ret ?_
   refine gx_thenR ?_
   obtain rfl := Option.some.inj hF
   exact gx_fin (.bool false) (by kernel_rfl) (by kernel_rfl) ⟨_, rfl, rfl, (hS24.pick [] rfl rfl)⟩
  ·refine gx_v (.bool false) w23 (run_boolE (ne_no h30) (by kernel_rfl)) ?_
   refine gx_nil ?_
   refine gx_thenN ?_
   refine hK29 _ _ ?_
   refine gx_no (by kernel_rfl) ?_
   refine gx_pass ?_
   refine gx_thenN ?_
   refine hK27 _ _ ?_
   refine gx_seq (fun K33 hK34 => ?_)
   refine gx_region ?_
   refine gx_k (.int .i64 (-1)) w23 ?_
   refine gx_nil ?_
   refine gx_thenN ?_
   refine hK34 _ _ ?_
   obtain ⟨c38, hE39, hO40⟩ := bind_in hF
   refine gx_cut (fun a w => selfA (fun u37 => ⟨((u37 0) :: undef :: dd u37 2 8 ((.int .i64 ((p0.length : Nat) : Int)) :: (.bool false) :: undef :: dd u37 13 3 ((.int .i64 ((l20.length : Nat) : Int)) :: (u37 17) :: (.int .i64 ((p0.length : Nat) : Int)) :: (.bool false) :: dd u37 20 77 (undef :: [])))).toArray, []⟩) a ∧ Ctl.go () = c38 ∧ St [] w0 w []) ?_ ?_
   ·refine gx_seq (fun K41 hK42 => ?_)
    refine gx_region ?_
    refine gx_k (.int .i64 0) w23 ?_
    refine gx_nil ?_
    refine gx_thenN ?_
    refine hK42 _ _ ?_
    refine gx_block ?_
    refine gx_loop (fun k a w => ∃ (x46 : Int) (x47 : Int), selfA (fun u45 => ⟨((.slice A0 p0.length c0) :: undef :: (u45 2) :: (.slice A21 l20.length c22) :: (.int .i64 x46) :: (.int .i64 x47) :: dd u45 6 4 ((.int .i64 ((p0.length : Nat) : Int)) :: (.bool false) :: undef :: dd u45 13 3 ((.int .i64 ((l20.length : Nat) : Int)) :: (u45 17) :: (.int .i64 ((p0.length : Nat) : Int)) :: (.bool false) :: dd u45 20 77 (undef :: [])))).toArray, []⟩) a ∧ fAgree_L1 N p0 l20 k x46 x47 = some c38 ∧ St [] w0 w [rowE .u8 5 A21 c22 l20]) N ?_ ?_
    ·exact ⟨(-1), 0, selfA_i (by kernel_rfl), hE39, hS24⟩
    ·rintro k48 _ w43 ⟨x46, x47, hq175, hL49, hS44⟩
     obtain ⟨u45, rfl⟩ := selfA_u hq175
     cases k48 with
     | zero => cases hL49
     | succ k48 =>
      first | rw [fAgree_L1] at hL49 | unfold fAgree_L1 at hL49
      refine gx_seq (fun K50 hK51 => ?_)
      refine gx_seq (fun K52 hK53 => ?_)
      refine gx_region ?_
      refine gx_k (.int .i64 x47) w43 (gx_k (.slice A0 p0.length c0) w43 (gx_k (.int .i64 ((p0.length : Nat) : Int)) w43 ?_))
      rcases if_in hL49 with ⟨h54, hL49⟩ | ⟨h54, hL49⟩
      ·refine gx_v (.bool true) w43 (run_boolE (decide_eq_true h54) (by kernel_rfl)) ?_
       refine gx_nil ?_
       refine gx_thenN ?_
       refine hK53 _ _ ?_
       refine gx_yes (by kernel_rfl) ?_
       refine gx_pass ?_
       refine gx_thenN ?_
       refine hK51 _ _ ?_
       refine gx_seq (fun K55 hK56 => ?_)
       refine gx_block ?_
       refine gx_seq (fun K57 hK58 => ?_)
       refine gx_seq (fun K59 hK60 => ?_)
       refine gx_region ?_
       refine gx_k (.slice A0 p0.length c0) w43 (gx_k (.int .i64 x47) w43 ?_)
       obtain ⟨x61, hx62, hL49⟩ := bind_in hL49
       refine gx_v (.pointer (Option.map (fun (p : Addr) => p.add (Int.toNat x47 * 1)) A0)) w43 (run_ixaddr (E := 21) (s := 1) (k := .i64) (c := c0) rfl (by kernel_rfl) (by kernel_rfl) (by kernel_rfl) (fun _ => by kernel_rfl) (ix_in hx62).1 (ix_in hx62).2.1 (num_nil (hS44.view hv0))) ?_
       refine gx_v (.int .i32 x61) w43 (run_loadix rfl (by kernel_rfl) (fun _ => by kernel_rfl) (hS44.view hv0) hx62) ?_
       have hP63 : St _ _ w43 ([] ++ [rowE .u8 5 A21 c22 l20]) := hS44
       obtain ⟨x65, hc64, hL49⟩ := bind_in hL49
       try dsimp only at hL49
       refine gx_c (rfJn_R x65 w43) (rfJn_ok N x61 _ hc64 w43 ) ?_
       rintro _ w66 ⟨rfl, hT68⟩
       have hS67 : St _ _ w66 [rowE .u8 5 A21 c22 l20] := hS44.take _ hT68
       rcases if_in hL49 with ⟨h69, hL49⟩ | ⟨h69, hL49⟩
       ·refine gx_v (.bool true) w66 (run_boolE (decide_eq_true h69) (by kernel_rfl)) ?_
        refine gx_nil ?_
        refine gx_thenN ?_
        refine hK60 _ _ ?_
        refine gx_yes (by kernel_rfl) ?_
        refine gx_exit ?_
        refine gx_thenE ?_
        refine gx_blkE ?_
        refine gx_thenN ?_
        refine hK56 _ _ ?_
        refine gx_region ?_
        refine gx_k (.int .i64 x47) w66 (gx_k (.int .i64 (IntKind.i64.wrap (x47 + 1))) w66 (gx_k (.int .i64 (IntKind.i64.wrap (x47 + 1))) w66 ?_))
        refine gx_nil ?_
        refine gx_thenN ?_
        exact ⟨k48, Nat.lt_succ_self k48, x46, (IntKind.i64.wrap (x47 + 1)), selfA_i (by kernel_rfl), hL49, hS67⟩
       ·refine gx_v (.bool false) w66 (run_boolE (decide_eq_false h69) (by kernel_rfl)) ?_
        refine gx_nil ?_
        refine gx_thenN ?_
        refine hK60 _ _ ?_
        refine gx_no (by kernel_rfl) ?_
        refine gx_pass ?_
        refine gx_thenN ?_
        refine hK58 _ _ ?_
        obtain ⟨c74, hE75, hO76⟩ := bind_in hL49
        refine gx_cut (fun a w => ∃ (b73 : Bool), selfA (fun u72 => ⟨((.slice A0 p0.length c0) :: undef :: (u45 2) :: (.slice A21 l20.length c22) :: (.int .i64 x46) :: (.int .i64 x47) :: (.bool b73) :: dd u45 7 3 ((.int .i64 ((p0.length : Nat) : Int)) :: (.bool false) :: undef :: dd u45 13 3 ((.int .i64 ((l20.length : Nat) : Int)) :: (u45 17) :: (.int .i64 ((p0.length : Nat) : Int)) :: (.bool false) :: (.int .i64 x47) :: (u72 21) :: (.int .i64 ((p0.length : Nat) : Int)) :: (.bool true) :: dd u45 24 2 ((u72 26) :: (.int .i64 x47) :: (.pointer (Option.map (fun (p : Addr) => p.add (Int.toNat x47 * 1)) A0)) :: (.int .i32 x61) :: (.int .u8 x65) :: (.bool false) :: dd u72 32 12 (dd u45 44 53 (undef :: [])))))).toArray, []⟩) a ∧ b73 = c74 ∧ St [] w0 w [rowE .u8 5 A21 c22 l20]) ?_ ?_
        ·refine gx_region ?_
         refine gx_k (.slice A21 l20.length c22) w66 (gx_k (.int .i64 x47) w66 ?_)
         obtain ⟨x77, hx78, hE75⟩ := bind_in hE75
         refine gx_v (.pointer (Option.map (fun (p : Addr) => p.add (Int.toNat x47 * 1)) A21)) w66 (run_ixaddr (E := 5) (s := 1) (k := .i64) (c := c22) rfl (by kernel_rfl) (by kernel_rfl) (by kernel_rfl) (fun _ => by kernel_rfl) (ix_in hx78).1 (ix_in hx78).2.1 (num_nil (hS67.row 0 rfl).1)) ?_
         refine gx_v (.int .u8 x77) w66 (run_loadix rfl (by kernel_rfl) (fun _ => by kernel_rfl) (hS67.row 0 rfl).1 hx78) ?_
         rcases if_in hE75 with ⟨h79, hE75⟩ | ⟨h79, hE75⟩
         ·refine gx_v (.bool true) w66 (run_boolE (decide_eq_true h79) (by kernel_rfl)) ?_
          refine gx_k (.bool true) w66 (gx_o (gx_o (gx_o (gx_o (gx_o (gx_k (.bool true) w66 (gx_k (.bool true) w66 ?_)))))))
          refine gx_nil ?_
          refine gx_thenN ?_
          exact ⟨true, selfA_i (by kernel_rfl), (Option.some.inj hE75), hS67⟩
         ·refine gx_v (.bool false) w66 (run_boolE (decide_eq_false h79) (by kernel_rfl)) ?_
          refine gx_k (.bool false) w66 (gx_k (.slice A21 l20.length c22) w66 (gx_k (.int .i64 x47) w66 ?_))
          obtain ⟨x80, hx81, hE75⟩ := bind_in hE75
          refine gx_v (.pointer (Option.map (fun (p : Addr) => p.add (Int.toNat x47 * 1)) A21)) w66 (run_ixaddr (E := 5) (s := 1) (k := .i64) (c := c22) rfl (by kernel_rfl) (by kernel_rfl) (by kernel_rfl) (fun _ => by kernel_rfl) (ix_in hx81).1 (ix_in hx81).2.1 (num_nil (hS67.row 0 rfl).1)) ?_
          refine gx_v (.int .u8 x80) w66 (run_loadix rfl (by kernel_rfl) (fun _ => by kernel_rfl) (hS67.row 0 rfl).1 hx81) ?_
          rcases if_in hE75 with ⟨h82, hE75⟩ | ⟨h82, hE75⟩
          ·refine gx_v (.bool true) w66 (run_boolE (decide_eq_true h82) (by kernel_rfl)) ?_
           refine gx_k (.bool true) w66 (gx_k (.bool true) w66 ?_)
           refine gx_nil ?_
           refine gx_thenN ?_
           exact ⟨true, selfA_i (by kernel_rfl), (Option.some.inj hE75), hS67⟩
          ·refine gx_v (.bool false) w66 (run_boolE (decide_eq_false h82) (by kernel_rfl)) ?_
           refine gx_k (.bool false) w66 (gx_k (.bool false) w66 ?_)
           refine gx_nil ?_
           refine gx_thenN ?_
           exact ⟨false, selfA_i (by kernel_rfl), (Option.some.inj hE75), hS67⟩
        ·rintro _ w70 ⟨b73, hq174, rfl, hS71⟩
         obtain ⟨u72, rfl⟩ := selfA_u hq174
         try dsimp only at hO76
         obtain ⟨c86, hE87, hO88⟩ := bind_in hO76
         refine gx_cut (fun a w => selfA (fun u85 => ⟨((.slice A0 p0.length c0) :: undef :: (u85 2) :: (.slice A21 l20.length c22) :: (.int .i64 x46) :: (.int .i64 x47) :: (.bool b73) :: dd u45 7 3 ((.int .i64 ((p0.length : Nat) : Int)) :: (.bool false) :: undef :: dd u45 13 3 ((.int .i64 ((l20.length : Nat) : Int)) :: (u45 17) :: (.int .i64 ((p0.length : Nat) : Int)) :: (.bool false) :: (.int .i64 x47) :: (u72 21) :: (.int .i64 ((p0.length : Nat) : Int)) :: (.bool true) :: dd u45 24 2 ((u72 26) :: (.int .i64 x47) :: (.pointer (Option.map (fun (p : Addr) => p.add (Int.toNat x47 * 1)) A0)) :: (.int .i32 x61) :: (.int .u8 x65) :: (.bool false) :: dd u72 32 12 (dd u85 44 5 (dd u45 49 48 (undef :: []))))))).toArray, []⟩) a ∧ Ctl.go () = c86 ∧ St [] w0 w [rowE .u8 5 A21 c22 l20]) ?_ ?_
         ·refine gx_seq (fun K89 hK90 => ?_)
          refine gx_region ?_
          refine gx_k (.int .i64 x46) w70 ?_
          rcases if_in hE87 with ⟨h91, hE87⟩ | ⟨h91, hE87⟩
          ·refine gx_v (.bool true) w70 (run_boolE (decide_eq_true h91) (by kernel_rfl)) ?_
           refine gx_k (.bool true) w70 (gx_k (.bool b73) w70 (gx_k (.bool b73) w70 ?_))
           refine gx_nil ?_
           refine gx_thenN ?_
           refine hK90 _ _ ?_
           cases b73 with
           | true =>
            try dsimp only at hE87
            refine gx_yes (by kernel_rfl) ?_
            refine gx_seq (fun K92 hK93 => ?_)
            refine gx_region ?_
            refine gx_k (.bool false) w70 ?_
            refine gx_nil ?_
            refine gx_thenN ?_
            refine hK93 _ _ ?_
            refine gx_ret ?_
            refine gx_thenR ?_
            obtain rfl := Option.some.inj hE87
            try dsimp only at hO88
            refine gx_blkR ?_
            refine gx_thenR ?_
            refine gx_thenR ?_
            refine gx_blkR ?_
            refine gx_thenR ?_
            obtain rfl := Option.some.inj hO88
            try dsimp only at hO40
            obtain rfl := Option.some.inj hO40
            exact gx_fin (.bool false) (by kernel_rfl) (by kernel_rfl) ⟨_, rfl, rfl, (hS71.pick [] rfl rfl)⟩
           | false =>
            try dsimp only at hE87
            refine gx_no (by kernel_rfl) ?_
            refine gx_pass ?_
            refine gx_thenN ?_
            exact ⟨selfA_i (by kernel_rfl), (Option.some.inj hE87), hS71⟩
          ·refine gx_v (.bool false) w70 (run_boolE (decide_eq_false h91) (by kernel_rfl)) ?_
           refine gx_k (.bool false) w70 (gx_o (gx_k (.bool false) w70 ?_))
           refine gx_nil ?_
           refine gx_thenN ?_
           refine hK90 _ _ ?_
           refine gx_no (by kernel_rfl) ?_
           refine gx_pass ?_
           refine gx_thenN ?_
           exact ⟨selfA_i (by kernel_rfl), (Option.some.inj hE87), hS71⟩
         ·rintro _ w83 ⟨hq173, rfl, hS84⟩
          obtain ⟨u85, rfl⟩ := selfA_u hq173
          try dsimp only at hO88
          refine gx_seq (fun K94 hK95 => ?_)
          refine gx_seq (fun K96 hK97 => ?_)
          refine gx_region ?_
          refine gx_k (.int .i64 x46) w83 ?_
          rcases if_in hO88 with ⟨h98, hO88⟩ | ⟨h98, hO88⟩
          ·refine gx_v (.bool true) w83 (run_boolE (decide_eq_true h98) (by kernel_rfl)) ?_
           refine gx_nil ?_
           refine gx_thenN ?_
           refine hK97 _ _ ?_
           refine gx_yes (by kernel_rfl) ?_
           obtain ⟨c103, hE104, hO105⟩ := bind_in hO88
           refine gx_cut (fun a w => ∃ (b102 : Bool), selfA (fun u101 => ⟨((.slice A0 p0.length c0) :: undef :: (u85 2) :: (.slice A21 l20.length c22) :: (.int .i64 x46) :: (.int .i64 x47) :: (.bool b73) :: (.bool b102) :: dd u45 8 2 ((.int .i64 ((p0.length : Nat) : Int)) :: (.bool false) :: undef :: dd u45 13 3 ((.int .i64 ((l20.length : Nat) : Int)) :: (u45 17) :: (.int .i64 ((p0.length : Nat) : Int)) :: (.bool false) :: (.int .i64 x47) :: (u72 21) :: (.int .i64 ((p0.length : Nat) : Int)) :: (.bool true) :: dd u45 24 2 ((u72 26) :: (.int .i64 x47) :: (.pointer (Option.map (fun (p : Addr) => p.add (Int.toNat x47 * 1)) A0)) :: (.int .i32 x61) :: (.int .u8 x65) :: (.bool false) :: dd u72 32 12 (dd u85 44 5 ((.int .i64 x46) :: (.bool true) :: dd u101 51 20 (dd u45 71 26 (undef :: [])))))))).toArray, []⟩) a ∧ b102 = c103 ∧ St [] w0 w [rowE .u8 5 A21 c22 l20]) ?_ ?_
           ·refine gx_region ?_
            refine gx_k (.slice A21 l20.length c22) w83 (gx_k (.int .i64 x46) w83 ?_)
            obtain ⟨x106, hx107, hE104⟩ := bind_in hE104
            refine gx_v (.pointer (Option.map (fun (p : Addr) => p.add (Int.toNat x46 * 1)) A21)) w83 (run_ixaddr (E := 5) (s := 1) (k := .i64) (c := c22) rfl (by kernel_rfl) (by kernel_rfl) (by kernel_rfl) (fun _ => by kernel_rfl) (ix_in hx107).1 (ix_in hx107).2.1 (num_nil (hS84.row 0 rfl).1)) ?_
            refine gx_v (.int .u8 x106) w83 (run_loadix rfl (by kernel_rfl) (fun _ => by kernel_rfl) (hS84.row 0 rfl).1 hx107) ?_
            obtain ⟨c112, hE113, hO114⟩ := bind_in hE104
            refine gx_part (l1 := [_, _, _, _, _, _, _, _]) (fun a w => ∃ (b111 : Bool), selfA (fun u110 => ⟨((.slice A0 p0.length c0) :: undef :: (u85 2) :: (.slice A21 l20.length c22) :: (.int .i64 x46) :: (.int .i64 x47) :: (.bool b73) :: dd u45 7 3 ((.int .i64 ((p0.length : Nat) : Int)) :: (.bool false) :: undef :: dd u45 13 3 ((.int .i64 ((l20.length : Nat) : Int)) :: (u45 17) :: (.int .i64 ((p0.length : Nat) : Int)) :: (.bool false) :: (.int .i64 x47) :: (u72 21) :: (.int .i64 ((p0.length : Nat) : Int)) :: (.bool true) :: dd u45 24 2 ((u72 26) :: (.int .i64 x47) :: (.pointer (Option.map (fun (p : Addr) => p.add (Int.toNat x47 * 1)) A0)) :: (.int .i32 x61) :: (.int .u8 x65) :: (.bool false) :: dd u72 32 12 (dd u85 44 5 ((.int .i64 x46) :: (.bool true) :: (u110 51) :: (.int .i64 x46) :: (.pointer (Option.map (fun (p : Addr) => p.add (Int.toNat x46 * 1)) A21)) :: (.int .u8 x106) :: dd u110 55 7 ((.bool b111) :: dd u45 63 34 (undef :: [])))))))).toArray, []⟩) a ∧ b111 = c112 ∧ St [] w0 w [rowE .u8 5 A21 c22 l20]) rfl ?_ ?_
            ·rcases if_in hE113 with ⟨h116, hE113⟩ | ⟨h116, hE113⟩
             ·refine gx_v (.bool true) w83 (run_boolE (decide_eq_true h116) (by kernel_rfl)) ?_
              refine gx_k (.bool true) w83 (gx_o (gx_o (gx_o (gx_o (gx_o (gx_k (.bool true) w83 ?_))))))
              refine gx_nil ?_
              refine gx_thenN ?_
              exact ⟨true, selfA_i (by kernel_rfl), (Option.some.inj hE113), hS84⟩
             ·refine gx_v (.bool false) w83 (run_boolE (decide_eq_false h116) (by kernel_rfl)) ?_
              refine gx_k (.bool false) w83 (gx_k (.slice A21 l20.length c22) w83 (gx_k (.int .i64 x46) w83 ?_))
              obtain ⟨x117, hx118, hE113⟩ := bind_in hE113
              refine gx_v (.pointer (Option.map (fun (p : Addr) => p.add (Int.toNat x46 * 1)) A21)) w83 (run_ixaddr (E := 5) (s := 1) (k := .i64) (c := c22) rfl (by kernel_rfl) (by kernel_rfl) (by kernel_rfl) (fun _ => by kernel_rfl) (ix_in hx118).1 (ix_in hx118).2.1 (num_nil (hS84.row 0 rfl).1)) ?_
              refine gx_v (.int .u8 x117) w83 (run_loadix rfl (by kernel_rfl) (fun _ => by kernel_rfl) (hS84.row 0 rfl).1 hx118) ?_
              rcases if_in hE113 with ⟨h119, hE113⟩ | ⟨h119, hE113⟩
              ·refine gx_v (.bool true) w83 (run_boolE (decide_eq_true h119) (by kernel_rfl)) ?_
               refine gx_k (.bool true) w83 ?_
               refine gx_nil ?_
               refine gx_thenN ?_
               exact ⟨true, selfA_i (by kernel_rfl), (Option.some.inj hE113), hS84⟩
              ·refine gx_v (.bool false) w83 (run_boolE (decide_eq_false h119) (by kernel_rfl)) ?_
               refine gx_k (.bool false) w83 ?_
               refine gx_nil ?_
               refine gx_thenN ?_
               exact ⟨false, selfA_i (by kernel_rfl), (Option.some.inj hE113), hS84⟩
            ·rintro _ w108 ⟨b111, hq115, rfl, hS109⟩
             obtain ⟨u110, rfl⟩ := selfA_u hq115
             try dsimp only at hO114
             refine gx_k (.bool b111) w108 ?_
             cases b111 with
             | true =>
              try dsimp only at hO114
              refine gx_o (gx_o (gx_o (gx_o (gx_o (gx_o (gx_k (.bool true) w108 (gx_k (.bool true) w108 ?_)))))))
              refine gx_nil ?_
              refine gx_thenN ?_
              exact ⟨true, selfA_i (by kernel_rfl), (Option.some.inj hO114), hS109⟩
             | false =>
              try dsimp only at hO114
              refine gx_k (.slice A0 p0.length c0) w108 (gx_k (.int .i64 x46) w108 ?_)
              obtain ⟨x120, hx121, hO114⟩ := bind_in hO114
              refine gx_v (.pointer (Option.map (fun (p : Addr) => p.add (Int.toNat x46 * 1)) A0)) w108 (run_ixaddr (E := 21) (s := 1) (k := .i64) (c := c0) rfl (by kernel_rfl) (by kernel_rfl) (by kernel_rfl) (fun _ => by kernel_rfl) (ix_in hx121).1 (ix_in hx121).2.1 (num_nil (hS109.view hv0))) ?_
              refine gx_v (.int .i32 x120) w108 (run_loadix rfl (by kernel_rfl) (fun _ => by kernel_rfl) (hS109.view hv0) hx121) ?_
              have hP122 : St _ _ w108 ([] ++ [rowE .u8 5 A21 c22 l20]) := hS109
              obtain ⟨x124, hc123, hO114⟩ := bind_in hO114
              try dsimp only at hO114
              refine gx_c (rfJn_R x124 w108) (rfJn_ok N x120 _ hc123 w108 ) ?_
              rintro _ w125 ⟨rfl, hT127⟩
              have hS126 : St _ _ w125 [rowE .u8 5 A21 c22 l20] := hS109.take _ hT127
              rcases if_in hO114 with ⟨h128, hO114⟩ | ⟨h128, hO114⟩
              ·refine gx_v (.bool true) w125 (run_boolE (decide_eq_true h128) (by kernel_rfl)) ?_
               refine gx_k (.bool true) w125 (gx_k (.bool true) w125 ?_)
               refine gx_nil ?_
               refine gx_thenN ?_
               exact ⟨true, selfA_i (by kernel_rfl), (Option.some.inj hO114), hS126⟩
              ·refine gx_v (.bool false) w125 (run_boolE (decide_eq_false h128) (by kernel_rfl)) ?_
               refine gx_k (.bool false) w125 (gx_k (.bool false) w125 ?_)
               refine gx_nil ?_
               refine gx_thenN ?_
               exact ⟨false, selfA_i (by kernel_rfl), (Option.some.inj hO114), hS126⟩
           ·rintro _ w99 ⟨b102, hq172, rfl, hS100⟩
            obtain ⟨u101, rfl⟩ := selfA_u hq172
            try dsimp only at hO105
            refine gx_seq (fun K129 hK130 => ?_)
            refine gx_region ?_
            refine gx_k (.slice A0 p0.length c0) w99 (gx_k (.int .i64 x47) w99 ?_)
            obtain ⟨x131, hx132, hO105⟩ := bind_in hO105
            refine gx_v (.pointer (Option.map (fun (p : Addr) => p.add (Int.toNat x47 * 1)) A0)) w99 (run_ixaddr (E := 21) (s := 1) (k := .i64) (c := c0) rfl (by kernel_rfl) (by kernel_rfl) (by kernel_rfl) (fun _ => by kernel_rfl) (ix_in hx132).1 (ix_in hx132).2.1 (num_nil (hS100.view hv0))) ?_
            refine gx_v (.int .i32 x131) w99 (run_loadix rfl (by kernel_rfl) (fun _ => by kernel_rfl) (hS100.view hv0) hx132) ?_
            have hP133 : St _ _ w99 ([] ++ [rowE .u8 5 A21 c22 l20]) := hS100
            obtain ⟨x135, hc134, hO105⟩ := bind_in hO105
            try dsimp only at hO105
            refine gx_c (rfJn_R x135 w99) (rfJn_ok N x131 _ hc134 w99 ) ?_
            rintro _ w136 ⟨rfl, hT138⟩
            have hS137 : St _ _ w136 [rowE .u8 5 A21 c22 l20] := hS100.take _ hT138
            rcases if_in hO105 with ⟨h139, hO105⟩ | ⟨h139, hO105⟩
            ·refine gx_v (.bool true) w136 (run_boolE (ne_yes h139) (by kernel_rfl)) ?_
             refine gx_k (.bool true) w136 ?_
             refine gx_nil ?_
             refine gx_thenN ?_
             refine hK130 _ _ ?_
             refine gx_seq (fun K140 hK141 => ?_)
             refine gx_region ?_
             obtain ⟨c146, hE147, hO148⟩ := bind_in hO105
             refine gx_part (l1 := [_, _, _, _, _]) (fun a w => ∃ (b145 : Bool), selfA (fun u144 => ⟨((.slice A0 p0.length c0) :: undef :: (u85 2) :: (.slice A21 l20.length c22) :: (.int .i64 x46) :: (.int .i64 x47) :: (.bool b73) :: (.bool b102) :: (.bool true) :: (u45 9) :: (.int .i64 ((p0.length : Nat) : Int)) :: (.bool false) :: undef :: dd u45 13 3 ((.int .i64 ((l20.length : Nat) : Int)) :: (u45 17) :: (.int .i64 ((p0.length : Nat) : Int)) :: (.bool false) :: (.int .i64 x47) :: (u72 21) :: (.int .i64 ((p0.length : Nat) : Int)) :: (.bool true) :: dd u45 24 2 ((u72 26) :: (.int .i64 x47) :: (.pointer (Option.map (fun (p : Addr) => p.add (Int.toNat x47 * 1)) A0)) :: (.int .i32 x61) :: (.int .u8 x65) :: (.bool false) :: dd u72 32 12 (dd u85 44 5 ((.int .i64 x46) :: (.bool true) :: dd u101 51 20 ((u144 71) :: (.int .i64 x47) :: (.pointer (Option.map (fun (p : Addr) => p.add (Int.toNat x47 * 1)) A0)) :: (.int .i32 x131) :: (.int .u8 x135) :: (.bool true) :: dd u144 77 4 ((.bool b145) :: dd u45 82 15 (undef :: [])))))))).toArray, []⟩) a ∧ b145 = c146 ∧ St [] w0 w [rowE .u8 5 A21 c22 l20]) rfl ?_ ?_
             ·refine gx_k (.bool b73) w136 (gx_k (.bool b73) w136 ?_)
              cases b73 with
              | true =>
               try dsimp only at hE147
               refine gx_k (.bool b102) w136 ?_
               cases b102 with
               | true =>
                try dsimp only at hE147
                refine gx_k (.bool false) w136 (gx_k (.bool false) w136 ?_)
                refine gx_nil ?_
                refine gx_thenN ?_
                exact ⟨false, selfA_i (by kernel_rfl), (Option.some.inj hE147), hS137⟩
               | false =>
                try dsimp only at hE147
                refine gx_k (.bool true) w136 (gx_k (.bool true) w136 ?_)
                refine gx_nil ?_
                refine gx_thenN ?_
                exact ⟨true, selfA_i (by kernel_rfl), (Option.some.inj hE147), hS137⟩
              | false =>
               try dsimp only at hE147
               refine gx_o (gx_o (gx_k (.bool false) w136 ?_))
               refine gx_nil ?_
               refine gx_thenN ?_
               exact ⟨false, selfA_i (by kernel_rfl), (Option.some.inj hE147), hS137⟩
             ·rintro _ w142 ⟨b145, hq149, rfl, hS143⟩
              obtain ⟨u144, rfl⟩ := selfA_u hq149
              try dsimp only at hO148
              refine gx_k (.bool b145) w142 ?_
              cases b145 with
              | true =>
               try dsimp only at hO148
               refine gx_o (gx_o (gx_o (gx_o (gx_o (gx_o (gx_o (gx_o ?_)))))))
               refine gx_o (gx_o (gx_o (gx_o (gx_k (.bool true) w142 ?_))))
               refine gx_nil ?_
               refine gx_thenN ?_
               refine hK141 _ _ ?_
               refine gx_yes (by kernel_rfl) ?_
               refine gx_seq (fun K150 hK151 => ?_)
               refine gx_region ?_
               refine gx_k (.bool false) w142 ?_
               refine gx_nil ?_
               refine gx_thenN ?_
               refine hK151 _ _ ?_
               refine gx_ret ?_
               refine gx_thenR ?_
               refine gx_blkR ?_
               refine gx_thenR ?_
               refine gx_thenR ?_
               refine gx_blkR ?_
               refine gx_thenR ?_
               obtain rfl := Option.some.inj hO148
               try dsimp only at hO40
               obtain rfl := Option.some.inj hO40
               exact gx_fin (.bool false) (by kernel_rfl) (by kernel_rfl) ⟨_, rfl, rfl, (hS143.pick [] rfl rfl)⟩
              | false =>
               try dsimp only at hO148
               refine gx_k (.slice A21 l20.length c22) w142 (gx_k (.int .i64 x46) w142 ?_)
               obtain ⟨x152, hx153, hO148⟩ := bind_in hO148
               refine gx_v (.pointer (Option.map (fun (p : Addr) => p.add (Int.toNat x46 * 1)) A21)) w142 (run_ixaddr (E := 5) (s := 1) (k := .i64) (c := c22) rfl (by kernel_rfl) (by kernel_rfl) (by kernel_rfl) (fun _ => by kernel_rfl) (ix_in hx153).1 (ix_in hx153).2.1 (num_nil (hS143.row 0 rfl).1)) ?_
               refine gx_v (.int .u8 x152) w142 (run_loadix rfl (by kernel_rfl) (fun _ => by kernel_rfl) (hS143.row 0 rfl).1 hx153) ?_
               rcases if_in hO148 with ⟨h154, hO148⟩ | ⟨h154, hO148⟩
               ·refine gx_v (.bool true) w142 (run_boolE (decide_eq_true h154) (by kernel_rfl)) ?_
                refine gx_k (.bool true) w142 (gx_k (.bool true) w142 (gx_k (.bool true) w142 (gx_k (.bool true) w142 (gx_k (.bool b73) w142 ?_))))
                cases b73 with
                | true =>
                 try dsimp only at hO148
                 refine gx_k (.bool false) w142 (gx_k (.bool false) w142 (gx_k (.bool false) w142 ?_))
                 refine gx_nil ?_
                 refine gx_thenN ?_
                 refine hK141 _ _ ?_
                 refine gx_no (by kernel_rfl) ?_
                 refine gx_pass ?_
                 refine gx_thenN ?_
                 refine hK95 _ _ ?_
                 refine gx_region ?_
                 refine gx_k (.int .i64 x47) w142 (gx_k (.int .i64 x47) w142 ?_)
                 refine gx_nil ?_
                 refine gx_blkN ?_
                 refine gx_thenN ?_
                 refine hK56 _ _ ?_
                 refine gx_region ?_
                 refine gx_k (.int .i64 x47) w142 (gx_k (.int .i64 (IntKind.i64.wrap (x47 + 1))) w142 (gx_k (.int .i64 (IntKind.i64.wrap (x47 + 1))) w142 ?_))
                 refine gx_nil ?_
                 refine gx_thenN ?_
                 exact ⟨k48, Nat.lt_succ_self k48, x47, (IntKind.i64.wrap (x47 + 1)), selfA_i (by kernel_rfl), hO148, hS143⟩
                | false =>
                 try dsimp only at hO148
                 refine gx_k (.bool true) w142 (gx_k (.bool true) w142 (gx_k (.bool true) w142 ?_))
                 refine gx_nil ?_
                 refine gx_thenN ?_
                 refine hK141 _ _ ?_
                 refine gx_yes (by kernel_rfl) ?_
                 refine gx_seq (fun K155 hK156 => ?_)
                 refine gx_region ?_
                 refine gx_k (.bool false) w142 ?_
                 refine gx_nil ?_
                 refine gx_thenN ?_
                 refine hK156 _ _ ?_
                 refine gx_ret ?_
                 refine gx_thenR ?_
                 refine gx_blkR ?_
                 refine gx_thenR ?_
                 refine gx_thenR ?_
                 refine gx_blkR ?_
                 refine gx_thenR ?_
                 obtain rfl := Option.some.inj hO148
                 try dsimp only at hO40
                 obtain rfl := Option.some.inj hO40
                 exact gx_fin (.bool false) (by kernel_rfl) (by kernel_rfl) ⟨_, rfl, rfl, (hS143.pick [] rfl rfl)⟩
               ·refine gx_v (.bool false) w142 (run_boolE (decide_eq_false h154) (by kernel_rfl)) ?_
                refine gx_k (.bool false) w142 (gx_o (gx_k (.bool false) w142 (gx_k (.bool false) w142 (gx_o (gx_o (gx_k (.bool false) w142 (gx_k (.bool false) w142 ?_)))))))
                refine gx_nil ?_
                refine gx_thenN ?_
                refine hK141 _ _ ?_
                refine gx_no (by kernel_rfl) ?_
                refine gx_pass ?_
                refine gx_thenN ?_
                refine hK95 _ _ ?_
                refine gx_region ?_
                refine gx_k (.int .i64 x47) w142 (gx_k (.int .i64 x47) w142 ?_)
                refine gx_nil ?_
                refine gx_blkN ?_
                refine gx_thenN ?_
                refine hK56 _ _ ?_
                refine gx_region ?_
                refine gx_k (.int .i64 x47) w142 (gx_k (.int .i64 (IntKind.i64.wrap (x47 + 1))) w142 (gx_k (.int .i64 (IntKind.i64.wrap (x47 + 1))) w142 ?_))
                refine gx_nil ?_
                refine gx_thenN ?_
                exact ⟨k48, Nat.lt_succ_self k48, x47, (IntKind.i64.wrap (x47 + 1)), selfA_i (by kernel_rfl), hO148, hS143⟩
            ·refine gx_v (.bool false) w136 (run_boolE (ne_no h139) (by kernel_rfl)) ?_
             refine gx_k (.bool false) w136 ?_
             refine gx_nil ?_
             refine gx_thenN ?_
             refine hK130 _ _ ?_
             refine gx_seq (fun K157 hK158 => ?_)
             refine gx_region ?_
             obtain ⟨c163, hE164, hO165⟩ := bind_in hO105
             refine gx_part (l1 := [_, _, _, _, _]) (fun a w => ∃ (b162 : Bool), selfA (fun u161 => ⟨((.slice A0 p0.length c0) :: undef :: (u85 2) :: (.slice A21 l20.length c22) :: (.int .i64 x46) :: (.int .i64 x47) :: (.bool b73) :: (.bool b102) :: (.bool false) :: (u45 9) :: (.int .i64 ((p0.length : Nat) : Int)) :: (.bool false) :: undef :: dd u45 13 3 ((.int .i64 ((l20.length : Nat) : Int)) :: (u45 17) :: (.int .i64 ((p0.length : Nat) : Int)) :: (.bool false) :: (.int .i64 x47) :: (u72 21) :: (.int .i64 ((p0.length : Nat) : Int)) :: (.bool true) :: dd u45 24 2 ((u72 26) :: (.int .i64 x47) :: (.pointer (Option.map (fun (p : Addr) => p.add (Int.toNat x47 * 1)) A0)) :: (.int .i32 x61) :: (.int .u8 x65) :: (.bool false) :: dd u72 32 12 (dd u85 44 5 ((.int .i64 x46) :: (.bool true) :: dd u101 51 20 ((u161 71) :: (.int .i64 x47) :: (.pointer (Option.map (fun (p : Addr) => p.add (Int.toNat x47 * 1)) A0)) :: (.int .i32 x131) :: (.int .u8 x135) :: (.bool false) :: dd u161 77 4 ((.bool b162) :: dd u45 82 15 (undef :: [])))))))).toArray, []⟩) a ∧ b162 = c163 ∧ St [] w0 w [rowE .u8 5 A21 c22 l20]) rfl ?_ ?_
             ·refine gx_k (.bool b73) w136 (gx_k (.bool b73) w136 ?_)
              cases b73 with
              | true =>
               try dsimp only at hE164
               refine gx_k (.bool b102) w136 ?_
               cases b102 with
               | true =>
                try dsimp only at hE164
                refine gx_k (.bool false) w136 (gx_k (.bool false) w136 ?_)
                refine gx_nil ?_
                refine gx_thenN ?_
                exact ⟨false, selfA_i (by kernel_rfl), (Option.some.inj hE164), hS137⟩
               | false =>
                try dsimp only at hE164
                refine gx_k (.bool true) w136 (gx_k (.bool true) w136 ?_)
                refine gx_nil ?_
                refine gx_thenN ?_
                exact ⟨true, selfA_i (by kernel_rfl), (Option.some.inj hE164), hS137⟩
              | false =>
               try dsimp only at hE164
               refine gx_o (gx_o (gx_k (.bool false) w136 ?_))
               refine gx_nil ?_
               refine gx_thenN ?_
               exact ⟨false, selfA_i (by kernel_rfl), (Option.some.inj hE164), hS137⟩
             ·rintro _ w159 ⟨b162, hq166, rfl, hS160⟩
              obtain ⟨u161, rfl⟩ := selfA_u hq166
              try dsimp only at hO165
              refine gx_k (.bool b162) w159 ?_
              cases b162 with
              | true =>
               try dsimp only at hO165
               refine gx_o (gx_o (gx_o (gx_o (gx_o (gx_o (gx_o (gx_o ?_)))))))
               refine gx_o (gx_o (gx_o (gx_o (gx_k (.bool true) w159 ?_))))
               refine gx_nil ?_
               refine gx_thenN ?_
               refine hK158 _ _ ?_
               refine gx_yes (by kernel_rfl) ?_
               refine gx_seq (fun K167 hK168 => ?_)
               refine gx_region ?_
               refine gx_k (.bool false) w159 ?_
               refine gx_nil ?_
               refine gx_thenN ?_
               refine hK168 _ _ ?_
               refine gx_ret ?_
               refine gx_thenR ?_
               refine gx_blkR ?_
               refine gx_thenR ?_
               refine gx_thenR ?_
               refine gx_blkR ?_
               refine gx_thenR ?_
               obtain rfl := Option.some.inj hO165
               try dsimp only at hO40
               obtain rfl := Option.some.inj hO40
               exact gx_fin (.bool false) (by kernel_rfl) (by kernel_rfl) ⟨_, rfl, rfl, (hS160.pick [] rfl rfl)⟩
              | false =>
               try dsimp only at hO165
               refine gx_k (.slice A21 l20.length c22) w159 (gx_k (.int .i64 x46) w159 ?_)
               obtain ⟨x169, hx170, hO165⟩ := bind_in hO165
               refine gx_v (.pointer (Option.map (fun (p : Addr) => p.add (Int.toNat x46 * 1)) A21)) w159 (run_ixaddr (E := 5) (s := 1) (k := .i64) (c := c22) rfl (by kernel_rfl) (by kernel_rfl) (by kernel_rfl) (fun _ => by kernel_rfl) (ix_in hx170).1 (ix_in hx170).2.1 (num_nil (hS160.row 0 rfl).1)) ?_
               refine gx_v (.int .u8 x169) w159 (run_loadix rfl (by kernel_rfl) (fun _ => by kernel_rfl) (hS160.row 0 rfl).1 hx170) ?_
               rcases if_in hO165 with ⟨h171, hO165⟩ | ⟨h171, hO165⟩
               ·refine gx_v (.bool true) w159 (run_boolE (decide_eq_true h171) (by kernel_rfl)) ?_
                refine gx_k (.bool true) w159 (gx_k (.bool false) w159 (gx_k (.bool false) w159 (gx_k (.bool false) w159 (gx_o (gx_o (gx_k (.bool false) w159 (gx_k (.bool false) w159 ?_)))))))
                refine gx_nil ?_
                refine gx_thenN ?_
                refine hK158 _ _ ?_
                refine gx_no (by kernel_rfl) ?_
                refine gx_pass ?_
                refine gx_thenN ?_
                refine hK95 _ _ ?_
                refine gx_region ?_
                refine gx_k (.int .i64 x47) w159 (gx_k (.int .i64 x47) w159 ?_)
                refine gx_nil ?_
                refine gx_blkN ?_
                refine gx_thenN ?_
                refine hK56 _ _ ?_
                refine gx_region ?_
                refine gx_k (.int .i64 x47) w159 (gx_k (.int .i64 (IntKind.i64.wrap (x47 + 1))) w159 (gx_k (.int .i64 (IntKind.i64.wrap (x47 + 1))) w159 ?_))
                refine gx_nil ?_
                refine gx_thenN ?_
                exact ⟨k48, Nat.lt_succ_self k48, x47, (IntKind.i64.wrap (x47 + 1)), selfA_i (by kernel_rfl), hO165, hS160⟩
               ·refine gx_v (.bool false) w159 (run_boolE (decide_eq_false h171) (by kernel_rfl)) ?_
                refine gx_k (.bool false) w159 (gx_o (gx_k (.bool false) w159 (gx_k (.bool false) w159 (gx_o (gx_o (gx_k (.bool false) w159 (gx_k (.bool false) w159 ?_)))))))
                refine gx_nil ?_
                refine gx_thenN ?_
                refine hK158 _ _ ?_
                refine gx_no (by kernel_rfl) ?_
                refine gx_pass ?_
                refine gx_thenN ?_
                refine hK95 _ _ ?_
                refine gx_region ?_
                refine gx_k (.int .i64 x47) w159 (gx_k (.int .i64 x47) w159 ?_)
                refine gx_nil ?_
                refine gx_blkN ?_
                refine gx_thenN ?_
                refine hK56 _ _ ?_
                refine gx_region ?_
                refine gx_k (.int .i64 x47) w159 (gx_k (.int .i64 (IntKind.i64.wrap (x47 + 1))) w159 (gx_k (.int .i64 (IntKind.i64.wrap (x47 + 1))) w159 ?_))
                refine gx_nil ?_
                refine gx_thenN ?_
                exact ⟨k48, Nat.lt_succ_self k48, x47, (IntKind.i64.wrap (x47 + 1)), selfA_i (by kernel_rfl), hO165, hS160⟩
          ·refine gx_v (.bool false) w83 (run_boolE (decide_eq_false h98) (by kernel_rfl)) ?_
           refine gx_nil ?_
           refine gx_thenN ?_
           refine hK97 _ _ ?_
           refine gx_no (by kernel_rfl) ?_
           refine gx_pass ?_
           refine gx_thenN ?_
           refine hK95 _ _ ?_
           refine gx_region ?_
           refine gx_k (.int .i64 x47) w83 (gx_k (.int .i64 x47) w83 ?_)
           refine gx_nil ?_
           refine gx_blkN ?_
           refine gx_thenN ?_
           refine hK56 _ _ ?_
           refine gx_region ?_
           refine gx_k (.int .i64 x47) w83 (gx_k (.int .i64 (IntKind.i64.wrap (x47 + 1))) w83 (gx_k (.int .i64 (IntKind.i64.wrap (x47 + 1))) w83 ?_))
           refine gx_nil ?_
           refine gx_thenN ?_
           exact ⟨k48, Nat.lt_succ_self k48, x47, (IntKind.i64.wrap (x47 + 1)), selfA_i (by kernel_rfl), hO88, hS84⟩
      ·refine gx_v (.bool false) w43 (run_boolE (decide_eq_false h54) (by kernel_rfl)) ?_
       refine gx_nil ?_
       refine gx_thenN ?_
       refine hK53 _ _ ?_
       refine gx_no (by kernel_rfl) ?_
       refine gx_exit ?_
       refine gx_thenE ?_
       refine gx_thenE ?_
       refine gx_blkE ?_
       refine gx_thenN ?_
       exact ⟨selfA_i (by kernel_rfl), (Option.some.inj hL49), (hS44.pick [] rfl rfl)⟩
   ·rintro _ w35 ⟨hq184, rfl, hS36⟩
    obtain ⟨u37, rfl⟩ := selfA_u hq184
    try dsimp only at hO40
    refine gx_seq (fun K176 hK177 => ?_)
    refine gx_region ?_
    have hP178 : St _ _ w35 ([] ++ []) := hS36
    obtain ⟨b180, hc179, hO40⟩ := bind_in hO40
    try dsimp only at hO40
    refine gx_c (kWorks_R b180 w35) (kWorks_ok N  _ hc179 w35 (MirB.atL hcd hP178)) ?_
    rintro _ w181 ⟨rfl, hT183⟩
    have hS182 : St _ _ w181 [] := hS36.take _ hT183
    refine gx_k (.bool b180) w181 ?_
    refine gx_nil ?_
    refine gx_thenN ?_
    refine hK177 _ _ ?_
    refine gx_ret ?_
    obtain rfl := Option.some.inj hO40
    exact gx_fin (.bool b180) (by kernel_rfl) (by kernel_rfl) ⟨_, rfl, rfl, hS182⟩

end Go.Proofs.YtbdhgjaoojimmaaDoor

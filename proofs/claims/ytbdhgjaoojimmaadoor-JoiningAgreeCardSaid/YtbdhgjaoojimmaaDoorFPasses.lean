/-
  JoiningPasses, walked.
-/
import Derived.Test.YtbdhgjaoojimmaaDoorF0
import Derived.Test.YtbdhgjaoojimmaaDoorR0
namespace Go.Proofs.YtbdhgjaoojimmaaDoor
open Go Go.RowKit
set_option linter.unusedVariables false

def fPasses_L1 (N : Nat) (p0 : List Int) (l20 : List Int) : Nat → (List Int) → (List Int) → Int → Option (Ctl (List Int × List Int) (Bool))
 | 0, _, _, _ => none
 | k63+1, l58, l61, x62 => (if x62 < ((p0.length : Nat) : Int) then ((ix p0 x62).bind fun x76 => ((rfJn N x76).bind fun x80 => (if x80 = 4 then ((ix l20 x62).bind fun x89 => (if x89 ≠ 0 then some (Ctl.ret false) else fPasses_L1 N p0 l20 k63 l58 l61 (IntKind.i64.wrap (x62 + 1)))) else ((ix p0 x62).bind fun x96 => ((apx l58 ([x96])).bind fun l100 => ((ix l20 x62).bind fun x107 => ((apx l61 ([x107])).bind fun l111 => fPasses_L1 N p0 l20 k63 l100 l111 (IntKind.i64.wrap (x62 + 1))))))))) else some (Ctl.go (l58, l61)))
def fPasses (N : Nat) (p0 : List Int) (p1 : Int) : Option (Bool) :=
 (if ((p0.length : Nat) : Int) > 600 then ((kWorks N ).bind fun b12 => some b12) else ((pForms N p0).bind fun l20 => (if ((l20.length : Nat) : Int) ≠ ((p0.length : Nat) : Int) then some false else ((fPasses_L1 N p0 l20 N ([]) ([]) 0 : Option (Ctl (List Int × List Int) (Bool))).bind fun | Ctl.go (l42, l45) => ((pForms N l42).bind fun l125 => ((kSame N l125 l45).bind fun b133 => (match b133 with | true => ((kPick N p1 (IntKind.i64.wrap (((l42.length : Nat) : Int) + 1))).bind fun x141 => (((((if x141 > 0 then (if x141 < ((l42.length : Nat) : Int) then some (true) else some (false)) else some (false)) : Option (Bool)).bind fun b158 => (match b158 with | true => ((ix l42 (IntKind.i64.wrap (x141 - 1))).bind fun x166 => ((ix l42 x141).bind fun x168 => ((pJoins N x166 x168).bind fun b172 => (match b172 with | true => ((kWorks N ).bind fun b180 => some (Ctl.ret b180)) | false => some (Ctl.go ()))))) | false => some (Ctl.go ()))) : Option (Ctl (Unit) (Bool))).bind fun | Ctl.go () => ((cutx l42 (0 : Int) x141).bind fun l188 => ((cutx l45 (0 : Int) x141).bind fun l194 => ((pForms N l188).bind fun l202 => ((kSame N l202 l194).bind fun b210 => (match b210 with | true => ((cutx l42 x141 ((l42.length : Nat) : Int)).bind fun l214 => ((cutx l45 x141 ((l45.length : Nat) : Int)).bind fun l220 => ((pForms N l214).bind fun l228 => ((kSame N l228 l220).bind fun b236 => (match b236 with | true => ((kWorks N ).bind fun b242 => some b242) | false => some false))))) | false => some false))))) | Ctl.ret r => some r)) | false => some false))) | Ctl.ret r => some r))))

set_option linter.unusedVariables false in
def fPasses_R (r : Bool) (w0 : World) (v : Value) (w : World) : Prop := v = .bool r ∧ St [] w0 w []

set_option maxRecDepth 100000 in
set_option maxHeartbeats 4000000 in
theorem fPasses_ok (N : Nat) (p0 : List Int) (p1 : Int) (A0 : Option Addr) (c0 : Nat) (r : Bool) (hF : fPasses N p0 p1 = some r) (w0 : World) (hv0 : Vw [] .i32 w0 A0 c0 p0) (hcd : MirB [] w0) :
  Calls Tryd.prog 5 #[.slice A0 p0.length c0, .int .i64 p1] w0 fun e w => ∃ v, e = .returned v ∧ fPasses_R r w0 v w := by
 have hS0 := St.start w0
 unfold fPasses at hF
 refine calls_of Tryd.func5 rfl ⟨((.slice A0 p0.length c0) :: (.int .i64 p1) :: un 102 ([])).toArray, []⟩ (by kernel_rfl) ?_
 refine gx_seq (fun K1 hK2 => ?_)
 refine gx_region ?_
 refine gx_k (.bool false) w0 ?_
 refine gx_nil ?_
 refine gx_thenN ?_
 refine hK2 _ _ ?_
 refine gx_seq (fun K3 hK4 => ?_)
 refine gx_seq (fun K5 hK6 => ?_)
 refine gx_region ?_
 refine gx_k (.slice A0 p0.length c0) w0 (gx_k (.int .i64 ((p0.length : Nat) : Int)) w0 ?_)
 rcases if_in hF with ⟨h7, hF⟩ | ⟨h7, hF⟩
 ·refine gx_v (.bool true) w0 (run_boolE (decide_eq_true h7) (by kernel_rfl)) ?_
  refine gx_nil ?_
  refine gx_thenN ?_
  refine hK6 _ _ ?_
  refine gx_yes (by kernel_rfl) ?_
  refine gx_seq (fun K8 hK9 => ?_)
  refine gx_region ?_
  have hP10 : St _ _ w0 ([] ++ []) := hS0
  obtain ⟨b12, hc11, hF⟩ := bind_in hF
  try dsimp only at hF
  refine gx_c (kWorks_R b12 w0) (kWorks_ok N  _ hc11 w0 (MirB.atL hcd hP10)) ?_
  rintro _ w13 ⟨rfl, hT15⟩
  have hS14 : St _ _ w13 [] := hS0.take _ hT15
  refine gx_k (.bool b12) w13 ?_
  refine gx_nil ?_
  refine gx_thenN ?_
  refine hK9 _ _ ?_
  refine gx_ret ?_
  refine gx_thenR ?_
  obtain rfl := Option.some.inj hF
  exact gx_fin (.bool b12) (by kernel_rfl) (by kernel_rfl) ⟨_, rfl, rfl, hS14⟩
 ·refine gx_v (.bool false) w0 (run_boolE (decide_eq_false h7) (by kernel_rfl)) ?_
  refine gx_nil ?_
  refine gx_thenN ?_
  refine hK6 _ _ ?_
  refine gx_no (by kernel_rfl) ?_
  refine gx_pass ?_
  refine gx_thenN ?_
  refine hK4 _ _ ?_
  refine gx_seq (fun K16 hK17 => ?_)
  refine gx_region ?_
  refine gx_k (.slice A0 p0.length c0) w0 ?_
  have hP18 : St _ _ w0 ([] ++ []) := hS0
  obtain ⟨l20, hc19, hF⟩ := bind_in hF
  try dsimp only at hF
  refine gx_c (pForms_R l20 w0) (pForms_ok N p0 A0 c0 _ hc19 w0 (hP18.vwA hv0) (MirB.atL hcd hP18)) ?_
  rintro _ w23 ⟨A21, c22, rfl, hT25⟩
  have hS24 : St _ _ w23 [rowE .u8 5 A21 c22 l20] := hS0.take _ hT25
  refine gx_k (.slice A21 l20.length c22) w23 ?_
  refine gx_nil ?_
  refine gx_thenN ?_
  refine hK17 _ _ ?_
  refine gx_seq (fun K26 hK27 => ?_)
  refine gx_seq (fun K28 hK29 => ?_)
  refine gx_region ?_
  refine gx_k (.slice A21 l20.length c22) w23 (gx_k (.int .i64 ((l20.length : Nat) : Int)) w23 (gx_k (.slice A0 p0.length c0) w23 (gx_k (.int .i64 ((p0.length : Nat) : Int)) w23 ?_)))
  rcases if_in hF with ⟨h30, hF⟩ | ⟨h30, hF⟩
  ·refine gx_v (.bool true) w23 (run_boolE (ne_yes h30) (by kernel_rfl)) ?_
   refine gx_nil ?_
   refine gx_thenN ?_
   refine hK29 _ _ ?_
   refine gx_yes (by kernel_rfl) ?_
   refine gx_seq (fun K31 hK32 => ?_)
   refine gx_region ?_
   refine gx_k (.bool false) w23 ?_
   refine gx_nil ?_
   refine gx_thenN ?_
   refine hK32 _ _ ?_
   refine gx_ret ?_
   refine gx_thenR ?_
   obtain rfl := Option.some.inj hF
   exact gx_fin (.bool false) (by kernel_rfl) (by kernel_rfl) ⟨_, rfl, rfl, (hS24.pick [] rfl rfl)⟩
  ·refine gx_v (.bool false) w23 (run_boolE (ne_no h30) (by kernel_rfl)) ?_
   refine gx_nil ?_
   refine gx_thenN ?_
   refine hK29 _ _ ?_
   refine gx_no (by kernel_rfl) ?_
   refine gx_pass ?_
   refine gx_thenN ?_
   refine hK27 _ _ ?_
   refine gx_seq (fun K33 hK34 => ?_)
   refine gx_region ?_
   refine gx_k (.slice none 0 0) w23 ?_
   refine gx_nil ?_
   refine gx_thenN ?_
   refine hK34 _ _ ?_
   refine gx_seq (fun K35 hK36 => ?_)
   refine gx_region ?_
   refine gx_k (.slice none 0 0) w23 ?_
   refine gx_nil ?_
   refine gx_thenN ?_
   refine hK36 _ _ ?_
   obtain ⟨c46, hE47, hO48⟩ := bind_in hF
   refine gx_cut (fun a w => ∃ (l42 : List Int) (l45 : List Int) (A40 : Option Addr) (c41 : Nat) (A43 : Option Addr) (c44 : Nat), selfA (fun u39 => ⟨((u39 0) :: (.int .i64 p1) :: undef :: undef :: dd u39 4 2 ((.slice A40 l42.length c41) :: (.slice A43 l45.length c44) :: (u39 8) :: undef :: (u39 10) :: (.int .i64 ((p0.length : Nat) : Int)) :: (.bool false) :: undef :: dd u39 14 3 ((.int .i64 ((l20.length : Nat) : Int)) :: (u39 18) :: (.int .i64 ((p0.length : Nat) : Int)) :: (.bool false) :: dd u39 21 31 (un 52 ([]))))).toArray, []⟩) a ∧ Ctl.go (l42, l45) = c46 ∧ St [] w0 w [rowE .i32 21 A40 c41 l42, rowE .u8 5 A43 c44 l45]) ?_ ?_
   ·refine gx_seq (fun K49 hK50 => ?_)
    refine gx_region ?_
    refine gx_k (.int .i64 0) w23 ?_
    refine gx_nil ?_
    refine gx_thenN ?_
    refine hK50 _ _ ?_
    refine gx_block ?_
    have hS51 : St _ _ w23 [rowE .u8 5 A21 c22 l20, rowE .i32 21 none 0 ([])] := hS24.nilrow .i32 21
    have hS52 : St _ _ w23 [rowE .u8 5 A21 c22 l20, rowE .i32 21 none 0 ([]), rowE .u8 5 none 0 ([])] := hS51.nilrow .u8 5
    refine gx_loop (fun k a w => ∃ (l58 : List Int) (l61 : List Int) (x62 : Int) (A56 : Option Addr) (c57 : Nat) (A59 : Option Addr) (c60 : Nat), selfA (fun u55 => ⟨((.slice A0 p0.length c0) :: (.int .i64 p1) :: undef :: undef :: (u55 4) :: (.slice A21 l20.length c22) :: (.slice A56 l58.length c57) :: (.slice A59 l61.length c60) :: (.int .i64 x62) :: undef :: (u55 10) :: (.int .i64 ((p0.length : Nat) : Int)) :: (.bool false) :: undef :: dd u55 14 3 ((.int .i64 ((l20.length : Nat) : Int)) :: (u55 18) :: (.int .i64 ((p0.length : Nat) : Int)) :: (.bool false) :: dd u55 21 31 (un 52 ([])))).toArray, []⟩) a ∧ fPasses_L1 N p0 l20 k l58 l61 x62 = some c46 ∧ St [] w0 w [rowE .u8 5 A21 c22 l20, rowE .i32 21 A56 c57 l58, rowE .u8 5 A59 c60 l61]) N ?_ ?_
    ·exact ⟨([]), ([]), 0, none, 0, none, 0, selfA_i (by kernel_rfl), hE47, hS52⟩
    ·rintro k63 _ w53 ⟨l58, l61, x62, A56, c57, A59, c60, hq118, hL64, hS54⟩
     obtain ⟨u55, rfl⟩ := selfA_u hq118
     cases k63 with
     | zero => cases hL64
     | succ k63 =>
      first | rw [fPasses_L1] at hL64 | unfold fPasses_L1 at hL64
      refine gx_seq (fun K65 hK66 => ?_)
      refine gx_seq (fun K67 hK68 => ?_)
      refine gx_region ?_
      refine gx_k (.int .i64 x62) w53 (gx_k (.slice A0 p0.length c0) w53 (gx_k (.int .i64 ((p0.length : Nat) : Int)) w53 ?_))
      rcases if_in hL64 with ⟨h69, hL64⟩ | ⟨h69, hL64⟩
      ·refine gx_v (.bool true) w53 (run_boolE (decide_eq_true h69) (by kernel_rfl)) ?_
       refine gx_nil ?_
       refine gx_thenN ?_
       refine hK68 _ _ ?_
       refine gx_yes (by kernel_rfl) ?_
       refine gx_pass ?_
       refine gx_thenN ?_
       refine hK66 _ _ ?_
       refine gx_seq (fun K70 hK71 => ?_)
       refine gx_block ?_
       refine gx_seq (fun K72 hK73 => ?_)
       refine gx_seq (fun K74 hK75 => ?_)
       refine gx_region ?_
       refine gx_k (.slice A0 p0.length c0) w53 (gx_k (.int .i64 x62) w53 ?_)
       obtain ⟨x76, hx77, hL64⟩ := bind_in hL64
       refine gx_v (.pointer (Option.map (fun (p : Addr) => p.add (Int.toNat x62 * 1)) A0)) w53 (run_ixaddr (E := 21) (s := 1) (k := .i64) (c := c0) rfl (by kernel_rfl) (by kernel_rfl) (by kernel_rfl) (fun _ => by kernel_rfl) (ix_in hx77).1 (ix_in hx77).2.1 (num_nil (hS54.view hv0))) ?_
       refine gx_v (.int .i32 x76) w53 (run_loadix rfl (by kernel_rfl) (fun _ => by kernel_rfl) (hS54.view hv0) hx77) ?_
       have hP78 : St _ _ w53 ([] ++ [rowE .u8 5 A21 c22 l20, rowE .i32 21 A56 c57 l58, rowE .u8 5 A59 c60 l61]) := hS54
       obtain ⟨x80, hc79, hL64⟩ := bind_in hL64
       try dsimp only at hL64
       refine gx_c (rfJn_R x80 w53) (rfJn_ok N x76 _ hc79 w53 ) ?_
       rintro _ w81 ⟨rfl, hT83⟩
       have hS82 : St _ _ w81 [rowE .u8 5 A21 c22 l20, rowE .i32 21 A56 c57 l58, rowE .u8 5 A59 c60 l61] := hS54.take _ hT83
       rcases if_in hL64 with ⟨h84, hL64⟩ | ⟨h84, hL64⟩
       ·refine gx_v (.bool true) w81 (run_boolE (decide_eq_true h84) (by kernel_rfl)) ?_
        refine gx_nil ?_
        refine gx_thenN ?_
        refine hK75 _ _ ?_
        refine gx_yes (by kernel_rfl) ?_
        refine gx_seq (fun K85 hK86 => ?_)
        refine gx_seq (fun K87 hK88 => ?_)
        refine gx_region ?_
        refine gx_k (.slice A21 l20.length c22) w81 (gx_k (.int .i64 x62) w81 ?_)
        obtain ⟨x89, hx90, hL64⟩ := bind_in hL64
        refine gx_v (.pointer (Option.map (fun (p : Addr) => p.add (Int.toNat x62 * 1)) A21)) w81 (run_ixaddr (E := 5) (s := 1) (k := .i64) (c := c22) rfl (by kernel_rfl) (by kernel_rfl) (by kernel_rfl) (fun _ => by kernel_rfl) (ix_in hx90).1 (ix_in hx90).2.1 (num_nil (hS82.row 0 rfl).1)) ?_
        refine gx_v (.int .u8 x89) w81 (run_loadix rfl (by kernel_rfl) (fun _ => by kernel_rfl) (hS82.row 0 rfl).1 hx90) ?_
        rcases if_in hL64 with ⟨h91, hL64⟩ | ⟨h91, hL64⟩
        ·refine gx_v (.bool true) w81 (run_boolE (ne_yes h91) (by kernel_rfl)) ?_
         refine gx_nil ?_
         refine gx_thenN ?_
         refine hK88 _ _ ?_
         refine gx_yes (by kernel_rfl) ?_
         refine gx_seq (fun K92 hK93 => ?_)
         refine gx_region ?_
         refine gx_k (.bool false) w81 ?_
         refine gx_nil ?_
         refine gx_thenN ?_
         refine hK93 _ _ ?_
         refine gx_ret ?_
         refine gx_thenR ?_
         refine gx_thenR ?_
         refine gx_blkR ?_
         refine gx_thenR ?_
         refine gx_thenR ?_
         refine gx_blkR ?_
         refine gx_thenR ?_
         obtain rfl := Option.some.inj hL64
         try dsimp only at hO48
         obtain rfl := Option.some.inj hO48
         exact gx_fin (.bool false) (by kernel_rfl) (by kernel_rfl) ⟨_, rfl, rfl, (hS82.pick [] rfl rfl)⟩
        ·refine gx_v (.bool false) w81 (run_boolE (ne_no h91) (by kernel_rfl)) ?_
         refine gx_nil ?_
         refine gx_thenN ?_
         refine hK88 _ _ ?_
         refine gx_no (by kernel_rfl) ?_
         refine gx_pass ?_
         refine gx_thenN ?_
         refine hK86 _ _ ?_
         refine gx_exit ?_
         refine gx_thenE ?_
         refine gx_blkE ?_
         refine gx_thenN ?_
         refine hK71 _ _ ?_
         refine gx_region ?_
         refine gx_k (.int .i64 x62) w81 (gx_k (.int .i64 (IntKind.i64.wrap (x62 + 1))) w81 (gx_k (.int .i64 (IntKind.i64.wrap (x62 + 1))) w81 ?_))
         refine gx_nil ?_
         refine gx_thenN ?_
         exact ⟨k63, Nat.lt_succ_self k63, l58, l61, (IntKind.i64.wrap (x62 + 1)), A56, c57, A59, c60, selfA_i (by kernel_rfl), hL64, hS82⟩
       ·refine gx_v (.bool false) w81 (run_boolE (decide_eq_false h84) (by kernel_rfl)) ?_
        refine gx_nil ?_
        refine gx_thenN ?_
        refine hK75 _ _ ?_
        refine gx_no (by kernel_rfl) ?_
        refine gx_pass ?_
        refine gx_thenN ?_
        refine hK73 _ _ ?_
        refine gx_seq (fun K94 hK95 => ?_)
        refine gx_region ?_
        refine gx_k (.slice A56 l58.length c57) w81 (gx_k (.slice A0 p0.length c0) w81 (gx_k (.int .i64 x62) w81 ?_))
        obtain ⟨x96, hx97, hL64⟩ := bind_in hL64
        refine gx_v (.pointer (Option.map (fun (p : Addr) => p.add (Int.toNat x62 * 1)) A0)) w81 (run_ixaddr (E := 21) (s := 1) (k := .i64) (c := c0) rfl (by kernel_rfl) (by kernel_rfl) (by kernel_rfl) (fun _ => by kernel_rfl) (ix_in hx97).1 (ix_in hx97).2.1 (num_nil (hS82.view hv0))) ?_
        refine gx_v (.int .i32 x96) w81 (run_loadix rfl (by kernel_rfl) (fun _ => by kernel_rfl) (hS82.view hv0) hx97) ?_
        refine gx_r (st_made .i32 21 [x96] hS82 (by show 1 ≤ 1000000000; decide) (by kernel_rfl)) ?_
        rintro _ w98 ⟨rfl, hS99⟩
        have hS99 : St _ _ w98 [rowE .u8 5 A21 c22 l20, rowE .i32 21 A56 c57 l58, rowE .u8 5 A59 c60 l61, rowE .i32 21 (some ⟨w81.heap.size, 0, none⟩) 1 ([x96])] := hS99
        obtain ⟨l100, ha101, hL64⟩ := bind_in hL64
        obtain ⟨ha101, hq102⟩ := apx_in ha101
        refine gx_r (st_append rfl (by kernel_rfl) (by kernel_rfl) hS99 1 rfl (hS99.row 3 rfl).1 (hS99.row 3 rfl).2 ha101 (by kernel_rfl) (by kernel_rfl)) ?_
        rintro _ w105 ⟨A103, c104, rfl, hS106⟩
        rw [← hq102] at hS106 ⊢
        have hS106 : St _ _ w105 [rowE .u8 5 A21 c22 l20, rowE .i32 21 A103 c104 l100, rowE .u8 5 A59 c60 l61, rowE .i32 21 (some ⟨w81.heap.size, 0, none⟩) 1 ([x96])] := hS106
        refine gx_k (.slice A103 l100.length c104) w105 ?_
        refine gx_nil ?_
        refine gx_thenN ?_
        refine hK95 _ _ ?_
        refine gx_region ?_
        refine gx_k (.slice A59 l61.length c60) w105 (gx_k (.slice A21 l20.length c22) w105 (gx_k (.int .i64 x62) w105 ?_))
        obtain ⟨x107, hx108, hL64⟩ := bind_in hL64
        refine gx_v (.pointer (Option.map (fun (p : Addr) => p.add (Int.toNat x62 * 1)) A21)) w105 (run_ixaddr (E := 5) (s := 1) (k := .i64) (c := c22) rfl (by kernel_rfl) (by kernel_rfl) (by kernel_rfl) (fun _ => by kernel_rfl) (ix_in hx108).1 (ix_in hx108).2.1 (num_nil (hS106.row 0 rfl).1)) ?_
        refine gx_v (.int .u8 x107) w105 (run_loadix rfl (by kernel_rfl) (fun _ => by kernel_rfl) (hS106.row 0 rfl).1 hx108) ?_
        refine gx_r (st_made .u8 5 [x107] hS106 (by show 1 ≤ 1000000000; decide) (by kernel_rfl)) ?_
        rintro _ w109 ⟨rfl, hS110⟩
        have hS110 : St _ _ w109 [rowE .u8 5 A21 c22 l20, rowE .i32 21 A103 c104 l100, rowE .u8 5 A59 c60 l61, rowE .i32 21 (some ⟨w81.heap.size, 0, none⟩) 1 ([x96]), rowE .u8 5 (some ⟨w105.heap.size, 0, none⟩) 1 ([x107])] := hS110
        obtain ⟨l111, ha112, hL64⟩ := bind_in hL64
        obtain ⟨ha112, hq113⟩ := apx_in ha112
        refine gx_r (st_append rfl (by kernel_rfl) (by kernel_rfl) hS110 2 rfl (hS110.row 4 rfl).1 (hS110.row 4 rfl).2 ha112 (by kernel_rfl) (by kernel_rfl)) ?_
        rintro _ w116 ⟨A114, c115, rfl, hS117⟩
        rw [← hq113] at hS117 ⊢
        have hS117 : St _ _ w116 [rowE .u8 5 A21 c22 l20, rowE .i32 21 A103 c104 l100, rowE .u8 5 A114 c115 l111, rowE .i32 21 (some ⟨w81.heap.size, 0, none⟩) 1 ([x96]), rowE .u8 5 (some ⟨w105.heap.size, 0, none⟩) 1 ([x107])] := hS117
        refine gx_k (.slice A114 l111.length c115) w116 ?_
        refine gx_nil ?_
        refine gx_blkN ?_
        refine gx_thenN ?_
        refine hK71 _ _ ?_
        refine gx_region ?_
        refine gx_k (.int .i64 x62) w116 (gx_k (.int .i64 (IntKind.i64.wrap (x62 + 1))) w116 (gx_k (.int .i64 (IntKind.i64.wrap (x62 + 1))) w116 ?_))
        refine gx_nil ?_
        refine gx_thenN ?_
        exact ⟨k63, Nat.lt_succ_self k63, l100, l111, (IntKind.i64.wrap (x62 + 1)), A103, c104, A114, c115, selfA_i (by kernel_rfl), hL64, (hS117.pick [0, 1, 2] rfl rfl)⟩
      ·refine gx_v (.bool false) w53 (run_boolE (decide_eq_false h69) (by kernel_rfl)) ?_
       refine gx_nil ?_
       refine gx_thenN ?_
       refine hK68 _ _ ?_
       refine gx_no (by kernel_rfl) ?_
       refine gx_exit ?_
       refine gx_thenE ?_
       refine gx_thenE ?_
       refine gx_blkE ?_
       refine gx_thenN ?_
       exact ⟨l58, l61, A56, c57, A59, c60, selfA_i (by kernel_rfl), (Option.some.inj hL64), (hS54.pick [1, 2] rfl rfl)⟩
   ·rintro _ w37 ⟨l42, l45, A40, c41, A43, c44, hq249, rfl, hS38⟩
    obtain ⟨u39, rfl⟩ := selfA_u hq249
    try dsimp only at hO48
    refine gx_seq (fun K119 hK120 => ?_)
    refine gx_seq (fun K121 hK122 => ?_)
    refine gx_region ?_
    refine gx_k (.slice A40 l42.length c41) w37 ?_
    have hP123 : St _ _ w37 ([] ++ [rowE .i32 21 A40 c41 l42, rowE .u8 5 A43 c44 l45]) := hS38
    obtain ⟨l125, hc124, hO48⟩ := bind_in hO48
    try dsimp only at hO48
    refine gx_c (pForms_R l125 w37) (pForms_ok N l42 A40 c41 _ hc124 w37 (hP123.vwB 0 rfl) (MirB.atL hcd hP123)) ?_
    rintro _ w128 ⟨A126, c127, rfl, hT130⟩
    have hS129 : St _ _ w128 [rowE .i32 21 A40 c41 l42, rowE .u8 5 A43 c44 l45, rowE .u8 5 A126 c127 l125] := hS38.take _ hT130
    refine gx_k (.slice A43 l45.length c44) w128 ?_
    have hP131 : St _ _ w128 ([] ++ [rowE .i32 21 A40 c41 l42, rowE .u8 5 A43 c44 l45, rowE .u8 5 A126 c127 l125]) := hS129
    obtain ⟨b133, hc132, hO48⟩ := bind_in hO48
    try dsimp only at hO48
    refine gx_c (kSame_R b133 w128) (kSame_ok N l125 l45 A126 c127 A43 c44 _ hc132 w128 (hP131.vwB 2 rfl) (hP131.vwB 1 rfl)) ?_
    rintro _ w134 ⟨rfl, hT136⟩
    have hS135 : St _ _ w134 [rowE .i32 21 A40 c41 l42, rowE .u8 5 A43 c44 l45, rowE .u8 5 A126 c127 l125] := hS129.take _ hT136
    cases b133 with
    | true =>
     try dsimp only at hO48
     refine gx_k (.bool false) w134 ?_
     refine gx_nil ?_
     refine gx_thenN ?_
     refine hK122 _ _ ?_
     refine gx_no (by kernel_rfl) ?_
     refine gx_pass ?_
     refine gx_thenN ?_
     refine hK120 _ _ ?_
     refine gx_seq (fun K137 hK138 => ?_)
     refine gx_region ?_
     refine gx_k (.int .i64 p1) w134 (gx_k (.slice A40 l42.length c41) w134 (gx_k (.int .i64 ((l42.length : Nat) : Int)) w134 (gx_k (.int .i64 (IntKind.i64.wrap (((l42.length : Nat) : Int) + 1))) w134 ?_)))
     have hP139 : St _ _ w134 ([] ++ [rowE .i32 21 A40 c41 l42, rowE .u8 5 A43 c44 l45, rowE .u8 5 A126 c127 l125]) := hS135
     obtain ⟨x141, hc140, hO48⟩ := bind_in hO48
     try dsimp only at hO48
     refine gx_c (kPick_R x141 w134) (kPick_ok N p1 (IntKind.i64.wrap (((l42.length : Nat) : Int) + 1)) _ hc140 w134 ) ?_
     rintro _ w142 ⟨rfl, hT144⟩
     have hS143 : St _ _ w142 [rowE .i32 21 A40 c41 l42, rowE .u8 5 A43 c44 l45, rowE .u8 5 A126 c127 l125] := hS135.take _ hT144
     refine gx_k (.int .i64 x141) w142 ?_
     refine gx_nil ?_
     refine gx_thenN ?_
     refine hK138 _ _ ?_
     obtain ⟨c148, hE149, hO150⟩ := bind_in hO48
     refine gx_cut (fun a w => selfA (fun u147 => ⟨((u39 0) :: (.int .i64 p1) :: undef :: undef :: (u147 4) :: (u39 5) :: (.slice A40 l42.length c41) :: (.slice A43 l45.length c44) :: (u39 8) :: (.int .i64 x141) :: (u39 10) :: (.int .i64 ((p0.length : Nat) : Int)) :: (.bool false) :: undef :: dd u39 14 3 ((.int .i64 ((l20.length : Nat) : Int)) :: (u39 18) :: (.int .i64 ((p0.length : Nat) : Int)) :: (.bool false) :: dd u39 21 31 (dd u147 52 3 ((.bool true) :: (.bool false) :: (.int .i64 p1) :: (u147 58) :: (.int .i64 ((l42.length : Nat) : Int)) :: (.int .i64 (IntKind.i64.wrap (((l42.length : Nat) : Int) + 1))) :: (.int .i64 x141) :: dd u147 62 21 (un 21 ([])))))).toArray, []⟩) a ∧ Ctl.go () = c148 ∧ St [] w0 w [rowE .i32 21 A40 c41 l42, rowE .u8 5 A43 c44 l45]) ?_ ?_
     ·refine gx_seq (fun K151 hK152 => ?_)
      refine gd_start (fun w => St [] w0 w [rowE .i32 21 A40 c41 l42, rowE .u8 5 A43 c44 l45, rowE .u8 5 A126 c127 l125]) 20 #[false, false, false, false, false, false, false, false, false, false, false, false, false, false, false, false, false, false, false, false] (by kernel_rfl) (by kernel_rfl) ?_
      have hS154 := hS143.drew
      generalize w142.drew = w153 at hS154 ⊢
      refine gv1 0 62 (.int .i64 x141) rfl hS154 ?_
      obtain ⟨c159, hE160, hO161⟩ := bind_in hE149
      refine gd_mid (fun a w => ∃ (b158 : Bool), selfA (fun u157 => ⟨((u39 0) :: (.int .i64 p1) :: undef :: undef :: dd u39 4 2 ((.slice A40 l42.length c41) :: (.slice A43 l45.length c44) :: (u39 8) :: (.int .i64 x141) :: (u39 10) :: (.int .i64 ((p0.length : Nat) : Int)) :: (.bool false) :: undef :: dd u39 14 3 ((.int .i64 ((l20.length : Nat) : Int)) :: (u39 18) :: (.int .i64 ((p0.length : Nat) : Int)) :: (.bool false) :: dd u39 21 31 (dd u157 52 3 ((.bool true) :: (.bool false) :: (.int .i64 p1) :: (u157 58) :: (.int .i64 ((l42.length : Nat) : Int)) :: (.int .i64 (IntKind.i64.wrap (((l42.length : Nat) : Int) + 1))) :: (.int .i64 x141) :: (.int .i64 x141) :: dd u157 63 6 ((.bool b158) :: un 34 ([]))))))).toArray, []⟩) a ∧ b158 = c159 ∧ St [] w0 w [rowE .i32 21 A40 c41 l42, rowE .u8 5 A43 c44 l45, rowE .u8 5 A126 c127 l125]) 12 #[true, true, true, true, true, true, true, true, false, false, false, false, false, false, false, false, false, false, false, false] ?_ ?_
      ·rintro _ w155 ⟨b158, hq162, rfl, hS156⟩
       obtain ⟨u157, rfl⟩ := selfA_u hq162
       try dsimp only at hO161
       refine gv1 8 70 (.bool b158) rfl hS156 ?_
       cases b158 with
       | true =>
        try dsimp only at hO161
        refine gv1 9 71 (.slice A40 l42.length c41) rfl hS156 ?_
        refine gv1 10 72 (.int .i64 x141) rfl hS156 ?_
        refine gv1 11 73 (.int .i64 (IntKind.i64.wrap (x141 - 1))) rfl hS156 ?_
        obtain ⟨x166, hx167, hO161⟩ := bind_in hO161
        refine gu1 12 74 (.pointer (Option.map (fun (p : Addr) => p.add (Int.toNat (IntKind.i64.wrap (x141 - 1)) * 1)) A40)) rfl hS156 (fun w hSw => run_ixaddr (E := 21) (s := 1) (k := .i64) (c := c41) rfl (by kernel_rfl) (by kernel_rfl) (by kernel_rfl) (fun _ => by kernel_rfl) (ix_in hx167).1 (ix_in hx167).2.1 (num_nil (hS156.row 0 rfl).1)) ?_
        refine gu1 13 75 (.int .i32 x166) rfl hS156 (fun w hSw => run_loadix rfl (by kernel_rfl) (fun _ => by kernel_rfl) (hSw.row 0 rfl).1 hx167) ?_
        refine gv1 14 76 (.slice A40 l42.length c41) rfl hS156 ?_
        refine gv1 15 77 (.int .i64 x141) rfl hS156 ?_
        obtain ⟨x168, hx169, hO161⟩ := bind_in hO161
        refine gu1 16 78 (.pointer (Option.map (fun (p : Addr) => p.add (Int.toNat x141 * 1)) A40)) rfl hS156 (fun w hSw => run_ixaddr (E := 21) (s := 1) (k := .i64) (c := c41) rfl (by kernel_rfl) (by kernel_rfl) (by kernel_rfl) (fun _ => by kernel_rfl) (ix_in hx169).1 (ix_in hx169).2.1 (num_nil (hS156.row 0 rfl).1)) ?_
        refine gu1 17 79 (.int .i32 x168) rfl hS156 (fun w hSw => run_loadix rfl (by kernel_rfl) (fun _ => by kernel_rfl) (hSw.row 0 rfl).1 hx169) ?_
        have hP170 : St _ _ w155 ([] ++ [rowE .i32 21 A40 c41 l42, rowE .u8 5 A43 c44 l45, rowE .u8 5 A126 c127 l125]) := hS156
        obtain ⟨b172, hc171, hO161⟩ := bind_in hO161
        try dsimp only at hO161
        refine gdC 18 { dst := some 80, op := _, type := _, pos := _, after := _, guard := _ } (pJoins_R b172 w155) rfl (by kernel_rfl) (pJoins_ok N x166 x168 _ hc171 w155 ) ?_
        rintro _ w173 ⟨rfl, hT175⟩
        have hS174 : St _ _ w173 [rowE .i32 21 A40 c41 l42, rowE .u8 5 A43 c44 l45, rowE .u8 5 A126 c127 l125] := hS156.take _ hT175
        refine ⟨hS174, ?_⟩
        refine gv1 19 81 (.bool b172) rfl hS174 ?_
        refine gd_done (by kernel_rfl) ?_
        refine gx_thenN ?_
        refine hK152 _ _ ?_
        cases b172 with
        | true =>
         try dsimp only at hO161
         refine gx_yes (by kernel_rfl) ?_
         refine gx_seq (fun K176 hK177 => ?_)
         refine gx_region ?_
         have hP178 : St _ _ w173 ([] ++ [rowE .i32 21 A40 c41 l42, rowE .u8 5 A43 c44 l45, rowE .u8 5 A126 c127 l125]) := hS174
         obtain ⟨b180, hc179, hO161⟩ := bind_in hO161
         try dsimp only at hO161
         refine gx_c (kWorks_R b180 w173) (kWorks_ok N  _ hc179 w173 (MirB.atL hcd hP178)) ?_
         rintro _ w181 ⟨rfl, hT183⟩
         have hS182 : St _ _ w181 [rowE .i32 21 A40 c41 l42, rowE .u8 5 A43 c44 l45, rowE .u8 5 A126 c127 l125] := hS174.take _ hT183
         refine gx_k (.bool b180) w181 ?_
         refine gx_nil ?_
         refine gx_thenN ?_
         refine hK177 _ _ ?_
         refine gx_ret ?_
         refine gx_thenR ?_
         obtain rfl := Option.some.inj hO161
         try dsimp only at hO150
         obtain rfl := Option.some.inj hO150
         exact gx_fin (.bool b180) (by kernel_rfl) (by kernel_rfl) ⟨_, rfl, rfl, (hS182.pick [] rfl rfl)⟩
        | false =>
         try dsimp only at hO161
         refine gx_no (by kernel_rfl) ?_
         refine gx_pass ?_
         refine gx_thenN ?_
         exact ⟨selfA_i (by kernel_rfl), (Option.some.inj hO161), (hS174.pick [0, 1] rfl rfl)⟩
       | false =>
        try dsimp only at hO161
        refine gz1 9 71 rfl hS156 ?_
        refine gz1 10 72 rfl hS156 ?_
        refine gz1 11 73 rfl hS156 ?_
        refine gz1 12 74 rfl hS156 ?_
        refine gz1 13 75 rfl hS156 ?_
        refine gz1 14 76 rfl hS156 ?_
        refine gz1 15 77 rfl hS156 ?_
        refine gz1 16 78 rfl hS156 ?_
        refine gz1 17 79 rfl hS156 ?_
        refine gz1 18 80 rfl hS156 ?_
        refine gv1 19 81 (.bool false) rfl hS156 ?_
        refine gd_done (by kernel_rfl) ?_
        refine gx_thenN ?_
        refine hK152 _ _ ?_
        refine gx_no (by kernel_rfl) ?_
        refine gx_pass ?_
        refine gx_thenN ?_
        exact ⟨selfA_i (by kernel_rfl), (Option.some.inj hO161), (hS156.pick [0, 1] rfl rfl)⟩
      ·intro hK163
       rcases if_in hE160 with ⟨h164, hE160⟩ | ⟨h164, hE160⟩
       ·refine gu1 1 63 (.bool true) rfl hS154 (fun w hSw => run_boolE (decide_eq_true h164) (by kernel_rfl)) ?_
        refine gv1 2 64 (.bool true) rfl hS154 ?_
        refine gv1 3 65 (.int .i64 x141) rfl hS154 ?_
        refine gv1 4 66 (.slice A40 l42.length c41) rfl hS154 ?_
        refine gv1 5 67 (.int .i64 ((l42.length : Nat) : Int)) rfl hS154 ?_
        rcases if_in hE160 with ⟨h165, hE160⟩ | ⟨h165, hE160⟩
        ·refine gu1 6 68 (.bool true) rfl hS154 (fun w hSw => run_boolE (decide_eq_true h165) (by kernel_rfl)) ?_
         refine gv1 7 69 (.bool true) rfl hS154 ?_
         exact gd_to hK163 (by kernel_rfl) ⟨true, selfA_i (by kernel_rfl), (Option.some.inj hE160), hS154⟩
        ·refine gu1 6 68 (.bool false) rfl hS154 (fun w hSw => run_boolE (decide_eq_false h165) (by kernel_rfl)) ?_
         refine gv1 7 69 (.bool false) rfl hS154 ?_
         exact gd_to hK163 (by kernel_rfl) ⟨false, selfA_i (by kernel_rfl), (Option.some.inj hE160), hS154⟩
       ·refine gu1 1 63 (.bool false) rfl hS154 (fun w hSw => run_boolE (decide_eq_false h164) (by kernel_rfl)) ?_
        refine gv1 2 64 (.bool false) rfl hS154 ?_
        refine gz1 3 65 rfl hS154 ?_
        refine gz1 4 66 rfl hS154 ?_
        refine gz1 5 67 rfl hS154 ?_
        refine gz1 6 68 rfl hS154 ?_
        refine gv1 7 69 (.bool false) rfl hS154 ?_
        exact gd_to hK163 (by kernel_rfl) ⟨false, selfA_i (by kernel_rfl), (Option.some.inj hE160), hS154⟩
     ·rintro _ w145 ⟨hq246, rfl, hS146⟩
      obtain ⟨u147, rfl⟩ := selfA_u hq246
      try dsimp only at hO150
      refine gx_seq (fun K184 hK185 => ?_)
      refine gd_start (fun w => St [] w0 w [rowE .i32 21 A40 c41 l42, rowE .u8 5 A43 c44 l45]) 22 #[false, false, false, false, false, false, false, false, false, false, false, false, false, false, false, false, false, false, false, false, false, false] (by kernel_rfl) (by kernel_rfl) ?_
      have hS187 := hS146.drew
      generalize w145.drew = w186 at hS187 ⊢
      refine gv1 0 83 (.slice A40 l42.length c41) rfl hS187 ?_
      refine gv1 1 84 (.int .i64 x141) rfl hS187 ?_
      obtain ⟨l188, hx189, hO150⟩ := bind_in hO150
      obtain ⟨A190, c191, hA192⟩ := cut_is A40 (Int.toNat (0 : Int)) (Int.toNat x141) c41
      rw [← cutx_len hx189] at hA192
      refine gu1 2 85 (.slice A190 l188.length c191) rfl hS187 (fun w hSw => run_cut (TE := 21) (n := l42.length) (l := Int.toNat (0 : Int)) (h := Int.toNat x141) none (some (.int .i64 x141)) rfl (by kernel_rfl) (by kernel_rfl) (by kernel_rfl) (by kernel_rfl) (fun _ => by kernel_rfl) (bnd_h (cutx_in hx189).2.1 (Int.le_trans (cutx_in hx189).2.2.1 (by exact_mod_cast num_room (hS187.row 0 rfl).1))) hA192) ?_
      refine gv1 4 87 (.slice A43 l45.length c44) rfl hS187 ?_
      refine gv1 5 88 (.int .i64 x141) rfl hS187 ?_
      obtain ⟨l194, hx195, hO150⟩ := bind_in hO150
      obtain ⟨A196, c197, hA198⟩ := cut_is A43 (Int.toNat (0 : Int)) (Int.toNat x141) c44
      rw [← cutx_len hx195] at hA198
      refine gu1 6 89 (.slice A196 l194.length c197) rfl hS187 (fun w hSw => run_cut (TE := 5) (n := l45.length) (l := Int.toNat (0 : Int)) (h := Int.toNat x141) none (some (.int .i64 x141)) rfl (by kernel_rfl) (by kernel_rfl) (by kernel_rfl) (by kernel_rfl) (fun _ => by kernel_rfl) (bnd_h (cutx_in hx195).2.1 (Int.le_trans (cutx_in hx195).2.2.1 (by exact_mod_cast num_room (hS187.row 1 rfl).1))) hA198) ?_
      have hP200 : St _ _ w186 ([] ++ [rowE .i32 21 A40 c41 l42, rowE .u8 5 A43 c44 l45]) := hS187
      obtain ⟨l202, hc201, hO150⟩ := bind_in hO150
      try dsimp only at hO150
      refine gdC 3 { dst := some 86, op := _, type := _, pos := _, after := _, guard := _ } (pForms_R l202 w186) rfl (by kernel_rfl) (pForms_ok N l188 A190 c191 _ hc201 w186 (Vw.of (num_cut (hS187.row 0 rfl).1 hx189 hA192) (cut_nn (hS187.row 0 rfl).2 hA192)) (MirB.atL hcd hP200)) ?_
      rintro _ w205 ⟨A203, c204, rfl, hT207⟩
      have hS206 : St _ _ w205 [rowE .i32 21 A40 c41 l42, rowE .u8 5 A43 c44 l45, rowE .u8 5 A203 c204 l202] := hS187.take _ hT207
      refine ⟨(hS206.pick [0, 1] rfl rfl), ?_⟩
      have hP208 : St _ _ w205 ([] ++ [rowE .i32 21 A40 c41 l42, rowE .u8 5 A43 c44 l45, rowE .u8 5 A203 c204 l202]) := hS206
      obtain ⟨b210, hc209, hO150⟩ := bind_in hO150
      try dsimp only at hO150
      refine gdC 7 { dst := some 90, op := _, type := _, pos := _, after := _, guard := _ } (kSame_R b210 w205) rfl (by kernel_rfl) (kSame_ok N l202 l194 A203 c204 A196 c197 _ hc209 w205 (hP208.vwB 2 rfl) (Vw.of (num_cut (hS206.row 1 rfl).1 hx195 hA198) (cut_nn (hS206.row 1 rfl).2 hA198))) ?_
      rintro _ w211 ⟨rfl, hT213⟩
      have hS212 : St _ _ w211 [rowE .i32 21 A40 c41 l42, rowE .u8 5 A43 c44 l45, rowE .u8 5 A203 c204 l202] := hS206.take _ hT213
      refine ⟨(hS212.pick [0, 1] rfl rfl), ?_⟩
      refine gv1 8 91 (.bool b210) rfl (hS212.pick [0, 1] rfl rfl) ?_
      cases b210 with
      | true =>
       try dsimp only at hO150
       refine gv1 9 92 (.slice A40 l42.length c41) rfl (hS212.pick [0, 1] rfl rfl) ?_
       refine gv1 10 93 (.int .i64 x141) rfl (hS212.pick [0, 1] rfl rfl) ?_
       obtain ⟨l214, hx215, hO150⟩ := bind_in hO150
       obtain ⟨A216, c217, hA218⟩ := cut_is A40 (Int.toNat x141) (Int.toNat ((l42.length : Nat) : Int)) c41
       rw [← cutx_len hx215] at hA218
       refine gu1 11 94 (.slice A216 l214.length c217) rfl (hS212.pick [0, 1] rfl rfl) (fun w hSw => run_cut (TE := 21) (n := l42.length) (l := Int.toNat x141) (h := Int.toNat ((l42.length : Nat) : Int)) (some (.int .i64 x141)) none rfl (by kernel_rfl) (by kernel_rfl) (by kernel_rfl) (by kernel_rfl) (fun _ => by kernel_rfl) (bnd_l (cutx_in hx215).1 (cutx_in hx215).2.1) hA218) ?_
       refine gv1 13 96 (.slice A43 l45.length c44) rfl (hS212.pick [0, 1] rfl rfl) ?_
       refine gv1 14 97 (.int .i64 x141) rfl (hS212.pick [0, 1] rfl rfl) ?_
       obtain ⟨l220, hx221, hO150⟩ := bind_in hO150
       obtain ⟨A222, c223, hA224⟩ := cut_is A43 (Int.toNat x141) (Int.toNat ((l45.length : Nat) : Int)) c44
       rw [← cutx_len hx221] at hA224
       refine gu1 15 98 (.slice A222 l220.length c223) rfl (hS212.pick [0, 1] rfl rfl) (fun w hSw => run_cut (TE := 5) (n := l45.length) (l := Int.toNat x141) (h := Int.toNat ((l45.length : Nat) : Int)) (some (.int .i64 x141)) none rfl (by kernel_rfl) (by kernel_rfl) (by kernel_rfl) (by kernel_rfl) (fun _ => by kernel_rfl) (bnd_l (cutx_in hx221).1 (cutx_in hx221).2.1) hA224) ?_
       have hP226 : St _ _ w211 ([] ++ [rowE .i32 21 A40 c41 l42, rowE .u8 5 A43 c44 l45, rowE .u8 5 A203 c204 l202]) := hS212
       obtain ⟨l228, hc227, hO150⟩ := bind_in hO150
       try dsimp only at hO150
       refine gdC 12 { dst := some 95, op := _, type := _, pos := _, after := _, guard := _ } (pForms_R l228 w211) rfl (by kernel_rfl) (pForms_ok N l214 A216 c217 _ hc227 w211 (Vw.of (num_cut (hS212.row 0 rfl).1 hx215 hA218) (cut_nn (hS212.row 0 rfl).2 hA218)) (MirB.atL hcd hP226)) ?_
       rintro _ w231 ⟨A229, c230, rfl, hT233⟩
       have hS232 : St _ _ w231 [rowE .i32 21 A40 c41 l42, rowE .u8 5 A43 c44 l45, rowE .u8 5 A203 c204 l202, rowE .u8 5 A229 c230 l228] := hS212.take _ hT233
       refine ⟨(hS232.pick [0, 1] rfl rfl), ?_⟩
       have hP234 : St _ _ w231 ([] ++ [rowE .i32 21 A40 c41 l42, rowE .u8 5 A43 c44 l45, rowE .u8 5 A203 c204 l202, rowE .u8 5 A229 c230 l228]) := hS232
       obtain ⟨b236, hc235, hO150⟩ := bind_in hO150
       try dsimp only at hO150
       refine gdC 16 { dst := some 99, op := _, type := _, pos := _, after := _, guard := _ } (kSame_R b236 w231) rfl (by kernel_rfl) (kSame_ok N l228 l220 A229 c230 A222 c223 _ hc235 w231 (hP234.vwB 3 rfl) (Vw.of (num_cut (hS232.row 1 rfl).1 hx221 hA224) (cut_nn (hS232.row 1 rfl).2 hA224))) ?_
       rintro _ w237 ⟨rfl, hT239⟩
       have hS238 : St _ _ w237 [rowE .i32 21 A40 c41 l42, rowE .u8 5 A43 c44 l45, rowE .u8 5 A203 c204 l202, rowE .u8 5 A229 c230 l228] := hS232.take _ hT239
       refine ⟨(hS238.pick [0, 1] rfl rfl), ?_⟩
       refine gv1 17 100 (.bool b236) rfl (hS238.pick [0, 1] rfl rfl) ?_
       refine gv1 18 101 (.bool b236) rfl (hS238.pick [0, 1] rfl rfl) ?_
       cases b236 with
       | true =>
        try dsimp only at hO150
        have hP240 : St _ _ w237 ([] ++ [rowE .i32 21 A40 c41 l42, rowE .u8 5 A43 c44 l45, rowE .u8 5 A203 c204 l202, rowE .u8 5 A229 c230 l228]) := hS238
        obtain ⟨b242, hc241, hO150⟩ := bind_in hO150
        try dsimp only at hO150
        refine gdC 19 { dst := some 102, op := _, type := _, pos := _, after := _, guard := _ } (kWorks_R b242 w237) rfl (by kernel_rfl) (kWorks_ok N  _ hc241 w237 (MirB.atL hcd hP240)) ?_
        rintro _ w243 ⟨rfl, hT245⟩
        have hS244 : St _ _ w243 [rowE .i32 21 A40 c41 l42, rowE .u8 5 A43 c44 l45, rowE .u8 5 A203 c204 l202, rowE .u8 5 A229 c230 l228] := hS238.take _ hT245
        refine ⟨(hS244.pick [0, 1] rfl rfl), ?_⟩
        refine gv1 20 103 (.bool b242) rfl (hS244.pick [0, 1] rfl rfl) ?_
        refine gv1 21 4 (.bool b242) rfl (hS244.pick [0, 1] rfl rfl) ?_
        refine gd_done (by kernel_rfl) ?_
        refine gx_thenN ?_
        refine hK185 _ _ ?_
        refine gx_ret ?_
        obtain rfl := Option.some.inj hO150
        exact gx_fin (.bool b242) (by kernel_rfl) (by kernel_rfl) ⟨_, rfl, rfl, (hS244.pick [] rfl rfl)⟩
       | false =>
        try dsimp only at hO150
        refine gz1 19 102 rfl (hS238.pick [0, 1] rfl rfl) ?_
        refine gv1 20 103 (.bool false) rfl (hS238.pick [0, 1] rfl rfl) ?_
        refine gv1 21 4 (.bool false) rfl (hS238.pick [0, 1] rfl rfl) ?_
        refine gd_done (by kernel_rfl) ?_
        refine gx_thenN ?_
        refine hK185 _ _ ?_
        refine gx_ret ?_
        obtain rfl := Option.some.inj hO150
        exact gx_fin (.bool false) (by kernel_rfl) (by kernel_rfl) ⟨_, rfl, rfl, (hS238.pick [] rfl rfl)⟩
      | false =>
       try dsimp only at hO150
       refine gz1 9 92 rfl (hS212.pick [0, 1] rfl rfl) ?_
       refine gz1 10 93 rfl (hS212.pick [0, 1] rfl rfl) ?_
       refine gz1 11 94 rfl (hS212.pick [0, 1] rfl rfl) ?_
       refine gz1 12 95 rfl (hS212.pick [0, 1] rfl rfl) ?_
       refine gz1 13 96 rfl (hS212.pick [0, 1] rfl rfl) ?_
       refine gz1 14 97 rfl (hS212.pick [0, 1] rfl rfl) ?_
       refine gz1 15 98 rfl (hS212.pick [0, 1] rfl rfl) ?_
       refine gz1 16 99 rfl (hS212.pick [0, 1] rfl rfl) ?_
       refine gv1 17 100 (.bool false) rfl (hS212.pick [0, 1] rfl rfl) ?_
       refine gv1 18 101 (.bool false) rfl (hS212.pick [0, 1] rfl rfl) ?_
       refine gz1 19 102 rfl (hS212.pick [0, 1] rfl rfl) ?_
       refine gv1 20 103 (.bool false) rfl (hS212.pick [0, 1] rfl rfl) ?_
       refine gv1 21 4 (.bool false) rfl (hS212.pick [0, 1] rfl rfl) ?_
       refine gd_done (by kernel_rfl) ?_
       refine gx_thenN ?_
       refine hK185 _ _ ?_
       refine gx_ret ?_
       obtain rfl := Option.some.inj hO150
       exact gx_fin (.bool false) (by kernel_rfl) (by kernel_rfl) ⟨_, rfl, rfl, (hS212.pick [] rfl rfl)⟩
    | false =>
     try dsimp only at hO48
     refine gx_k (.bool true) w134 ?_
     refine gx_nil ?_
     refine gx_thenN ?_
     refine hK122 _ _ ?_
     refine gx_yes (by kernel_rfl) ?_
     refine gx_seq (fun K247 hK248 => ?_)
     refine gx_region ?_
     refine gx_k (.bool false) w134 ?_
     refine gx_nil ?_
     refine gx_thenN ?_
     refine hK248 _ _ ?_
     refine gx_ret ?_
     refine gx_thenR ?_
     obtain rfl := Option.some.inj hO48
     exact gx_fin (.bool false) (by kernel_rfl) (by kernel_rfl) ⟨_, rfl, rfl, (hS135.pick [] rfl rfl)⟩

end Go.Proofs.YtbdhgjaoojimmaaDoor

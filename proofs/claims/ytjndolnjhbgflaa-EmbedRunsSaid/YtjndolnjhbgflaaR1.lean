/-
  The document's levels, walked.
-/
import Derived.Test.YtjndolnjhbgflaaRW
namespace Go.Proofs.Ytjndolnjhbgflaa
open Go Go.RowKit
set_option linter.unusedVariables false

def rLevels_L1 (N : Nat) (p0 : List Int) : Nat → Int → Option (Ctl (Unit) (List Int × List Int × Int × Int))
 | 0, _ => none
 | k24+1, x23 => (if x23 < ((p0.length : Nat) : Int) then ((ix p0 x23).bind fun x35 => (if x35 < 1 then some (Ctl.ret ([], [], 0, 2)) else ((ix p0 x23).bind fun x42 => (if x42 > 23 then some (Ctl.ret ([], [], 0, 2)) else rLevels_L1 N p0 k24 (IntKind.i64.wrap (x23 + 1)))))) else some (Ctl.go ()))
def rLevels_L2 (N : Nat) (p0 : List Int) : Nat → (List Int) → (List Int) → Int → Int → Option (List Int × List Int)
 | 0, _, _, _, _ => none
 | k119+1, l114, l116, x117, x118 => (if x118 < ((p0.length : Nat) : Int) then ((((ix p0 x118).bind fun x140 => ((rRem N x140).bind fun b144 => (match b144 with | true => ((ix l114 x118).bind fun _x150 => ((setx l114 x118 x117).bind fun l154 => ((ix l116 x118).bind fun _x156 => ((setx l116 x118 10).bind fun l160 => some ((l154, l160)))))) | false => some ((l114, l116))))) : Option (List Int × List Int)).bind fun (l132, l134) => ((ix l132 x118).bind fun x162 => rLevels_L2 N p0 k119 l132 l134 x162 (IntKind.i64.wrap (x118 + 1)))) else some ((l114, l116)))
def rLevels (N : Nat) (p0 : List Int) (p1 : Int) : Option (List Int × List Int × Int × Int) :=
 (if ((p0.length : Nat) : Int) > 65536 then some ([], [], 0, 3) else ((rLevels_L1 N p0 N 0 : Option (Ctl (Unit) (List Int × List Int × Int × Int))).bind fun | Ctl.go () => (if p1 > 2 then some ([], [], 0, 2) else (((if p1 = 2 then ((rBase N p0).bind fun x71 => some (x71)) else some (p1)) : Option (Int)).bind fun x62 => ((mkx ((p0.length : Nat) : Int)).bind fun lz12_76o4_1 => ((mkx ((p0.length : Nat) : Int)).bind fun lz12_76o7_1 => ((rWithin N p0 x62 lz12_76o4_1 lz12_76o7_1 (0 : Int) x62 (0 : Int) (0 : Int) false).bind fun (_x92, l86, l89) => ((rLevels_L2 N p0 N l86 l89 x62 0 : Option (List Int × List Int)).bind fun (l102, l104) => some (l102, l104, x62, 0))))))) | Ctl.ret r => some r))

set_option linter.unusedVariables false in
def rLevels_R (r : List Int × List Int × Int × Int) (w0 : World) (v : Value) (w : World) : Prop := ∃ (A0' : Option Addr) (c0' : Nat) (A1' : Option Addr) (c1' : Nat), v = .tuple #[.slice A0' r.1.length c0', .slice A1' r.2.1.length c1', .int .u8 r.2.2.1, .int .i64 r.2.2.2] ∧ St [] w0 w [rowE .u8 5 A0' c0' r.1, rowE .u8 34 A1' c1' r.2.1]

set_option maxRecDepth 100000 in
set_option maxHeartbeats 4000000 in
theorem rLevels_ok (N : Nat) (p0 : List Int) (p1 : Int) (A0 : Option Addr) (c0 : Nat) (r : List Int × List Int × Int × Int) (hF : rLevels N p0 p1 = some r) (w0 : World) (hv0 : Vw [] .u8 w0 A0 c0 p0) :
  Calls Try.prog 12 #[.slice A0 p0.length c0, .int .u8 p1] w0 fun e w => ∃ v, e = .returned v ∧ rLevels_R r w0 v w := by
 have hS0 := St.start w0
 unfold rLevels at hF
 refine calls_of Try.func12 rfl ⟨((.slice A0 p0.length c0) :: (.int .u8 p1) :: un 92 ([])).toArray, []⟩ (by kernel_rfl) ?_
 refine gx_seq (fun K1 hK2 => ?_)
 refine gx_region ?_
 refine gx_k (.slice none 0 0) w0 (gx_k (.slice none 0 0) w0 (gx_k (.int .u8 0) w0 (gx_k (.int .i64 0) w0 ?_)))
 refine gx_nil ?_
 refine gx_thenN ?_
 refine hK2 _ _ ?_
 refine gx_seq (fun K3 hK4 => ?_)
 refine gx_seq (fun K5 hK6 => ?_)
 refine gx_region ?_
 refine gx_k (.slice A0 p0.length c0) w0 (gx_k (.int .i64 ((p0.length : Nat) : Int)) w0 ?_)
 rcases if_in hF with ⟨h7, hF⟩ | ⟨h7, hF⟩
 ·refine gx_v (.bool true) w0 (run_boolE (decide_eq_true h7) (by kernel_rfl)) ?_
  refine gx_nil ?_
  refine gx_thenN ?_
  refine hK6 _ _ ?_
  refine gx_yes (by kernel_rfl) ?_
  refine gx_seq (fun K8 hK9 => ?_)
  refine gx_region ?_
  refine gx_k (.slice none 0 0) w0 (gx_k (.slice none 0 0) w0 (gx_k (.int .u8 0) w0 (gx_k (.int .i64 3) w0 ?_)))
  refine gx_nil ?_
  refine gx_thenN ?_
  refine hK9 _ _ ?_
  refine gx_ret ?_
  refine gx_thenR ?_
  have hS10 : St _ _ w0 [rowE .u8 5 none 0 ([])] := hS0.nilrow .u8 5
  have hS11 : St _ _ w0 [rowE .u8 5 none 0 ([]), rowE .u8 34 none 0 ([])] := hS10.nilrow .u8 34
  obtain rfl := Option.some.inj hF
  exact gx_fin (.tuple #[.slice none (([] : List Int).length) 0, .slice none (([] : List Int).length) 0, .int .u8 0, .int .i64 3]) (by kernel_rfl) (by kernel_rfl) ⟨_, rfl, none, 0, none, 0, rfl, hS11⟩
 ·refine gx_v (.bool false) w0 (run_boolE (decide_eq_false h7) (by kernel_rfl)) ?_
  refine gx_nil ?_
  refine gx_thenN ?_
  refine hK6 _ _ ?_
  refine gx_no (by kernel_rfl) ?_
  refine gx_pass ?_
  refine gx_thenN ?_
  refine hK4 _ _ ?_
  obtain ⟨c15, hE16, hO17⟩ := bind_in hF
  refine gx_cut (fun a w => selfA (fun u14 => ⟨((.slice A0 p0.length c0) :: (.int .u8 p1) :: undef :: undef :: dd u14 4 5 (un 3 ((u14 12) :: (.int .i64 ((p0.length : Nat) : Int)) :: (.bool false) :: dd u14 15 18 (un 61 ([]))))).toArray, []⟩) a ∧ Ctl.go () = c15 ∧ St [] w0 w []) ?_ ?_
  ·refine gx_seq (fun K18 hK19 => ?_)
   refine gx_region ?_
   refine gx_k (.int .i64 0) w0 ?_
   refine gx_nil ?_
   refine gx_thenN ?_
   refine hK19 _ _ ?_
   refine gx_block ?_
   refine gx_loop (fun k a w => ∃ (x23 : Int), selfA (fun u22 => ⟨((.slice A0 p0.length c0) :: (.int .u8 p1) :: undef :: undef :: dd u22 4 4 ((.int .i64 x23) :: un 3 ((u22 12) :: (.int .i64 ((p0.length : Nat) : Int)) :: (.bool false) :: dd u22 15 18 (un 61 ([]))))).toArray, []⟩) a ∧ rLevels_L1 N p0 k x23 = some c15 ∧ St [] w0 w []) N ?_ ?_
   ·exact ⟨0, selfA_i (by kernel_rfl), hE16, hS0⟩
   ·rintro k24 _ w20 ⟨x23, hq49, hL25, hS21⟩
    obtain ⟨u22, rfl⟩ := selfA_u hq49
    cases k24 with
    | zero => cases hL25
    | succ k24 =>
     first | rw [rLevels_L1] at hL25 | unfold rLevels_L1 at hL25
     refine gx_seq (fun K26 hK27 => ?_)
     refine gx_seq (fun K28 hK29 => ?_)
     refine gx_region ?_
     refine gx_k (.int .i64 x23) w20 (gx_k (.slice A0 p0.length c0) w20 (gx_k (.int .i64 ((p0.length : Nat) : Int)) w20 ?_))
     rcases if_in hL25 with ⟨h30, hL25⟩ | ⟨h30, hL25⟩
     ·refine gx_v (.bool true) w20 (run_boolE (decide_eq_true h30) (by kernel_rfl)) ?_
      refine gx_nil ?_
      refine gx_thenN ?_
      refine hK29 _ _ ?_
      refine gx_yes (by kernel_rfl) ?_
      refine gx_pass ?_
      refine gx_thenN ?_
      refine hK27 _ _ ?_
      refine gx_seq (fun K31 hK32 => ?_)
      refine gx_block ?_
      refine gx_seq (fun K33 hK34 => ?_)
      refine gx_region ?_
      refine gx_k (.slice A0 p0.length c0) w20 (gx_k (.int .i64 x23) w20 ?_)
      obtain ⟨x35, hx36, hL25⟩ := bind_in hL25
      refine gx_v (.pointer (Option.map (fun (p : Addr) => p.add (Int.toNat x23 * 1)) A0)) w20 (run_ixaddr (E := 34) (s := 1) (k := .i64) (c := c0) rfl (by kernel_rfl) (by kernel_rfl) (by kernel_rfl) (fun _ => by kernel_rfl) (ix_in hx36).1 (ix_in hx36).2.1 (num_nil (hS21.view hv0))) ?_
      refine gx_v (.int .u8 x35) w20 (run_loadix rfl (by kernel_rfl) (fun _ => by kernel_rfl) (hS21.view hv0) hx36) ?_
      rcases if_in hL25 with ⟨h37, hL25⟩ | ⟨h37, hL25⟩
      ·refine gx_v (.bool true) w20 (run_boolE (decide_eq_true h37) (by kernel_rfl)) ?_
       refine gx_k (.bool true) w20 (gx_o (gx_o (gx_o (gx_o (gx_o (gx_k (.bool true) w20 ?_))))))
       refine gx_nil ?_
       refine gx_thenN ?_
       refine hK34 _ _ ?_
       refine gx_yes (by kernel_rfl) ?_
       refine gx_seq (fun K38 hK39 => ?_)
       refine gx_region ?_
       refine gx_k (.slice none 0 0) w20 (gx_k (.slice none 0 0) w20 (gx_k (.int .u8 0) w20 (gx_k (.int .i64 2) w20 ?_)))
       refine gx_nil ?_
       refine gx_thenN ?_
       refine hK39 _ _ ?_
       refine gx_ret ?_
       refine gx_blkR ?_
       refine gx_thenR ?_
       refine gx_thenR ?_
       refine gx_blkR ?_
       refine gx_thenR ?_
       obtain rfl := Option.some.inj hL25
       try dsimp only at hO17
       have hS40 : St _ _ w20 [rowE .u8 5 none 0 ([])] := hS21.nilrow .u8 5
       have hS41 : St _ _ w20 [rowE .u8 5 none 0 ([]), rowE .u8 34 none 0 ([])] := hS40.nilrow .u8 34
       obtain rfl := Option.some.inj hO17
       exact gx_fin (.tuple #[.slice none (([] : List Int).length) 0, .slice none (([] : List Int).length) 0, .int .u8 0, .int .i64 2]) (by kernel_rfl) (by kernel_rfl) ⟨_, rfl, none, 0, none, 0, rfl, hS41⟩
      ·refine gx_v (.bool false) w20 (run_boolE (decide_eq_false h37) (by kernel_rfl)) ?_
       refine gx_k (.bool false) w20 (gx_k (.slice A0 p0.length c0) w20 (gx_k (.int .i64 x23) w20 ?_))
       obtain ⟨x42, hx43, hL25⟩ := bind_in hL25
       refine gx_v (.pointer (Option.map (fun (p : Addr) => p.add (Int.toNat x23 * 1)) A0)) w20 (run_ixaddr (E := 34) (s := 1) (k := .i64) (c := c0) rfl (by kernel_rfl) (by kernel_rfl) (by kernel_rfl) (fun _ => by kernel_rfl) (ix_in hx43).1 (ix_in hx43).2.1 (num_nil (hS21.view hv0))) ?_
       refine gx_v (.int .u8 x42) w20 (run_loadix rfl (by kernel_rfl) (fun _ => by kernel_rfl) (hS21.view hv0) hx43) ?_
       rcases if_in hL25 with ⟨h44, hL25⟩ | ⟨h44, hL25⟩
       ·refine gx_v (.bool true) w20 (run_boolE (decide_eq_true h44) (by kernel_rfl)) ?_
        refine gx_k (.bool true) w20 ?_
        refine gx_nil ?_
        refine gx_thenN ?_
        refine hK34 _ _ ?_
        refine gx_yes (by kernel_rfl) ?_
        refine gx_seq (fun K45 hK46 => ?_)
        refine gx_region ?_
        refine gx_k (.slice none 0 0) w20 (gx_k (.slice none 0 0) w20 (gx_k (.int .u8 0) w20 (gx_k (.int .i64 2) w20 ?_)))
        refine gx_nil ?_
        refine gx_thenN ?_
        refine hK46 _ _ ?_
        refine gx_ret ?_
        refine gx_blkR ?_
        refine gx_thenR ?_
        refine gx_thenR ?_
        refine gx_blkR ?_
        refine gx_thenR ?_
        obtain rfl := Option.some.inj hL25
        try dsimp only at hO17
        have hS47 : St _ _ w20 [rowE .u8 5 none 0 ([])] := hS21.nilrow .u8 5
        have hS48 : St _ _ w20 [rowE .u8 5 none 0 ([]), rowE .u8 34 none 0 ([])] := hS47.nilrow .u8 34
        obtain rfl := Option.some.inj hO17
        exact gx_fin (.tuple #[.slice none (([] : List Int).length) 0, .slice none (([] : List Int).length) 0, .int .u8 0, .int .i64 2]) (by kernel_rfl) (by kernel_rfl) ⟨_, rfl, none, 0, none, 0, rfl, hS48⟩
       ·refine gx_v (.bool false) w20 (run_boolE (decide_eq_false h44) (by kernel_rfl)) ?_
        refine gx_k (.bool false) w20 ?_
        refine gx_nil ?_
        refine gx_thenN ?_
        refine hK34 _ _ ?_
        refine gx_no (by kernel_rfl) ?_
        refine gx_pass ?_
        refine gx_blkN ?_
        refine gx_thenN ?_
        refine hK32 _ _ ?_
        refine gx_region ?_
        refine gx_k (.int .i64 x23) w20 (gx_k (.int .i64 (IntKind.i64.wrap (x23 + 1))) w20 (gx_k (.int .i64 (IntKind.i64.wrap (x23 + 1))) w20 ?_))
        refine gx_nil ?_
        refine gx_thenN ?_
        exact ⟨k24, Nat.lt_succ_self k24, (IntKind.i64.wrap (x23 + 1)), selfA_i (by kernel_rfl), hL25, hS21⟩
     ·refine gx_v (.bool false) w20 (run_boolE (decide_eq_false h30) (by kernel_rfl)) ?_
      refine gx_nil ?_
      refine gx_thenN ?_
      refine hK29 _ _ ?_
      refine gx_no (by kernel_rfl) ?_
      refine gx_exit ?_
      refine gx_thenE ?_
      refine gx_thenE ?_
      refine gx_blkE ?_
      refine gx_thenN ?_
      exact ⟨selfA_i (by kernel_rfl), (Option.some.inj hL25), hS21⟩
  ·rintro _ w12 ⟨hq173, rfl, hS13⟩
   obtain ⟨u14, rfl⟩ := selfA_u hq173
   try dsimp only at hO17
   refine gx_seq (fun K50 hK51 => ?_)
   refine gx_seq (fun K52 hK53 => ?_)
   refine gx_region ?_
   refine gx_k (.int .u8 p1) w12 ?_
   rcases if_in hO17 with ⟨h54, hO17⟩ | ⟨h54, hO17⟩
   ·refine gx_v (.bool true) w12 (run_boolE (decide_eq_true h54) (by kernel_rfl)) ?_
    refine gx_nil ?_
    refine gx_thenN ?_
    refine hK53 _ _ ?_
    refine gx_yes (by kernel_rfl) ?_
    refine gx_seq (fun K55 hK56 => ?_)
    refine gx_region ?_
    refine gx_k (.slice none 0 0) w12 (gx_k (.slice none 0 0) w12 (gx_k (.int .u8 0) w12 (gx_k (.int .i64 2) w12 ?_)))
    refine gx_nil ?_
    refine gx_thenN ?_
    refine hK56 _ _ ?_
    refine gx_ret ?_
    refine gx_thenR ?_
    have hS57 : St _ _ w12 [rowE .u8 5 none 0 ([])] := hS13.nilrow .u8 5
    have hS58 : St _ _ w12 [rowE .u8 5 none 0 ([]), rowE .u8 34 none 0 ([])] := hS57.nilrow .u8 34
    obtain rfl := Option.some.inj hO17
    exact gx_fin (.tuple #[.slice none (([] : List Int).length) 0, .slice none (([] : List Int).length) 0, .int .u8 0, .int .i64 2]) (by kernel_rfl) (by kernel_rfl) ⟨_, rfl, none, 0, none, 0, rfl, hS58⟩
   ·refine gx_v (.bool false) w12 (run_boolE (decide_eq_false h54) (by kernel_rfl)) ?_
    refine gx_nil ?_
    refine gx_thenN ?_
    refine hK53 _ _ ?_
    refine gx_no (by kernel_rfl) ?_
    refine gx_pass ?_
    refine gx_thenN ?_
    refine hK51 _ _ ?_
    obtain ⟨c63, hE64, hO65⟩ := bind_in hO17
    refine gx_cut (fun a w => ∃ (x62 : Int), selfA (fun u61 => ⟨((.slice A0 p0.length c0) :: (.int .u8 x62) :: undef :: undef :: dd u14 4 5 (un 3 ((u14 12) :: (.int .i64 ((p0.length : Nat) : Int)) :: (.bool false) :: dd u14 15 18 ((.int .u8 p1) :: (.bool false) :: dd u61 35 4 (un 55 ([])))))).toArray, []⟩) a ∧ x62 = c63 ∧ St [] w0 w []) ?_ ?_
    ·refine gx_seq (fun K66 hK67 => ?_)
     refine gx_region ?_
     refine gx_k (.int .u8 p1) w12 ?_
     rcases if_in hE64 with ⟨h68, hE64⟩ | ⟨h68, hE64⟩
     ·refine gx_v (.bool true) w12 (run_boolE (decide_eq_true h68) (by kernel_rfl)) ?_
      refine gx_nil ?_
      refine gx_thenN ?_
      refine hK67 _ _ ?_
      refine gx_yes (by kernel_rfl) ?_
      refine gx_region ?_
      refine gx_k (.slice A0 p0.length c0) w12 ?_
      have hP69 : St _ _ w12 ([] ++ []) := hS13
      obtain ⟨x71, hc70, hE64⟩ := bind_in hE64
      try dsimp only at hE64
      refine gx_c (rBase_R x71 w12) (rBase_ok N p0 A0 c0 _ hc70 w12 (hP69.vwA hv0)) ?_
      rintro _ w72 ⟨rfl, hT74⟩
      have hS73 : St _ _ w72 [] := hS13.take _ hT74
      refine gx_k (.int .u8 x71) w72 ?_
      refine gx_nil ?_
      refine gx_thenN ?_
      exact ⟨x71, selfA_i (by kernel_rfl), (Option.some.inj hE64), hS73⟩
     ·refine gx_v (.bool false) w12 (run_boolE (decide_eq_false h68) (by kernel_rfl)) ?_
      refine gx_nil ?_
      refine gx_thenN ?_
      refine hK67 _ _ ?_
      refine gx_no (by kernel_rfl) ?_
      refine gx_pass ?_
      refine gx_thenN ?_
      exact ⟨p1, selfA_i (by kernel_rfl), (Option.some.inj hE64), hS13⟩
    ·rintro _ w59 ⟨x62, hq172, rfl, hS60⟩
     obtain ⟨u61, rfl⟩ := selfA_u hq172
     try dsimp only at hO65
     refine gx_seq (fun K75 hK76 => ?_)
     refine gd_start (fun w => St [] w0 w []) 11 #[false, false, false, false, false, false, false, false, false, false, false] (by kernel_rfl) (by kernel_rfl) ?_
     have hS79 := hS60.drew
     generalize w59.drew = w78 at hS79 ⊢
     obtain ⟨lz12_76o4_1, hmz12_76o4_2, hO65⟩ := bind_in hO65
     obtain ⟨lz12_76o7_1, hmz12_76o7_2, hO65⟩ := bind_in hO65
     refine gd_share (X := (Option Addr) × Nat × (Option Addr) × Nat × Nat) (fun ⟨Az12_76o4_5, cz12_76o4_6, Az12_76o7_5, cz12_76o7_6, gz12_76B0⟩ => ⟨((.slice A0 p0.length c0) :: (.int .u8 x62) :: undef :: undef :: dd u14 4 5 ((.pointer (some ⟨gz12_76B0, 0, none⟩)) :: undef :: undef :: (u14 12) :: (.int .i64 ((p0.length : Nat) : Int)) :: (.bool false) :: dd u14 15 18 ((.int .u8 p1) :: (.bool false) :: dd u61 35 4 ((.slice A0 p0.length c0) :: (.int .u8 x62) :: (.slice A0 p0.length c0) :: (.int .i64 ((p0.length : Nat) : Int)) :: (.slice Az12_76o4_5 lz12_76o4_1.length cz12_76o4_6) :: (.slice A0 p0.length c0) :: (.int .i64 ((p0.length : Nat) : Int)) :: (.slice Az12_76o7_5 lz12_76o7_1.length cz12_76o7_6) :: (.agg #[.slice A0 p0.length c0, .int .u8 x62, .slice Az12_76o4_5 lz12_76o4_1.length cz12_76o4_6, .slice Az12_76o7_5 lz12_76o7_1.length cz12_76o7_6]) :: (.pointer (some ⟨gz12_76B0, 0, none⟩)) :: un 45 ([]))))).toArray, []⟩) (fun ⟨Az12_76o4_5, cz12_76o4_6, Az12_76o7_5, cz12_76o7_6, gz12_76B0⟩ w => St [] w0 w [rowE .u8 5 Az12_76o4_5 cz12_76o4_6 lz12_76o4_1, rowE .u8 34 Az12_76o7_5 cz12_76o7_6 lz12_76o7_1, boxE gz12_76B0 [.slice A0 p0.length c0, .int .u8 x62, .slice Az12_76o4_5 lz12_76o4_1.length cz12_76o4_6, .slice Az12_76o7_5 lz12_76o7_1.length cz12_76o7_6] 62]) ?_ ?_
     ·rintro ⟨Az12_76o4_5, cz12_76o4_6, Az12_76o7_5, cz12_76o7_6, gz12_76B0⟩ w80 hS81
      have hS81 : St _ _ w80 [rowE .u8 5 Az12_76o4_5 cz12_76o4_6 lz12_76o4_1, rowE .u8 34 Az12_76o7_5 cz12_76o7_6 lz12_76o7_1, boxE gz12_76B0 [.slice A0 p0.length c0, .int .u8 x62, .slice Az12_76o4_5 lz12_76o4_1.length cz12_76o4_6, .slice Az12_76o7_5 lz12_76o7_1.length cz12_76o7_6] 62] := hS81
      show WQ _ _ ⟨((.slice A0 p0.length c0) :: (.int .u8 x62) :: undef :: undef :: dd u14 4 5 ((.pointer (some ⟨gz12_76B0, 0, none⟩)) :: undef :: undef :: (u14 12) :: (.int .i64 ((p0.length : Nat) : Int)) :: (.bool false) :: dd u14 15 18 ((.int .u8 p1) :: (.bool false) :: dd u61 35 4 ((.slice A0 p0.length c0) :: (.int .u8 x62) :: (.slice A0 p0.length c0) :: (.int .i64 ((p0.length : Nat) : Int)) :: (.slice Az12_76o4_5 lz12_76o4_1.length cz12_76o4_6) :: (.slice A0 p0.length c0) :: (.int .i64 ((p0.length : Nat) : Int)) :: (.slice Az12_76o7_5 lz12_76o7_1.length cz12_76o7_6) :: (.agg #[.slice A0 p0.length c0, .int .u8 x62, .slice Az12_76o4_5 lz12_76o4_1.length cz12_76o4_6, .slice Az12_76o7_5 lz12_76o7_1.length cz12_76o7_6]) :: (.pointer (some ⟨gz12_76B0, 0, none⟩)) :: un 45 ([]))))).toArray, []⟩ _
      refine gx_thenN ?_
      refine hK76 _ _ ?_
      refine gx_seq (fun K82 hK83 => ?_)
      refine gx_region ?_
      refine gx_k (.pointer (some ⟨gz12_76B0, 0, none⟩)) w80 (gx_k (.int .u8 x62) w80 (gx_k (.agg #[.int .u8 x62, .int .u8 0]) w80 ?_))
      have hP84 : St _ _ w80 ([boxE gz12_76B0 [.slice A0 p0.length c0, .int .u8 x62, .slice Az12_76o4_5 lz12_76o4_1.length cz12_76o4_6, .slice Az12_76o7_5 lz12_76o7_1.length cz12_76o7_6] 62, rowE .u8 5 Az12_76o4_5 cz12_76o4_6 lz12_76o4_1, rowE .u8 34 Az12_76o7_5 cz12_76o7_6 lz12_76o7_1] ++ []) := hS81.pick [2, 0, 1] rfl rfl
      obtain ⟨⟨x92, l86, l89⟩, hc85, hO65⟩ := bind_in hO65
      try dsimp only at hO65
      refine gx_c (rWithin_R p0 x62 lz12_76o4_1 lz12_76o7_1 (0 : Int) x62 (0 : Int) (0 : Int) false gz12_76B0 A0 c0 Az12_76o4_5 cz12_76o4_6 Az12_76o7_5 cz12_76o7_6 (x92, l86, l89) w80) (rWithin_ok N p0 x62 lz12_76o4_1 lz12_76o7_1 (0 : Int) x62 (0 : Int) (0 : Int) false gz12_76B0 A0 c0 Az12_76o4_5 cz12_76o4_6 Az12_76o7_5 cz12_76o7_6 _ hc85 w80 (hP84.vwA hv0) hP84.part) ?_
      rintro _ w93 ⟨A87, c88, A90, c91, rfl, hT95⟩
      have hS94 : St _ _ w93 [boxE gz12_76B0 [.slice A0 p0.length c0, .int .u8 x62, .slice A87 l86.length c88, .slice A90 l89.length c91] 62, rowE .u8 5 A87 c88 l86, rowE .u8 34 A90 c91 l89] := hP84.lendN _ hT95
      refine gx_nil ?_
      refine gx_thenN ?_
      refine hK83 _ _ ?_
      refine gx_seq (fun K96 hK97 => ?_)
      refine gx_region ?_
      refine gx_k (.int .u8 x62) w93 (gx_k (.int .u8 x62) w93 ?_)
      refine gx_nil ?_
      refine gx_thenN ?_
      refine hK97 _ _ ?_
      obtain ⟨c105, hE106, hO107⟩ := bind_in hO65
      refine gx_cut (fun a w => ∃ (l102 : List Int) (l104 : List Int), selfA (fun u100 => ⟨((u100 0) :: (.int .u8 x62) :: undef :: undef :: dd u14 4 5 ((.pointer (some ⟨gz12_76B0, 0, none⟩)) :: dd u100 10 2 ((u14 12) :: (.int .i64 ((p0.length : Nat) : Int)) :: (.bool false) :: dd u14 15 18 ((.int .u8 p1) :: (.bool false) :: dd u61 35 4 ((u100 39) :: (.int .u8 x62) :: (u100 41) :: (.int .i64 ((p0.length : Nat) : Int)) :: dd u100 43 2 ((.int .i64 ((p0.length : Nat) : Int)) :: dd u100 46 2 ((.pointer (some ⟨gz12_76B0, 0, none⟩)) :: (.pointer (some ⟨gz12_76B0, 0, none⟩)) :: (.int .u8 x62) :: (u100 51) :: (.int .i64 x92) :: (.int .u8 x62) :: dd u100 54 31 (un 9 ([]))))))))).toArray, []⟩) a ∧ (l102, l104) = c105 ∧ St [] w0 w [rowE .u8 5 A87 c88 l102, rowE .u8 34 A90 c91 l104, boxE gz12_76B0 [.slice A0 p0.length c0, .int .u8 x62, .slice A87 l102.length c88, .slice A90 l104.length c91] 62]) ?_ ?_
      ·refine gx_seq (fun K108 hK109 => ?_)
       refine gx_region ?_
       refine gx_k (.int .i64 0) w93 ?_
       refine gx_nil ?_
       refine gx_thenN ?_
       refine hK109 _ _ ?_
       refine gx_block ?_
       refine gx_loop (fun k a w => ∃ (l114 : List Int) (l116 : List Int) (x117 : Int) (x118 : Int), selfA (fun u112 => ⟨((.slice A0 p0.length c0) :: (.int .u8 x62) :: undef :: undef :: dd u14 4 5 ((.pointer (some ⟨gz12_76B0, 0, none⟩)) :: (.int .u8 x117) :: (.int .i64 x118) :: (u14 12) :: (.int .i64 ((p0.length : Nat) : Int)) :: (.bool false) :: dd u14 15 18 ((.int .u8 p1) :: (.bool false) :: dd u61 35 4 ((u112 39) :: (.int .u8 x62) :: (u112 41) :: (.int .i64 ((p0.length : Nat) : Int)) :: dd u112 43 2 ((.int .i64 ((p0.length : Nat) : Int)) :: dd u112 46 2 ((.pointer (some ⟨gz12_76B0, 0, none⟩)) :: (.pointer (some ⟨gz12_76B0, 0, none⟩)) :: (.int .u8 x62) :: (u112 51) :: (.int .i64 x92) :: (.int .u8 x62) :: dd u112 54 31 (un 9 ([])))))))).toArray, []⟩) a ∧ rLevels_L2 N p0 k l114 l116 x117 x118 = some c105 ∧ St [] w0 w [rowE .u8 5 A87 c88 l114, rowE .u8 34 A90 c91 l116, boxE gz12_76B0 [.slice A0 p0.length c0, .int .u8 x62, .slice A87 l114.length c88, .slice A90 l116.length c91] 62]) N ?_ ?_
       ·exact ⟨l86, l89, x62, 0, selfA_i (by kernel_rfl), hE106, (hS94.pick [1, 2, 0] rfl rfl)⟩
       ·rintro k119 _ w110 ⟨l114, l116, x117, x118, hq165, hL120, hS111⟩
        obtain ⟨u112, rfl⟩ := selfA_u hq165
        cases k119 with
        | zero => cases hL120
        | succ k119 =>
         first | rw [rLevels_L2] at hL120 | unfold rLevels_L2 at hL120
         refine gx_seq (fun K121 hK122 => ?_)
         refine gx_seq (fun K123 hK124 => ?_)
         refine gx_region ?_
         refine gx_k (.int .i64 x118) w110 (gx_k (.slice A0 p0.length c0) w110 (gx_k (.int .i64 ((p0.length : Nat) : Int)) w110 ?_))
         rcases if_in hL120 with ⟨h125, hL120⟩ | ⟨h125, hL120⟩
         ·refine gx_v (.bool true) w110 (run_boolE (decide_eq_true h125) (by kernel_rfl)) ?_
          refine gx_nil ?_
          refine gx_thenN ?_
          refine hK124 _ _ ?_
          refine gx_yes (by kernel_rfl) ?_
          refine gx_pass ?_
          refine gx_thenN ?_
          refine hK122 _ _ ?_
          refine gx_seq (fun K126 hK127 => ?_)
          refine gx_block ?_
          obtain ⟨c135, hE136, hO137⟩ := bind_in hL120
          refine gx_cut (fun a w => ∃ (l132 : List Int) (l134 : List Int), selfA (fun u130 => ⟨((.slice A0 p0.length c0) :: (.int .u8 x62) :: undef :: undef :: dd u14 4 5 ((.pointer (some ⟨gz12_76B0, 0, none⟩)) :: (.int .u8 x117) :: (.int .i64 x118) :: (u14 12) :: (.int .i64 ((p0.length : Nat) : Int)) :: (.bool false) :: dd u14 15 18 ((.int .u8 p1) :: (.bool false) :: dd u61 35 4 ((u112 39) :: (.int .u8 x62) :: (u112 41) :: (.int .i64 ((p0.length : Nat) : Int)) :: dd u112 43 2 ((.int .i64 ((p0.length : Nat) : Int)) :: dd u112 46 2 ((.pointer (some ⟨gz12_76B0, 0, none⟩)) :: (.pointer (some ⟨gz12_76B0, 0, none⟩)) :: (.int .u8 x62) :: (u112 51) :: (.int .i64 x92) :: (.int .u8 x62) :: (.int .i64 x118) :: (u130 55) :: (.int .i64 ((p0.length : Nat) : Int)) :: (.bool true) :: dd u112 58 2 (dd u130 60 18 (dd u112 78 7 (un 9 ([])))))))))).toArray, []⟩) a ∧ (l132, l134) = c135 ∧ St [] w0 w [rowE .u8 5 A87 c88 l132, rowE .u8 34 A90 c91 l134, boxE gz12_76B0 [.slice A0 p0.length c0, .int .u8 x62, .slice A87 l132.length c88, .slice A90 l134.length c91] 62]) ?_ ?_
          ·refine gx_seq (fun K138 hK139 => ?_)
           refine gx_region ?_
           refine gx_k (.slice A0 p0.length c0) w110 (gx_k (.int .i64 x118) w110 ?_)
           obtain ⟨x140, hx141, hE136⟩ := bind_in hE136
           refine gx_v (.pointer (Option.map (fun (p : Addr) => p.add (Int.toNat x118 * 1)) A0)) w110 (run_ixaddr (E := 34) (s := 1) (k := .i64) (c := c0) rfl (by kernel_rfl) (by kernel_rfl) (by kernel_rfl) (fun _ => by kernel_rfl) (ix_in hx141).1 (ix_in hx141).2.1 (num_nil (hS111.view hv0))) ?_
           refine gx_v (.int .u8 x140) w110 (run_loadix rfl (by kernel_rfl) (fun _ => by kernel_rfl) (hS111.view hv0) hx141) ?_
           have hP142 : St _ _ w110 ([] ++ [rowE .u8 5 A87 c88 l114, rowE .u8 34 A90 c91 l116, boxE gz12_76B0 [.slice A0 p0.length c0, .int .u8 x62, .slice A87 l114.length c88, .slice A90 l116.length c91] 62]) := hS111
           obtain ⟨b144, hc143, hE136⟩ := bind_in hE136
           try dsimp only at hE136
           refine gx_c (rRem_R b144 w110) (rRem_ok N x140 _ hc143 w110 ) ?_
           rintro _ w145 ⟨rfl, hT147⟩
           have hS146 : St _ _ w145 [rowE .u8 5 A87 c88 l114, rowE .u8 34 A90 c91 l116, boxE gz12_76B0 [.slice A0 p0.length c0, .int .u8 x62, .slice A87 l114.length c88, .slice A90 l116.length c91] 62] := hS111.take _ hT147
           refine gx_nil ?_
           refine gx_thenN ?_
           refine hK139 _ _ ?_
           cases b144 with
           | true =>
            try dsimp only at hE136
            refine gx_yes (by kernel_rfl) ?_
            refine gx_seq (fun K148 hK149 => ?_)
            refine gx_region ?_
            refine gx_k (.pointer (some ⟨gz12_76B0, 0, none⟩)) w145 (gx_k (.pointer (some ⟨gz12_76B0, 0, none⟩)) w145 (gx_k (.pointer (some ⟨gz12_76B0, 2, none⟩)) w145 ?_))
            refine gx_v (.slice A87 l114.length c88) w145 (run_load1 rfl (by kernel_rfl) (fun _ => by kernel_rfl) (hS146.box 2 rfl 2 rfl)) ?_
            refine gx_k (.int .i64 x118) w145 (gx_k (.int .u8 x117) w145 ?_)
            obtain ⟨x150, hx151, hE136⟩ := bind_in hE136
            refine gx_v (.pointer (Option.map (fun (p : Addr) => p.add (Int.toNat x118 * 1)) A87)) w145 (run_ixaddr (E := 5) (s := 1) (k := .i64) (c := c88) rfl (by kernel_rfl) (by kernel_rfl) (by kernel_rfl) (fun _ => by kernel_rfl) (ix_in hx151).1 (ix_in hx151).2.1 (num_nil (hS146.row 0 rfl).1)) ?_
            obtain ⟨l154, hx155, hE136⟩ := bind_in hE136
            refine gx_s (st_storeix rfl (by kernel_rfl) (by kernel_rfl) (fun _ => by kernel_rfl) hS146 0 rfl hx155) ?_
            rintro w152 hS153
            have hS153 : St _ _ w152 [rowE .u8 5 A87 c88 l154, rowE .u8 34 A90 c91 l116, boxE gz12_76B0 [.slice A0 p0.length c0, .int .u8 x62, .slice A87 l114.length c88, .slice A90 l116.length c91] 62] := hS153
            have hS153 : St _ _ w152 [rowE .u8 5 A87 c88 l154, rowE .u8 34 A90 c91 l116, boxE gz12_76B0 [.slice A0 p0.length c0, .int .u8 x62, .slice A87 l154.length c88, .slice A90 l116.length c91] 62] := (show [rowE .u8 5 A87 c88 l154, rowE .u8 34 A90 c91 l116, boxE gz12_76B0 [.slice A0 p0.length c0, .int .u8 x62, .slice A87 l114.length c88, .slice A90 l116.length c91] 62] = [rowE .u8 5 A87 c88 l154, rowE .u8 34 A90 c91 l116, boxE gz12_76B0 [.slice A0 p0.length c0, .int .u8 x62, .slice A87 l154.length c88, .slice A90 l116.length c91] 62] by rw [show l114.length = l154.length from (setx_len hx155).symm]) ▸ hS153
            refine gx_nil ?_
            refine gx_thenN ?_
            refine hK149 _ _ ?_
            refine gx_region ?_
            refine gx_k (.pointer (some ⟨gz12_76B0, 0, none⟩)) w152 (gx_k (.pointer (some ⟨gz12_76B0, 0, none⟩)) w152 (gx_k (.pointer (some ⟨gz12_76B0, 3, none⟩)) w152 ?_))
            refine gx_v (.slice A90 l116.length c91) w152 (run_load1 rfl (by kernel_rfl) (fun _ => by kernel_rfl) (hS153.box 2 rfl 3 rfl)) ?_
            refine gx_k (.int .i64 x118) w152 ?_
            obtain ⟨x156, hx157, hE136⟩ := bind_in hE136
            refine gx_v (.pointer (Option.map (fun (p : Addr) => p.add (Int.toNat x118 * 1)) A90)) w152 (run_ixaddr (E := 34) (s := 1) (k := .i64) (c := c91) rfl (by kernel_rfl) (by kernel_rfl) (by kernel_rfl) (fun _ => by kernel_rfl) (ix_in hx157).1 (ix_in hx157).2.1 (num_nil (hS153.row 1 rfl).1)) ?_
            obtain ⟨l160, hx161, hE136⟩ := bind_in hE136
            refine gx_s (st_storeix rfl (by kernel_rfl) (by kernel_rfl) (fun _ => by kernel_rfl) hS153 1 rfl hx161) ?_
            rintro w158 hS159
            have hS159 : St _ _ w158 [rowE .u8 5 A87 c88 l154, rowE .u8 34 A90 c91 l160, boxE gz12_76B0 [.slice A0 p0.length c0, .int .u8 x62, .slice A87 l154.length c88, .slice A90 l116.length c91] 62] := hS159
            have hS159 : St _ _ w158 [rowE .u8 5 A87 c88 l154, rowE .u8 34 A90 c91 l160, boxE gz12_76B0 [.slice A0 p0.length c0, .int .u8 x62, .slice A87 l154.length c88, .slice A90 l160.length c91] 62] := (show [rowE .u8 5 A87 c88 l154, rowE .u8 34 A90 c91 l160, boxE gz12_76B0 [.slice A0 p0.length c0, .int .u8 x62, .slice A87 l154.length c88, .slice A90 l116.length c91] 62] = [rowE .u8 5 A87 c88 l154, rowE .u8 34 A90 c91 l160, boxE gz12_76B0 [.slice A0 p0.length c0, .int .u8 x62, .slice A87 l154.length c88, .slice A90 l160.length c91] 62] by rw [show l116.length = l160.length from (setx_len hx161).symm]) ▸ hS159
            refine gx_nil ?_
            refine gx_thenN ?_
            exact ⟨l154, l160, selfA_i (by kernel_rfl), (Option.some.inj hE136), hS159⟩
           | false =>
            try dsimp only at hE136
            refine gx_no (by kernel_rfl) ?_
            refine gx_pass ?_
            refine gx_thenN ?_
            exact ⟨l114, l116, selfA_i (by kernel_rfl), (Option.some.inj hE136), hS146⟩
          ·rintro _ w128 ⟨l132, l134, hq164, rfl, hS129⟩
           obtain ⟨u130, rfl⟩ := selfA_u hq164
           try dsimp only at hO137
           refine gx_region ?_
           refine gx_k (.pointer (some ⟨gz12_76B0, 0, none⟩)) w128 (gx_k (.pointer (some ⟨gz12_76B0, 0, none⟩)) w128 (gx_k (.pointer (some ⟨gz12_76B0, 2, none⟩)) w128 ?_))
           refine gx_v (.slice A87 l132.length c88) w128 (run_load1 rfl (by kernel_rfl) (fun _ => by kernel_rfl) (hS129.box 2 rfl 2 rfl)) ?_
           refine gx_k (.int .i64 x118) w128 ?_
           obtain ⟨x162, hx163, hO137⟩ := bind_in hO137
           refine gx_v (.pointer (Option.map (fun (p : Addr) => p.add (Int.toNat x118 * 1)) A87)) w128 (run_ixaddr (E := 5) (s := 1) (k := .i64) (c := c88) rfl (by kernel_rfl) (by kernel_rfl) (by kernel_rfl) (fun _ => by kernel_rfl) (ix_in hx163).1 (ix_in hx163).2.1 (num_nil (hS129.row 0 rfl).1)) ?_
           refine gx_v (.int .u8 x162) w128 (run_loadix rfl (by kernel_rfl) (fun _ => by kernel_rfl) (hS129.row 0 rfl).1 hx163) ?_
           refine gx_k (.int .u8 x162) w128 ?_
           refine gx_nil ?_
           refine gx_blkN ?_
           refine gx_thenN ?_
           refine hK127 _ _ ?_
           refine gx_region ?_
           refine gx_k (.int .i64 x118) w128 (gx_k (.int .i64 (IntKind.i64.wrap (x118 + 1))) w128 (gx_k (.int .i64 (IntKind.i64.wrap (x118 + 1))) w128 ?_))
           refine gx_nil ?_
           refine gx_thenN ?_
           exact ⟨k119, Nat.lt_succ_self k119, l132, l134, x162, (IntKind.i64.wrap (x118 + 1)), selfA_i (by kernel_rfl), hO137, hS129⟩
         ·refine gx_v (.bool false) w110 (run_boolE (decide_eq_false h125) (by kernel_rfl)) ?_
          refine gx_nil ?_
          refine gx_thenN ?_
          refine hK124 _ _ ?_
          refine gx_no (by kernel_rfl) ?_
          refine gx_exit ?_
          refine gx_thenE ?_
          refine gx_thenE ?_
          refine gx_blkE ?_
          refine gx_thenN ?_
          exact ⟨l114, l116, selfA_i (by kernel_rfl), (Option.some.inj hL120), hS111⟩
      ·rintro _ w98 ⟨l102, l104, hq170, rfl, hS99⟩
       obtain ⟨u100, rfl⟩ := selfA_u hq170
       try dsimp only at hO107
       refine gx_seq (fun K166 hK167 => ?_)
       refine gd_start (fun w => St [] w0 w [rowE .u8 5 A87 c88 l102, rowE .u8 34 A90 c91 l104, boxE gz12_76B0 [.slice A0 p0.length c0, .int .u8 x62, .slice A87 l102.length c88, .slice A90 l104.length c91] 62]) 13 #[false, false, false, false, false, false, false, false, false, false, false, false, false] (by kernel_rfl) (by kernel_rfl) ?_
       have hS169 := hS99.drew
       generalize w98.drew = w168 at hS169 ⊢
       refine gd1 0 { dst := some 85, op := _, type := _, pos := _, after := _, guard := _ } (.pointer (some ⟨gz12_76B0, 0, none⟩)) rfl hS169 (fun w hSw => by kernel_rfl) ?_
       refine gd1 1 { dst := some 86, op := _, type := _, pos := _, after := _, guard := _ } (.pointer (some ⟨gz12_76B0, 0, none⟩)) rfl hS169 (fun w hSw => by kernel_rfl) ?_
       refine gd1 2 { dst := some 87, op := _, type := _, pos := _, after := _, guard := _ } (.pointer (some ⟨gz12_76B0, 2, none⟩)) rfl hS169 (fun w hSw => by kernel_rfl) ?_
       refine gd1 3 { dst := some 88, op := _, type := _, pos := _, after := _, guard := _ } (.slice A87 l102.length c88) rfl hS169 (fun w hSw => run_load1 rfl (by kernel_rfl) (fun _ => by kernel_rfl) (hSw.box 2 rfl 2 rfl)) ?_
       refine gd1 4 { dst := some 89, op := _, type := _, pos := _, after := _, guard := _ } (.pointer (some ⟨gz12_76B0, 0, none⟩)) rfl hS169 (fun w hSw => by kernel_rfl) ?_
       refine gd1 5 { dst := some 90, op := _, type := _, pos := _, after := _, guard := _ } (.pointer (some ⟨gz12_76B0, 0, none⟩)) rfl hS169 (fun w hSw => by kernel_rfl) ?_
       refine gd1 6 { dst := some 91, op := _, type := _, pos := _, after := _, guard := _ } (.pointer (some ⟨gz12_76B0, 3, none⟩)) rfl hS169 (fun w hSw => by kernel_rfl) ?_
       refine gd1 7 { dst := some 92, op := _, type := _, pos := _, after := _, guard := _ } (.slice A90 l104.length c91) rfl hS169 (fun w hSw => run_load1 rfl (by kernel_rfl) (fun _ => by kernel_rfl) (hSw.box 2 rfl 3 rfl)) ?_
       refine gd1 8 { dst := some 93, op := _, type := _, pos := _, after := _, guard := _ } (.int .u8 x62) rfl hS169 (fun w hSw => by kernel_rfl) ?_
       refine gd1 9 { dst := some 4, op := _, type := _, pos := _, after := _, guard := _ } (.slice A87 l102.length c88) rfl hS169 (fun w hSw => by kernel_rfl) ?_
       refine gd1 10 { dst := some 5, op := _, type := _, pos := _, after := _, guard := _ } (.slice A90 l104.length c91) rfl hS169 (fun w hSw => by kernel_rfl) ?_
       refine gd1 11 { dst := some 6, op := _, type := _, pos := _, after := _, guard := _ } (.int .u8 x62) rfl hS169 (fun w hSw => by kernel_rfl) ?_
       refine gd1 12 { dst := some 7, op := _, type := _, pos := _, after := _, guard := _ } (.int .i64 0) rfl hS169 (fun w hSw => by kernel_rfl) ?_
       refine gd_done (by kernel_rfl) ?_
       refine gx_thenN ?_
       refine hK167 _ _ ?_
       refine gx_ret ?_
       obtain rfl := Option.some.inj hO107
       exact gx_fin (.tuple #[.slice A87 l102.length c88, .slice A90 l104.length c91, .int .u8 x62, .int .i64 0]) (by kernel_rfl) (by kernel_rfl) ⟨_, rfl, A87, c88, A90, c91, rfl, (hS169.pick [0, 1] rfl rfl)⟩
     ·intro K171
      refine gd1 0 { dst := some 39, op := _, type := _, pos := _, after := _, guard := _ } (.slice A0 p0.length c0) rfl hS79 (fun w hSw => by kernel_rfl) ?_
      refine gd1 1 { dst := some 40, op := _, type := _, pos := _, after := _, guard := _ } (.int .u8 x62) rfl hS79 (fun w hSw => by kernel_rfl) ?_
      refine gd1 2 { dst := some 41, op := _, type := _, pos := _, after := _, guard := _ } (.slice A0 p0.length c0) rfl hS79 (fun w hSw => by kernel_rfl) ?_
      refine gd1 3 { dst := some 42, op := _, type := _, pos := _, after := _, guard := _ } (.int .i64 ((p0.length : Nat) : Int)) rfl hS79 (fun w hSw => by kernel_rfl) ?_
      refine gd1 5 { dst := some 44, op := _, type := _, pos := _, after := _, guard := _ } (.slice A0 p0.length c0) rfl hS79 (fun w hSw => by kernel_rfl) ?_
      refine gd1 6 { dst := some 45, op := _, type := _, pos := _, after := _, guard := _ } (.int .i64 ((p0.length : Nat) : Int)) rfl hS79 (fun w hSw => by kernel_rfl) ?_
      refine gd_fork2 4 7 { dst := some 43, op := _, type := _, pos := _, after := _, guard := _ } { dst := some 46, op := _, type := _, pos := _, after := _, guard := _ } rfl rfl ?_ ?_
      ·skip
       refine gfR 4 { dst := some 43, op := _, type := _, pos := _, after := _, guard := _ } rfl (st_make (T := 5) (k := .u8) (by_ := 1) rfl (by kernel_rfl) (by kernel_rfl) (by kernel_rfl) (by kernel_rfl) (by kernel_rfl) hS79 hmz12_76o4_2) ?_
       rintro _ wz12_76o4_3 ⟨Az12_76o4_5, cz12_76o4_6, rfl, hSz12_76o4_4⟩
       have hSz12_76o4_4 : St _ _ wz12_76o4_3 [rowE .u8 5 Az12_76o4_5 cz12_76o4_6 lz12_76o4_1] := hSz12_76o4_4
       refine ⟨(hSz12_76o4_4.pick [] rfl rfl), ?_⟩
       refine gdR 7 { dst := some 46, op := _, type := _, pos := _, after := _, guard := _ } rfl (st_make (T := 34) (k := .u8) (by_ := 1) rfl (by kernel_rfl) (by kernel_rfl) (by kernel_rfl) (by kernel_rfl) (by kernel_rfl) hSz12_76o4_4 hmz12_76o7_2) ?_
       rintro _ wz12_76o7_3 ⟨Az12_76o7_5, cz12_76o7_6, rfl, hSz12_76o7_4⟩
       have hSz12_76o7_4 : St _ _ wz12_76o7_3 [rowE .u8 5 Az12_76o4_5 cz12_76o4_6 lz12_76o4_1, rowE .u8 34 Az12_76o7_5 cz12_76o7_6 lz12_76o7_1] := hSz12_76o7_4
       refine ⟨(hSz12_76o7_4.pick [] rfl rfl), ?_⟩
       refine gd1 8 { dst := some 47, op := _, type := _, pos := _, after := _, guard := _ } (.agg #[.slice A0 p0.length c0, .int .u8 x62, .slice Az12_76o4_5 lz12_76o4_1.length cz12_76o4_6, .slice Az12_76o7_5 lz12_76o7_1.length cz12_76o7_6]) rfl (hSz12_76o7_4.pick [] rfl rfl) (fun w hSw => by kernel_rfl) ?_
       refine gdR 9 { dst := some 48, op := _, type := _, pos := _, after := _, guard := _ } rfl (st_boxed [.slice A0 p0.length c0, .int .u8 x62, .slice Az12_76o4_5 lz12_76o4_1.length cz12_76o4_6, .slice Az12_76o7_5 lz12_76o7_1.length cz12_76o7_6] 62 hSz12_76o7_4 (by kernel_rfl)) ?_
       rintro _ wz12_76o9_1 ⟨rfl, hSz12_76o9_2⟩
       have hSz12_76o9_2 : St _ _ wz12_76o9_1 [rowE .u8 5 Az12_76o4_5 cz12_76o4_6 lz12_76o4_1, rowE .u8 34 Az12_76o7_5 cz12_76o7_6 lz12_76o7_1, boxE wz12_76o7_3.heap.size [.slice A0 p0.length c0, .int .u8 x62, .slice Az12_76o4_5 lz12_76o4_1.length cz12_76o4_6, .slice Az12_76o7_5 lz12_76o7_1.length cz12_76o7_6] 62] := hSz12_76o9_2
       refine ⟨(hSz12_76o9_2.pick [] rfl rfl), ?_⟩
       refine gd1 10 { dst := some 9, op := _, type := _, pos := _, after := _, guard := _ } (.pointer (some ⟨wz12_76o7_3.heap.size, 0, none⟩)) rfl (hSz12_76o9_2.pick [] rfl rfl) (fun w hSw => by kernel_rfl) ?_
       exact gd_meet (by kernel_rfl) (by kernel_rfl) (K171 (Az12_76o4_5, cz12_76o4_6, Az12_76o7_5, cz12_76o7_6, wz12_76o7_3.heap.size) _ hSz12_76o9_2)
      ·skip
       refine gfR 7 { dst := some 46, op := _, type := _, pos := _, after := _, guard := _ } rfl (st_make (T := 34) (k := .u8) (by_ := 1) rfl (by kernel_rfl) (by kernel_rfl) (by kernel_rfl) (by kernel_rfl) (by kernel_rfl) hS79 hmz12_76o7_2) ?_
       rintro _ wz12_76o7_3 ⟨Az12_76o7_5, cz12_76o7_6, rfl, hSz12_76o7_4⟩
       have hSz12_76o7_4 : St _ _ wz12_76o7_3 [rowE .u8 34 Az12_76o7_5 cz12_76o7_6 lz12_76o7_1] := hSz12_76o7_4
       refine ⟨(hSz12_76o7_4.pick [] rfl rfl), ?_⟩
       refine gdR 4 { dst := some 43, op := _, type := _, pos := _, after := _, guard := _ } rfl (st_make (T := 5) (k := .u8) (by_ := 1) rfl (by kernel_rfl) (by kernel_rfl) (by kernel_rfl) (by kernel_rfl) (by kernel_rfl) hSz12_76o7_4 hmz12_76o4_2) ?_
       rintro _ wz12_76o4_3 ⟨Az12_76o4_5, cz12_76o4_6, rfl, hSz12_76o4_4⟩
       have hSz12_76o4_4 : St _ _ wz12_76o4_3 [rowE .u8 34 Az12_76o7_5 cz12_76o7_6 lz12_76o7_1, rowE .u8 5 Az12_76o4_5 cz12_76o4_6 lz12_76o4_1] := hSz12_76o4_4
       refine ⟨(hSz12_76o4_4.pick [] rfl rfl), ?_⟩
       refine gd1 8 { dst := some 47, op := _, type := _, pos := _, after := _, guard := _ } (.agg #[.slice A0 p0.length c0, .int .u8 x62, .slice Az12_76o4_5 lz12_76o4_1.length cz12_76o4_6, .slice Az12_76o7_5 lz12_76o7_1.length cz12_76o7_6]) rfl (hSz12_76o4_4.pick [] rfl rfl) (fun w hSw => by kernel_rfl) ?_
       refine gdR 9 { dst := some 48, op := _, type := _, pos := _, after := _, guard := _ } rfl (st_boxed [.slice A0 p0.length c0, .int .u8 x62, .slice Az12_76o4_5 lz12_76o4_1.length cz12_76o4_6, .slice Az12_76o7_5 lz12_76o7_1.length cz12_76o7_6] 62 hSz12_76o4_4 (by kernel_rfl)) ?_
       rintro _ wz12_76o9_1 ⟨rfl, hSz12_76o9_2⟩
       have hSz12_76o9_2 : St _ _ wz12_76o9_1 [rowE .u8 34 Az12_76o7_5 cz12_76o7_6 lz12_76o7_1, rowE .u8 5 Az12_76o4_5 cz12_76o4_6 lz12_76o4_1, boxE wz12_76o4_3.heap.size [.slice A0 p0.length c0, .int .u8 x62, .slice Az12_76o4_5 lz12_76o4_1.length cz12_76o4_6, .slice Az12_76o7_5 lz12_76o7_1.length cz12_76o7_6] 62] := hSz12_76o9_2
       refine ⟨(hSz12_76o9_2.pick [] rfl rfl), ?_⟩
       refine gd1 10 { dst := some 9, op := _, type := _, pos := _, after := _, guard := _ } (.pointer (some ⟨wz12_76o4_3.heap.size, 0, none⟩)) rfl (hSz12_76o9_2.pick [] rfl rfl) (fun w hSw => by kernel_rfl) ?_
       exact gd_meet (by kernel_rfl) (by kernel_rfl) (K171 (Az12_76o4_5, cz12_76o4_6, Az12_76o7_5, cz12_76o7_6, wz12_76o4_3.heap.size) _ (hSz12_76o9_2.pick [1, 0, 2] rfl rfl))

end Go.Proofs.Ytjndolnjhbgflaa

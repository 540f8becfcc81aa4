/-
  The statements, walked.
-/
import Derived.Test.YtjndolnjhbgflaaP2
import Derived.Test.YtjndolnjhbgflaaR2
namespace Go.Proofs.Ytjndolnjhbgflaa
open Go Go.RowKit
set_option linter.unusedVariables false

def kPlaces_L1 (N : Nat) (p0 : List Int) (p1 : List Int) : Nat → Int → Option (Ctl (Unit) (Bool))
 | 0, _ => none
 | k22+1, x21 => (if x21 < ((p0.length : Nat) : Int) then ((ix p0 x21).bind fun x35 => ((ix p1 x21).bind fun x37 => (if x35 ≠ x37 then some (Ctl.ret false) else kPlaces_L1 N p0 p1 k22 (IntKind.i64.wrap (x21 + 1))))) else some (Ctl.go ()))
def kPlaces (N : Nat) (p0 : List Int) (p1 : List Int) : Option (Bool) :=
 (if ((p0.length : Nat) : Int) ≠ ((p1.length : Nat) : Int) then some false else ((kPlaces_L1 N p0 p1 N 0 : Option (Ctl (Unit) (Bool))).bind fun | Ctl.go () => some true | Ctl.ret r => some r))

set_option linter.unusedVariables false in
def kPlaces_R (r : Bool) (w0 : World) (v : Value) (w : World) : Prop := v = .bool r ∧ St [] w0 w []

set_option maxRecDepth 100000 in
set_option maxHeartbeats 4000000 in
theorem kPlaces_ok (N : Nat) (p0 : List Int) (p1 : List Int) (A0 : Option Addr) (c0 : Nat) (A1 : Option Addr) (c1 : Nat) (r : Bool) (hF : kPlaces N p0 p1 = some r) (w0 : World) (hv0 : Vw [] .i64 w0 A0 c0 p0) (hv1 : Vw [] .i64 w0 A1 c1 p1) :
  Calls Try.prog 15 #[.slice A0 p0.length c0, .slice A1 p1.length c1] w0 fun e w => ∃ v, e = .returned v ∧ kPlaces_R r w0 v w := by
 have hS0 := St.start w0
 unfold kPlaces at hF
 refine calls_of Try.func15 rfl ⟨((.slice A0 p0.length c0) :: (.slice A1 p1.length c1) :: un 24 ([])).toArray, []⟩ (by kernel_rfl) ?_
 refine gx_seq (fun K1 hK2 => ?_)
 refine gx_region ?_
 refine gx_k (.bool false) w0 ?_
 refine gx_nil ?_
 refine gx_thenN ?_
 refine hK2 _ _ ?_
 refine gx_seq (fun K3 hK4 => ?_)
 refine gx_seq (fun K5 hK6 => ?_)
 refine gx_region ?_
 refine gx_k (.slice A0 p0.length c0) w0 (gx_k (.int .i64 ((p0.length : Nat) : Int)) w0 (gx_k (.slice A1 p1.length c1) w0 (gx_k (.int .i64 ((p1.length : Nat) : Int)) w0 ?_)))
 rcases if_in hF with ⟨h7, hF⟩ | ⟨h7, hF⟩
 ·refine gx_v (.bool true) w0 (run_boolE (ne_yes h7) (by kernel_rfl)) ?_
  refine gx_nil ?_
  refine gx_thenN ?_
  refine hK6 _ _ ?_
  refine gx_yes (by kernel_rfl) ?_
  refine gx_seq (fun K8 hK9 => ?_)
  refine gx_region ?_
  refine gx_k (.bool false) w0 ?_
  refine gx_nil ?_
  refine gx_thenN ?_
  refine hK9 _ _ ?_
  refine gx_ret ?_
  refine gx_thenR ?_
  obtain rfl := Option.some.inj hF
  exact gx_fin (.bool false) (by kernel_rfl) (by kernel_rfl) ⟨_, rfl, rfl, hS0⟩
 ·refine gx_v (.bool false) w0 (run_boolE (ne_no h7) (by kernel_rfl)) ?_
  refine gx_nil ?_
  refine gx_thenN ?_
  refine hK6 _ _ ?_
  refine gx_no (by kernel_rfl) ?_
  refine gx_pass ?_
  refine gx_thenN ?_
  refine hK4 _ _ ?_
  obtain ⟨c13, hE14, hO15⟩ := bind_in hF
  refine gx_cut (fun a w => selfA (fun u12 => ⟨(dd u12 0 2 (undef :: undef :: dd u12 4 3 ((.int .i64 ((p0.length : Nat) : Int)) :: (u12 8) :: (.int .i64 ((p1.length : Nat) : Int)) :: (.bool false) :: dd u12 11 15 ([])))).toArray, []⟩) a ∧ Ctl.go () = c13 ∧ St [] w0 w []) ?_ ?_
  ·refine gx_seq (fun K16 hK17 => ?_)
   refine gx_region ?_
   refine gx_k (.int .i64 0) w0 ?_
   refine gx_nil ?_
   refine gx_thenN ?_
   refine hK17 _ _ ?_
   refine gx_block ?_
   refine gx_loop (fun k a w => ∃ (x21 : Int), selfA (fun u20 => ⟨((.slice A0 p0.length c0) :: (.slice A1 p1.length c1) :: undef :: undef :: (u20 4) :: (.int .i64 x21) :: (u20 6) :: (.int .i64 ((p0.length : Nat) : Int)) :: (u20 8) :: (.int .i64 ((p1.length : Nat) : Int)) :: (.bool false) :: dd u20 11 15 ([])).toArray, []⟩) a ∧ kPlaces_L1 N p0 p1 k x21 = some c13 ∧ St [] w0 w []) N ?_ ?_
   ·exact ⟨0, selfA_i (by kernel_rfl), hE14, hS0⟩
   ·rintro k22 _ w18 ⟨x21, hq42, hL23, hS19⟩
    obtain ⟨u20, rfl⟩ := selfA_u hq42
    cases k22 with
    | zero => cases hL23
    | succ k22 =>
     first | rw [kPlaces_L1] at hL23 | unfold kPlaces_L1 at hL23
     refine gx_seq (fun K24 hK25 => ?_)
     refine gx_seq (fun K26 hK27 => ?_)
     refine gx_region ?_
     refine gx_k (.int .i64 x21) w18 (gx_k (.slice A0 p0.length c0) w18 (gx_k (.int .i64 ((p0.length : Nat) : Int)) w18 ?_))
     rcases if_in hL23 with ⟨h28, hL23⟩ | ⟨h28, hL23⟩
     ·refine gx_v (.bool true) w18 (run_boolE (decide_eq_true h28) (by kernel_rfl)) ?_
      refine gx_nil ?_
      refine gx_thenN ?_
      refine hK27 _ _ ?_
      refine gx_yes (by kernel_rfl) ?_
      refine gx_pass ?_
      refine gx_thenN ?_
      refine hK25 _ _ ?_
      refine gx_seq (fun K29 hK30 => ?_)
      refine gx_block ?_
      refine gx_seq (fun K31 hK32 => ?_)
      refine gd_start (fun w => St [] w0 w []) 9 #[false, false, false, false, false, false, false, false, false] (by kernel_rfl) (by kernel_rfl) ?_
      have hS34 := hS19.drew
      generalize w18.drew = w33 at hS34 ⊢
      refine gd1 0 { dst := some 17, op := _, type := _, pos := _, after := _, guard := _ } (.slice A0 p0.length c0) rfl hS34 (fun w hSw => by kernel_rfl) ?_
      refine gd1 1 { dst := some 18, op := _, type := _, pos := _, after := _, guard := _ } (.int .i64 x21) rfl hS34 (fun w hSw => by kernel_rfl) ?_
      obtain ⟨x35, hx36, hL23⟩ := bind_in hL23
      refine gd1 2 { dst := some 19, op := _, type := _, pos := _, after := _, guard := _ } (.pointer (Option.map (fun (p : Addr) => p.add (Int.toNat x21 * 1)) A0)) rfl hS34 (fun w hSw => run_ixaddr (E := 3) (s := 1) (k := .i64) (c := c0) rfl (by kernel_rfl) (by kernel_rfl) (by kernel_rfl) (fun _ => by kernel_rfl) (ix_in hx36).1 (ix_in hx36).2.1 (num_nil (hS34.view hv0))) ?_
      refine gd1 3 { dst := some 20, op := _, type := _, pos := _, after := _, guard := _ } (.int .i64 x35) rfl hS34 (fun w hSw => run_loadix rfl (by kernel_rfl) (fun _ => by kernel_rfl) (hSw.view hv0) hx36) ?_
      refine gd1 4 { dst := some 21, op := _, type := _, pos := _, after := _, guard := _ } (.slice A1 p1.length c1) rfl hS34 (fun w hSw => by kernel_rfl) ?_
      refine gd1 5 { dst := some 22, op := _, type := _, pos := _, after := _, guard := _ } (.int .i64 x21) rfl hS34 (fun w hSw => by kernel_rfl) ?_
      obtain ⟨x37, hx38, hL23⟩ := bind_in hL23
      refine gd1 6 { dst := some 23, op := _, type := _, pos := _, after := _, guard := _ } (.pointer (Option.map (fun (p : Addr) => p.add (Int.toNat x21 * 1)) A1)) rfl hS34 (fun w hSw => run_ixaddr (E := 3) (s := 1) (k := .i64) (c := c1) rfl (by kernel_rfl) (by kernel_rfl) (by kernel_rfl) (fun _ => by kernel_rfl) (ix_in hx38).1 (ix_in hx38).2.1 (num_nil (hS34.view hv1))) ?_
      refine gd1 7 { dst := some 24, op := _, type := _, pos := _, after := _, guard := _ } (.int .i64 x37) rfl hS34 (fun w hSw => run_loadix rfl (by kernel_rfl) (fun _ => by kernel_rfl) (hSw.view hv1) hx38) ?_
      rcases if_in hL23 with ⟨h39, hL23⟩ | ⟨h39, hL23⟩
      ·refine gd1 8 { dst := some 25, op := _, type := _, pos := _, after := _, guard := _ } (.bool true) rfl hS34 (fun w hSw => run_boolE (ne_yes h39) (by kernel_rfl)) ?_
       refine gd_done (by kernel_rfl) ?_
       refine gx_thenN ?_
       refine hK32 _ _ ?_
       refine gx_yes (by kernel_rfl) ?_
       refine gx_seq (fun K40 hK41 => ?_)
       refine gx_region ?_
       refine gx_k (.bool false) w33 ?_
       refine gx_nil ?_
       refine gx_thenN ?_
       refine hK41 _ _ ?_
       refine gx_ret ?_
       refine gx_blkR ?_
       refine gx_thenR ?_
       refine gx_thenR ?_
       refine gx_blkR ?_
       refine gx_thenR ?_
       obtain rfl := Option.some.inj hL23
       try dsimp only at hO15
       obtain rfl := Option.some.inj hO15
       exact gx_fin (.bool false) (by kernel_rfl) (by kernel_rfl) ⟨_, rfl, rfl, hS34⟩
      ·refine gd1 8 { dst := some 25, op := _, type := _, pos := _, after := _, guard := _ } (.bool false) rfl hS34 (fun w hSw => run_boolE (ne_no h39) (by kernel_rfl)) ?_
       refine gd_done (by kernel_rfl) ?_
       refine gx_thenN ?_
       refine hK32 _ _ ?_
       refine gx_no (by kernel_rfl) ?_
       refine gx_pass ?_
       refine gx_blkN ?_
       refine gx_thenN ?_
       refine hK30 _ _ ?_
       refine gx_region ?_
       refine gx_k (.int .i64 x21) w33 (gx_k (.int .i64 (IntKind.i64.wrap (x21 + 1))) w33 (gx_k (.int .i64 (IntKind.i64.wrap (x21 + 1))) w33 ?_))
       refine gx_nil ?_
       refine gx_thenN ?_
       exact ⟨k22, Nat.lt_succ_self k22, (IntKind.i64.wrap (x21 + 1)), selfA_i (by kernel_rfl), hL23, hS34⟩
     ·refine gx_v (.bool false) w18 (run_boolE (decide_eq_false h28) (by kernel_rfl)) ?_
      refine gx_nil ?_
      refine gx_thenN ?_
      refine hK27 _ _ ?_
      refine gx_no (by kernel_rfl) ?_
      refine gx_exit ?_
      refine gx_thenE ?_
      refine gx_thenE ?_
      refine gx_blkE ?_
      refine gx_thenN ?_
      exact ⟨selfA_i (by kernel_rfl), (Option.some.inj hL23), hS19⟩
  ·rintro _ w10 ⟨hq45, rfl, hS11⟩
   obtain ⟨u12, rfl⟩ := selfA_u hq45
   try dsimp only at hO15
   refine gx_seq (fun K43 hK44 => ?_)
   refine gx_region ?_
   refine gx_k (.bool true) w10 ?_
   refine gx_nil ?_
   refine gx_thenN ?_
   refine hK44 _ _ ?_
   refine gx_ret ?_
   obtain rfl := Option.some.inj hO15
   exact gx_fin (.bool true) (by kernel_rfl) (by kernel_rfl) ⟨_, rfl, rfl, hS11⟩

def kAlike_L1 (N : Nat) (p0 : List (List Int × Int × Int × Int)) (p1 : List (List Int × Int × Int × Int)) : Nat → Int → Option (Ctl (Unit) (Bool))
 | 0, _ => none
 | k22+1, x21 => (if x21 < ((p0.length : Nat) : Int) then ((ixg p0 x21).bind fun x35 => ((ixg p1 x21).bind fun x60 => ((kPlaces N x35.1 x60.1).bind fun b87 => (((match b87 with | true => ((ixg p0 x21).bind fun x100 => ((ixg p1 x21).bind fun x125 => (if x100.2.1 ≠ x125.2.1 then some (true) else some (false)))) | false => some (true)) : Option (Bool)).bind fun b94 => (((match b94 with | true => some (true) | false => ((ixg p0 x21).bind fun x160 => ((ixg p1 x21).bind fun x185 => (if x160.2.2.1 ≠ x185.2.2.1 then some (true) else some (false))))) : Option (Bool)).bind fun b154 => (match b154 with | true => some (Ctl.ret false) | false => ((ixg p0 x21).bind fun x213 => ((ixg p1 x21).bind fun x238 => (if x213.2.2.2 ≠ x238.2.2.2 then some (Ctl.ret false) else kAlike_L1 N p0 p1 k22 (IntKind.i64.wrap (x21 + 1))))))))))) else some (Ctl.go ()))
def kAlike (N : Nat) (p0 : List (List Int × Int × Int × Int)) (p1 : List (List Int × Int × Int × Int)) : Option (Bool) :=
 (if ((p0.length : Nat) : Int) ≠ ((p1.length : Nat) : Int) then some false else ((kAlike_L1 N p0 p1 N 0 : Option (Ctl (Unit) (Bool))).bind fun | Ctl.go () => some true | Ctl.ret r => some r))

set_option linter.unusedVariables false in
def kAlike_R (r : Bool) (w0 : World) (v : Value) (w : World) : Prop := v = .bool r ∧ St [] w0 w []

set_option maxRecDepth 100000 in
set_option maxHeartbeats 4000000 in
theorem kAlike_ok (N : Nat) (p0 : List (List Int × Int × Int × Int)) (p1 : List (List Int × Int × Int × Int)) (A0 : Option Addr) (c0 : Nat) (vs0 : List Value) (ft0 : List Nat) (A1 : Option Addr) (c1 : Nat) (vs1 : List Value) (ft1 : List Nat) (r : Bool) (hF : kAlike N p0 p1 = some r) (w0 : World) (hv0 : (fSl encembedSeq A0 c0 vs0 p0).rd w0 ft0) (ho0 : Off [] w0 ft0) (hv1 : (fSl enccalamusref10Seq A1 c1 vs1 p1).rd w0 ft1) (ho1 : Off [] w0 ft1) :
  Calls Try.prog 11 #[.slice A0 p0.length c0, .slice A1 p1.length c1] w0 fun e w => ∃ v, e = .returned v ∧ kAlike_R r w0 v w := by
 have hS0 := (St.start w0).pool0
 unfold kAlike at hF
 refine calls_of Try.func11 rfl ⟨((.slice A0 p0.length c0) :: (.slice A1 p1.length c1) :: un 66 ([])).toArray, []⟩ (by kernel_rfl) ?_
 refine gx_seq (fun K1 hK2 => ?_)
 refine gx_region ?_
 refine gx_k (.bool false) w0 ?_
 refine gx_nil ?_
 refine gx_thenN ?_
 refine hK2 _ _ ?_
 refine gx_seq (fun K3 hK4 => ?_)
 refine gx_seq (fun K5 hK6 => ?_)
 refine gx_region ?_
 refine gx_k (.slice A0 p0.length c0) w0 (gx_k (.int .i64 ((p0.length : Nat) : Int)) w0 (gx_k (.slice A1 p1.length c1) w0 (gx_k (.int .i64 ((p1.length : Nat) : Int)) w0 ?_)))
 rcases if_in hF with ⟨h7, hF⟩ | ⟨h7, hF⟩
 ·refine gx_v (.bool true) w0 (run_boolE (ne_yes h7) (by kernel_rfl)) ?_
  refine gx_nil ?_
  refine gx_thenN ?_
  refine hK6 _ _ ?_
  refine gx_yes (by kernel_rfl) ?_
  refine gx_seq (fun K8 hK9 => ?_)
  refine gx_region ?_
  refine gx_k (.bool false) w0 ?_
  refine gx_nil ?_
  refine gx_thenN ?_
  refine hK9 _ _ ?_
  refine gx_ret ?_
  refine gx_thenR ?_
  obtain rfl := Option.some.inj hF
  exact gx_fin (.bool false) (by kernel_rfl) (by kernel_rfl) ⟨_, rfl, rfl, (hS0.pick [] rfl rfl)⟩
 ·refine gx_v (.bool false) w0 (run_boolE (ne_no h7) (by kernel_rfl)) ?_
  refine gx_nil ?_
  refine gx_thenN ?_
  refine hK6 _ _ ?_
  refine gx_no (by kernel_rfl) ?_
  refine gx_pass ?_
  refine gx_thenN ?_
  refine hK4 _ _ ?_
  obtain ⟨c13, hE14, hO15⟩ := bind_in hF
  refine gx_cut (fun a w => selfA (fun u12 => ⟨(dd u12 0 2 (undef :: undef :: dd u12 4 3 ((.int .i64 ((p0.length : Nat) : Int)) :: (u12 8) :: (.int .i64 ((p1.length : Nat) : Int)) :: (.bool false) :: dd u12 11 57 ([])))).toArray, []⟩) a ∧ Ctl.go () = c13 ∧ St [] w0 w [poolE ([]) w0]) ?_ ?_
  ·refine gx_seq (fun K16 hK17 => ?_)
   refine gx_region ?_
   refine gx_k (.int .i64 0) w0 ?_
   refine gx_nil ?_
   refine gx_thenN ?_
   refine hK17 _ _ ?_
   refine gx_block ?_
   refine gx_loop (fun k a w => ∃ (x21 : Int), selfA (fun u20 => ⟨((.slice A0 p0.length c0) :: (.slice A1 p1.length c1) :: undef :: undef :: (u20 4) :: (.int .i64 x21) :: (u20 6) :: (.int .i64 ((p0.length : Nat) : Int)) :: (u20 8) :: (.int .i64 ((p1.length : Nat) : Int)) :: (.bool false) :: dd u20 11 57 ([])).toArray, []⟩) a ∧ kAlike_L1 N p0 p1 k x21 = some c13 ∧ St [] w0 w [poolE ([]) w0]) N ?_ ?_
   ·exact ⟨0, selfA_i (by kernel_rfl), hE14, hS0⟩
   ·rintro k22 _ w18 ⟨x21, hq266, hL23, hS19⟩
    obtain ⟨u20, rfl⟩ := selfA_u hq266
    cases k22 with
    | zero => cases hL23
    | succ k22 =>
     first | rw [kAlike_L1] at hL23 | unfold kAlike_L1 at hL23
     refine gx_seq (fun K24 hK25 => ?_)
     refine gx_seq (fun K26 hK27 => ?_)
     refine gx_region ?_
     refine gx_k (.int .i64 x21) w18 (gx_k (.slice A0 p0.length c0) w18 (gx_k (.int .i64 ((p0.length : Nat) : Int)) w18 ?_))
     rcases if_in hL23 with ⟨h28, hL23⟩ | ⟨h28, hL23⟩
     ·refine gx_v (.bool true) w18 (run_boolE (decide_eq_true h28) (by kernel_rfl)) ?_
      refine gx_nil ?_
      refine gx_thenN ?_
      refine hK27 _ _ ?_
      refine gx_yes (by kernel_rfl) ?_
      refine gx_pass ?_
      refine gx_thenN ?_
      refine hK25 _ _ ?_
      refine gx_seq (fun K29 hK30 => ?_)
      refine gx_block ?_
      refine gx_seq (fun K31 hK32 => ?_)
      refine gd_start (fun w => St [] w0 w [poolE ([]) w0]) 51 #[false, false, false, false, false, false, false, false, false, false, false, false, false, false, false, false, false, false, false, false, false, false, false, false, false, false, false, false, false, false, false, false, false, false, false, false, false, false, false, false, false, false, false, false, false, false, false, false, false, false, false] (by kernel_rfl) (by kernel_rfl) ?_
      have hS34 := hS19.drew
      generalize w18.drew = w33 at hS34 ⊢
      refine gd1 0 { dst := some 17, op := _, type := _, pos := _, after := _, guard := _ } (.slice A0 p0.length c0) rfl hS34 (fun w hSw => by kernel_rfl) ?_
      refine gd1 1 { dst := some 18, op := _, type := _, pos := _, after := _, guard := _ } (.int .i64 x21) rfl hS34 (fun w hSw => by kernel_rfl) ?_
      obtain ⟨x35, hx36, hL23⟩ := bind_in hL23
      obtain ⟨g37, o38, e39, hA40, he41, h42, ha43⟩ := elem_at (e := encembedSeq) (sl_lies (hS34.inn ho0 hv0)) (sl_each hv0) hx36 (by decide)
      obtain ⟨e44, e45, rfl, h46, h47⟩ := h42
      obtain ⟨A48, c49, vs50, rfl, hf51⟩ := h46
      obtain ⟨e52, e53, rfl, h54, h55⟩ := h47
      obtain rfl := h54
      obtain ⟨e56, e57, rfl, h58, h59⟩ := h55
      obtain rfl := h58
      obtain rfl := h59
      have ha43 : ∀ w', Lies w' A0 vs0 → w'.rangeAt g37 o38 [.slice A48 ((x35.1).length) c49, .int .u8 x35.2.1, .int .u8 x35.2.2.1, .int .u8 x35.2.2.2] := ha43
      refine gd1 2 { dst := some 19, op := _, type := _, pos := _, after := _, guard := _ } (.pointer (some ⟨g37, o38, none⟩)) rfl hS34 (fun w hSw => run_ixaddrN (E := 36) (s := 4) (k := .i64) (c := c0) rfl (by kernel_rfl) (by kernel_rfl) (by kernel_rfl) (fun _ => by kernel_rfl) (ixg_in hx36).1 (ixg_in hx36).2.1 hA40) ?_
      refine gd1 3 { dst := some 20, op := _, type := _, pos := _, after := _, guard := _ } (.pointer (some ⟨g37, o38, none⟩)) rfl hS34 (fun w hSw => by kernel_rfl) ?_
      refine gd1 4 { dst := some 21, op := _, type := _, pos := _, after := _, guard := _ } (.slice A48 ((x35.1).length) c49) rfl hS34 (fun w hSw => run_loadN1 0 rfl (by kernel_rfl) (fun _ => by kernel_rfl) (ha43 _ (sl_lies (hSw.inn ho0 hv0))) rfl) ?_
      refine gd1 5 { dst := some 22, op := _, type := _, pos := _, after := _, guard := _ } (.slice A1 p1.length c1) rfl hS34 (fun w hSw => by kernel_rfl) ?_
      refine gd1 6 { dst := some 23, op := _, type := _, pos := _, after := _, guard := _ } (.int .i64 x21) rfl hS34 (fun w hSw => by kernel_rfl) ?_
      obtain ⟨x60, hx61, hL23⟩ := bind_in hL23
      obtain ⟨g62, o63, e64, hA65, he66, h67, ha68⟩ := elem_at (e := enccalamusref10Seq) (sl_lies (hS34.inn ho1 hv1)) (sl_each hv1) hx61 (by decide)
      obtain ⟨e69, e70, rfl, h71, h72⟩ := h67
      obtain ⟨A73, c74, vs75, rfl, hf76⟩ := h71
      obtain ⟨e77, e78, rfl, h79, h80⟩ := h72
      obtain rfl := h79
      obtain ⟨e81, e82, rfl, h83, h84⟩ := h80
      obtain rfl := h83
      obtain rfl := h84
      have ha68 : ∀ w', Lies w' A1 vs1 → w'.rangeAt g62 o63 [.slice A73 ((x60.1).length) c74, .int .u8 x60.2.1, .int .u8 x60.2.2.1, .int .u8 x60.2.2.2] := ha68
      refine gd1 7 { dst := some 24, op := _, type := _, pos := _, after := _, guard := _ } (.pointer (some ⟨g62, o63, none⟩)) rfl hS34 (fun w hSw => run_ixaddrN (E := 55) (s := 4) (k := .i64) (c := c1) rfl (by kernel_rfl) (by kernel_rfl) (by kernel_rfl) (fun _ => by kernel_rfl) (ixg_in hx61).1 (ixg_in hx61).2.1 hA65) ?_
      refine gd1 8 { dst := some 25, op := _, type := _, pos := _, after := _, guard := _ } (.pointer (some ⟨g62, o63, none⟩)) rfl hS34 (fun w hSw => by kernel_rfl) ?_
      refine gd1 9 { dst := some 26, op := _, type := _, pos := _, after := _, guard := _ } (.slice A73 ((x60.1).length) c74) rfl hS34 (fun w hSw => run_loadN1 0 rfl (by kernel_rfl) (fun _ => by kernel_rfl) (ha68 _ (sl_lies (hSw.inn ho1 hv1))) rfl) ?_
      have hP85 : St _ _ w33 ([] ++ [poolE ([]) w0]) := hS34
      obtain ⟨b87, hc86, hL23⟩ := bind_in hL23
      try dsimp only at hL23
      refine gdC 10 { dst := some 27, op := _, type := _, pos := _, after := _, guard := _ } (kPlaces_R b87 w33) rfl (by kernel_rfl) (kPlaces_ok N x35.1 x60.1 A48 c49 A73 c74 _ hc86 w33 (St.vwF (hP85.offIA ho0) (hS34.inn ho0 hf51)) (St.vwF (hP85.offIA ho1) (hS34.inn ho1 hf76))) ?_
      rintro _ w88 ⟨rfl, hT90⟩
      have hS89 : St _ _ w88 [poolE ([]) w0] := hS34.take _ hT90
      refine ⟨hS89, ?_⟩
      obtain ⟨c95, hE96, hO97⟩ := bind_in hL23
      refine gd_mid (fun a w => ∃ (b94 : Bool), selfA (fun u93 => ⟨((.slice A0 p0.length c0) :: (.slice A1 p1.length c1) :: undef :: undef :: (u20 4) :: (.int .i64 x21) :: (u20 6) :: (.int .i64 ((p0.length : Nat) : Int)) :: (u20 8) :: (.int .i64 ((p1.length : Nat) : Int)) :: (.bool false) :: (.int .i64 x21) :: (u93 12) :: (.int .i64 ((p0.length : Nat) : Int)) :: (.bool true) :: dd u20 15 2 ((u93 17) :: (.int .i64 x21) :: dd u93 19 4 ((.int .i64 x21) :: dd u93 24 3 ((.bool b87) :: dd u93 28 13 ((.bool b94) :: dd u20 42 26 ([])))))).toArray, []⟩) a ∧ b94 = c95 ∧ St [] w0 w [poolE ([]) w0]) 26 #[true, true, true, true, true, true, true, true, true, true, true, true, true, true, true, true, true, true, true, true, true, true, true, true, true, false, false, false, false, false, false, false, false, false, false, false, false, false, false, false, false, false, false, false, false, false, false, false, false, false, false] ?_ ?_
      ·rintro _ w91 ⟨b94, hq98, rfl, hS92⟩
       obtain ⟨u93, rfl⟩ := selfA_u hq98
       try dsimp only at hO97
       obtain ⟨c155, hE156, hO157⟩ := bind_in hO97
       refine gd_mid (fun a w => ∃ (b154 : Bool), selfA (fun u153 => ⟨((.slice A0 p0.length c0) :: (.slice A1 p1.length c1) :: undef :: undef :: (u20 4) :: (.int .i64 x21) :: (u20 6) :: (.int .i64 ((p0.length : Nat) : Int)) :: (u20 8) :: (.int .i64 ((p1.length : Nat) : Int)) :: (.bool false) :: (.int .i64 x21) :: (u93 12) :: (.int .i64 ((p0.length : Nat) : Int)) :: (.bool true) :: dd u20 15 2 ((u93 17) :: (.int .i64 x21) :: dd u93 19 4 ((.int .i64 x21) :: dd u93 24 3 ((.bool b87) :: dd u93 28 13 ((.bool b94) :: dd u153 42 12 ((.bool b154) :: dd u20 55 13 ([]))))))).toArray, []⟩) a ∧ b154 = c155 ∧ St [] w0 w [poolE ([]) w0]) 13 #[true, true, true, true, true, true, true, true, true, true, true, true, true, true, true, true, true, true, true, true, true, true, true, true, true, true, true, true, true, true, true, true, true, true, true, true, true, true, false, false, false, false, false, false, false, false, false, false, false, false, false] ?_ ?_
       ·rintro _ w151 ⟨b154, hq158, rfl, hS152⟩
        obtain ⟨u153, rfl⟩ := selfA_u hq158
        try dsimp only at hO157
        refine gd1 38 { dst := some 55, op := _, type := _, pos := _, after := _, guard := _ } (.bool b154) rfl hS152 (fun w hSw => by kernel_rfl) ?_
        cases b154 with
        | true =>
         try dsimp only at hO157
         refine gd0 39 { dst := some 56, op := _, type := _, pos := _, after := _, guard := _ } rfl hS152 ?_
         refine gd0 40 { dst := some 57, op := _, type := _, pos := _, after := _, guard := _ } rfl hS152 ?_
         refine gd0 41 { dst := some 58, op := _, type := _, pos := _, after := _, guard := _ } rfl hS152 ?_
         refine gd0 42 { dst := some 59, op := _, type := _, pos := _, after := _, guard := _ } rfl hS152 ?_
         refine gd0 43 { dst := some 60, op := _, type := _, pos := _, after := _, guard := _ } rfl hS152 ?_
         refine gd0 44 { dst := some 61, op := _, type := _, pos := _, after := _, guard := _ } rfl hS152 ?_
         refine gd0 45 { dst := some 62, op := _, type := _, pos := _, after := _, guard := _ } rfl hS152 ?_
         refine gd0 46 { dst := some 63, op := _, type := _, pos := _, after := _, guard := _ } rfl hS152 ?_
         refine gd0 47 { dst := some 64, op := _, type := _, pos := _, after := _, guard := _ } rfl hS152 ?_
         refine gd0 48 { dst := some 65, op := _, type := _, pos := _, after := _, guard := _ } rfl hS152 ?_
         refine gd0 49 { dst := some 66, op := _, type := _, pos := _, after := _, guard := _ } rfl hS152 ?_
         refine gd1 50 { dst := some 67, op := _, type := _, pos := _, after := _, guard := _ } (.bool true) rfl hS152 (fun w hSw => by kernel_rfl) ?_
         refine gd_done (by kernel_rfl) ?_
         refine gx_thenN ?_
         refine hK32 _ _ ?_
         refine gx_yes (by kernel_rfl) ?_
         refine gx_seq (fun K211 hK212 => ?_)
         refine gx_region ?_
         refine gx_k (.bool false) w151 ?_
         refine gx_nil ?_
         refine gx_thenN ?_
         refine hK212 _ _ ?_
         refine gx_ret ?_
         refine gx_blkR ?_
         refine gx_thenR ?_
         refine gx_thenR ?_
         refine gx_blkR ?_
         refine gx_thenR ?_
         obtain rfl := Option.some.inj hO157
         try dsimp only at hO15
         obtain rfl := Option.some.inj hO15
         exact gx_fin (.bool false) (by kernel_rfl) (by kernel_rfl) ⟨_, rfl, rfl, (hS152.pick [] rfl rfl)⟩
        | false =>
         try dsimp only at hO157
         refine gd1 39 { dst := some 56, op := _, type := _, pos := _, after := _, guard := _ } (.slice A0 p0.length c0) rfl hS152 (fun w hSw => by kernel_rfl) ?_
         refine gd1 40 { dst := some 57, op := _, type := _, pos := _, after := _, guard := _ } (.int .i64 x21) rfl hS152 (fun w hSw => by kernel_rfl) ?_
         obtain ⟨x213, hx214, hO157⟩ := bind_in hO157
         obtain ⟨g215, o216, e217, hA218, he219, h220, ha221⟩ := elem_at (e := encembedSeq) (sl_lies (hS152.inn ho0 hv0)) (sl_each hv0) hx214 (by decide)
         obtain ⟨e222, e223, rfl, h224, h225⟩ := h220
         obtain ⟨A226, c227, vs228, rfl, hf229⟩ := h224
         obtain ⟨e230, e231, rfl, h232, h233⟩ := h225
         obtain rfl := h232
         obtain ⟨e234, e235, rfl, h236, h237⟩ := h233
         obtain rfl := h236
         obtain rfl := h237
         have ha221 : ∀ w', Lies w' A0 vs0 → w'.rangeAt g215 o216 [.slice A226 ((x213.1).length) c227, .int .u8 x213.2.1, .int .u8 x213.2.2.1, .int .u8 x213.2.2.2] := ha221
         refine gd1 41 { dst := some 58, op := _, type := _, pos := _, after := _, guard := _ } (.pointer (some ⟨g215, o216, none⟩)) rfl hS152 (fun w hSw => run_ixaddrN (E := 36) (s := 4) (k := .i64) (c := c0) rfl (by kernel_rfl) (by kernel_rfl) (by kernel_rfl) (fun _ => by kernel_rfl) (ixg_in hx214).1 (ixg_in hx214).2.1 hA218) ?_
         refine gd1 42 { dst := some 59, op := _, type := _, pos := _, after := _, guard := _ } (.pointer (some ⟨g215, o216 + 3, none⟩)) rfl hS152 (fun w hSw => by kernel_rfl) ?_
         refine gd1 43 { dst := some 60, op := _, type := _, pos := _, after := _, guard := _ } (.int .u8 x213.2.2.2) rfl hS152 (fun w hSw => run_loadN1 3 rfl (by kernel_rfl) (fun _ => by kernel_rfl) (ha221 _ (sl_lies (hSw.inn ho0 hv0))) rfl) ?_
         refine gd1 44 { dst := some 61, op := _, type := _, pos := _, after := _, guard := _ } (.slice A1 p1.length c1) rfl hS152 (fun w hSw => by kernel_rfl) ?_
         refine gd1 45 { dst := some 62, op := _, type := _, pos := _, after := _, guard := _ } (.int .i64 x21) rfl hS152 (fun w hSw => by kernel_rfl) ?_
         obtain ⟨x238, hx239, hO157⟩ := bind_in hO157
         obtain ⟨g240, o241, e242, hA243, he244, h245, ha246⟩ := elem_at (e := enccalamusref10Seq) (sl_lies (hS152.inn ho1 hv1)) (sl_each hv1) hx239 (by decide)
         obtain ⟨e247, e248, rfl, h249, h250⟩ := h245
         obtain ⟨A251, c252, vs253, rfl, hf254⟩ := h249
         obtain ⟨e255, e256, rfl, h257, h258⟩ := h250
         obtain rfl := h257
         obtain ⟨e259, e260, rfl, h261, h262⟩ := h258
         obtain rfl := h261
         obtain rfl := h262
         have ha246 : ∀ w', Lies w' A1 vs1 → w'.rangeAt g240 o241 [.slice A251 ((x238.1).length) c252, .int .u8 x238.2.1, .int .u8 x238.2.2.1, .int .u8 x238.2.2.2] := ha246
         refine gd1 46 { dst := some 63, op := _, type := _, pos := _, after := _, guard := _ } (.pointer (some ⟨g240, o241, none⟩)) rfl hS152 (fun w hSw => run_ixaddrN (E := 55) (s := 4) (k := .i64) (c := c1) rfl (by kernel_rfl) (by kernel_rfl) (by kernel_rfl) (fun _ => by kernel_rfl) (ixg_in hx239).1 (ixg_in hx239).2.1 hA243) ?_
         refine gd1 47 { dst := some 64, op := _, type := _, pos := _, after := _, guard := _ } (.pointer (some ⟨g240, o241 + 3, none⟩)) rfl hS152 (fun w hSw => by kernel_rfl) ?_
         refine gd1 48 { dst := some 65, op := _, type := _, pos := _, after := _, guard := _ } (.int .u8 x238.2.2.2) rfl hS152 (fun w hSw => run_loadN1 3 rfl (by kernel_rfl) (fun _ => by kernel_rfl) (ha246 _ (sl_lies (hSw.inn ho1 hv1))) rfl) ?_
         rcases if_in hO157 with ⟨h263, hO157⟩ | ⟨h263, hO157⟩
         ·refine gd1 49 { dst := some 66, op := _, type := _, pos := _, after := _, guard := _ } (.bool true) rfl hS152 (fun w hSw => run_boolE (ne_yes h263) (by kernel_rfl)) ?_
          refine gd1 50 { dst := some 67, op := _, type := _, pos := _, after := _, guard := _ } (.bool true) rfl hS152 (fun w hSw => by kernel_rfl) ?_
          refine gd_done (by kernel_rfl) ?_
          refine gx_thenN ?_
          refine hK32 _ _ ?_
          refine gx_yes (by kernel_rfl) ?_
          refine gx_seq (fun K264 hK265 => ?_)
          refine gx_region ?_
          refine gx_k (.bool false) w151 ?_
          refine gx_nil ?_
          refine gx_thenN ?_
          refine hK265 _ _ ?_
          refine gx_ret ?_
          refine gx_blkR ?_
          refine gx_thenR ?_
          refine gx_thenR ?_
          refine gx_blkR ?_
          refine gx_thenR ?_
          obtain rfl := Option.some.inj hO157
          try dsimp only at hO15
          obtain rfl := Option.some.inj hO15
          exact gx_fin (.bool false) (by kernel_rfl) (by kernel_rfl) ⟨_, rfl, rfl, (hS152.pick [] rfl rfl)⟩
         ·refine gd1 49 { dst := some 66, op := _, type := _, pos := _, after := _, guard := _ } (.bool false) rfl hS152 (fun w hSw => run_boolE (ne_no h263) (by kernel_rfl)) ?_
          refine gd1 50 { dst := some 67, op := _, type := _, pos := _, after := _, guard := _ } (.bool false) rfl hS152 (fun w hSw => by kernel_rfl) ?_
          refine gd_done (by kernel_rfl) ?_
          refine gx_thenN ?_
          refine hK32 _ _ ?_
          refine gx_no (by kernel_rfl) ?_
          refine gx_pass ?_
          refine gx_blkN ?_
          refine gx_thenN ?_
          refine hK30 _ _ ?_
          refine gx_region ?_
          refine gx_k (.int .i64 x21) w151 (gx_k (.int .i64 (IntKind.i64.wrap (x21 + 1))) w151 (gx_k (.int .i64 (IntKind.i64.wrap (x21 + 1))) w151 ?_))
          refine gx_nil ?_
          refine gx_thenN ?_
          exact ⟨k22, Nat.lt_succ_self k22, (IntKind.i64.wrap (x21 + 1)), selfA_i (by kernel_rfl), hO157, hS152⟩
       ·intro hK159
        refine gd1 25 { dst := some 42, op := _, type := _, pos := _, after := _, guard := _ } (.bool b94) rfl hS92 (fun w hSw => by kernel_rfl) ?_
        cases b94 with
        | true =>
         try dsimp only at hE156
         refine gd0 26 { dst := some 43, op := _, type := _, pos := _, after := _, guard := _ } rfl hS92 ?_
         refine gd0 27 { dst := some 44, op := _, type := _, pos := _, after := _, guard := _ } rfl hS92 ?_
         refine gd0 28 { dst := some 45, op := _, type := _, pos := _, after := _, guard := _ } rfl hS92 ?_
         refine gd0 29 { dst := some 46, op := _, type := _, pos := _, after := _, guard := _ } rfl hS92 ?_
         refine gd0 30 { dst := some 47, op := _, type := _, pos := _, after := _, guard := _ } rfl hS92 ?_
         refine gd0 31 { dst := some 48, op := _, type := _, pos := _, after := _, guard := _ } rfl hS92 ?_
         refine gd0 32 { dst := some 49, op := _, type := _, pos := _, after := _, guard := _ } rfl hS92 ?_
         refine gd0 33 { dst := some 50, op := _, type := _, pos := _, after := _, guard := _ } rfl hS92 ?_
         refine gd0 34 { dst := some 51, op := _, type := _, pos := _, after := _, guard := _ } rfl hS92 ?_
         refine gd0 35 { dst := some 52, op := _, type := _, pos := _, after := _, guard := _ } rfl hS92 ?_
         refine gd0 36 { dst := some 53, op := _, type := _, pos := _, after := _, guard := _ } rfl hS92 ?_
         refine gd1 37 { dst := some 54, op := _, type := _, pos := _, after := _, guard := _ } (.bool true) rfl hS92 (fun w hSw => by kernel_rfl) ?_
         exact gd_to hK159 (by kernel_rfl) ⟨true, selfA_i (by kernel_rfl), (Option.some.inj hE156), hS92⟩
        | false =>
         try dsimp only at hE156
         refine gd1 26 { dst := some 43, op := _, type := _, pos := _, after := _, guard := _ } (.slice A0 p0.length c0) rfl hS92 (fun w hSw => by kernel_rfl) ?_
         refine gd1 27 { dst := some 44, op := _, type := _, pos := _, after := _, guard := _ } (.int .i64 x21) rfl hS92 (fun w hSw => by kernel_rfl) ?_
         obtain ⟨x160, hx161, hE156⟩ := bind_in hE156
         obtain ⟨g162, o163, e164, hA165, he166, h167, ha168⟩ := elem_at (e := encembedSeq) (sl_lies (hS92.inn ho0 hv0)) (sl_each hv0) hx161 (by decide)
         obtain ⟨e169, e170, rfl, h171, h172⟩ := h167
         obtain ⟨A173, c174, vs175, rfl, hf176⟩ := h171
         obtain ⟨e177, e178, rfl, h179, h180⟩ := h172
         obtain rfl := h179
         obtain ⟨e181, e182, rfl, h183, h184⟩ := h180
         obtain rfl := h183
         obtain rfl := h184
         have ha168 : ∀ w', Lies w' A0 vs0 → w'.rangeAt g162 o163 [.slice A173 ((x160.1).length) c174, .int .u8 x160.2.1, .int .u8 x160.2.2.1, .int .u8 x160.2.2.2] := ha168
         refine gd1 28 { dst := some 45, op := _, type := _, pos := _, after := _, guard := _ } (.pointer (some ⟨g162, o163, none⟩)) rfl hS92 (fun w hSw => run_ixaddrN (E := 36) (s := 4) (k := .i64) (c := c0) rfl (by kernel_rfl) (by kernel_rfl) (by kernel_rfl) (fun _ => by kernel_rfl) (ixg_in hx161).1 (ixg_in hx161).2.1 hA165) ?_
         refine gd1 29 { dst := some 46, op := _, type := _, pos := _, after := _, guard := _ } (.pointer (some ⟨g162, o163 + 2, none⟩)) rfl hS92 (fun w hSw => by kernel_rfl) ?_
         refine gd1 30 { dst := some 47, op := _, type := _, pos := _, after := _, guard := _ } (.int .u8 x160.2.2.1) rfl hS92 (fun w hSw => run_loadN1 2 rfl (by kernel_rfl) (fun _ => by kernel_rfl) (ha168 _ (sl_lies (hSw.inn ho0 hv0))) rfl) ?_
         refine gd1 31 { dst := some 48, op := _, type := _, pos := _, after := _, guard := _ } (.slice A1 p1.length c1) rfl hS92 (fun w hSw => by kernel_rfl) ?_
         refine gd1 32 { dst := some 49, op := _, type := _, pos := _, after := _, guard := _ } (.int .i64 x21) rfl hS92 (fun w hSw => by kernel_rfl) ?_
         obtain ⟨x185, hx186, hE156⟩ := bind_in hE156
         obtain ⟨g187, o188, e189, hA190, he191, h192, ha193⟩ := elem_at (e := enccalamusref10Seq) (sl_lies (hS92.inn ho1 hv1)) (sl_each hv1) hx186 (by decide)
         obtain ⟨e194, e195, rfl, h196, h197⟩ := h192
         obtain ⟨A198, c199, vs200, rfl, hf201⟩ := h196
         obtain ⟨e202, e203, rfl, h204, h205⟩ := h197
         obtain rfl := h204
         obtain ⟨e206, e207, rfl, h208, h209⟩ := h205
         obtain rfl := h208
         obtain rfl := h209
         have ha193 : ∀ w', Lies w' A1 vs1 → w'.rangeAt g187 o188 [.slice A198 ((x185.1).length) c199, .int .u8 x185.2.1, .int .u8 x185.2.2.1, .int .u8 x185.2.2.2] := ha193
         refine gd1 33 { dst := some 50, op := _, type := _, pos := _, after := _, guard := _ } (.pointer (some ⟨g187, o188, none⟩)) rfl hS92 (fun w hSw => run_ixaddrN (E := 55) (s := 4) (k := .i64) (c := c1) rfl (by kernel_rfl) (by kernel_rfl) (by kernel_rfl) (fun _ => by kernel_rfl) (ixg_in hx186).1 (ixg_in hx186).2.1 hA190) ?_
         refine gd1 34 { dst := some 51, op := _, type := _, pos := _, after := _, guard := _ } (.pointer (some ⟨g187, o188 + 2, none⟩)) rfl hS92 (fun w hSw => by kernel_rfl) ?_
         refine gd1 35 { dst := some 52, op := _, type := _, pos := _, after := _, guard := _ } (.int .u8 x185.2.2.1) rfl hS92 (fun w hSw => run_loadN1 2 rfl (by kernel_rfl) (fun _ => by kernel_rfl) (ha193 _ (sl_lies (hSw.inn ho1 hv1))) rfl) ?_
         rcases if_in hE156 with ⟨h210, hE156⟩ | ⟨h210, hE156⟩
         ·refine gd1 36 { dst := some 53, op := _, type := _, pos := _, after := _, guard := _ } (.bool true) rfl hS92 (fun w hSw => run_boolE (ne_yes h210) (by kernel_rfl)) ?_
          refine gd1 37 { dst := some 54, op := _, type := _, pos := _, after := _, guard := _ } (.bool true) rfl hS92 (fun w hSw => by kernel_rfl) ?_
          exact gd_to hK159 (by kernel_rfl) ⟨true, selfA_i (by kernel_rfl), (Option.some.inj hE156), hS92⟩
         ·refine gd1 36 { dst := some 53, op := _, type := _, pos := _, after := _, guard := _ } (.bool false) rfl hS92 (fun w hSw => run_boolE (ne_no h210) (by kernel_rfl)) ?_
          refine gd1 37 { dst := some 54, op := _, type := _, pos := _, after := _, guard := _ } (.bool false) rfl hS92 (fun w hSw => by kernel_rfl) ?_
          exact gd_to hK159 (by kernel_rfl) ⟨false, selfA_i (by kernel_rfl), (Option.some.inj hE156), hS92⟩
      ·intro hK99
       cases b87 with
       | true =>
        try dsimp only at hE96
        refine gd1 11 { dst := some 28, op := _, type := _, pos := _, after := _, guard := _ } (.bool false) rfl hS89 (fun w hSw => by kernel_rfl) ?_
        refine gd1 12 { dst := some 29, op := _, type := _, pos := _, after := _, guard := _ } (.bool false) rfl hS89 (fun w hSw => by kernel_rfl) ?_
        refine gd1 13 { dst := some 30, op := _, type := _, pos := _, after := _, guard := _ } (.slice A0 p0.length c0) rfl hS89 (fun w hSw => by kernel_rfl) ?_
        refine gd1 14 { dst := some 31, op := _, type := _, pos := _, after := _, guard := _ } (.int .i64 x21) rfl hS89 (fun w hSw => by kernel_rfl) ?_
        obtain ⟨x100, hx101, hE96⟩ := bind_in hE96
        obtain ⟨g102, o103, e104, hA105, he106, h107, ha108⟩ := elem_at (e := encembedSeq) (sl_lies (hS89.inn ho0 hv0)) (sl_each hv0) hx101 (by decide)
        obtain ⟨e109, e110, rfl, h111, h112⟩ := h107
        obtain ⟨A113, c114, vs115, rfl, hf116⟩ := h111
        obtain ⟨e117, e118, rfl, h119, h120⟩ := h112
        obtain rfl := h119
        obtain ⟨e121, e122, rfl, h123, h124⟩ := h120
        obtain rfl := h123
        obtain rfl := h124
        have ha108 : ∀ w', Lies w' A0 vs0 → w'.rangeAt g102 o103 [.slice A113 ((x100.1).length) c114, .int .u8 x100.2.1, .int .u8 x100.2.2.1, .int .u8 x100.2.2.2] := ha108
        refine gd1 15 { dst := some 32, op := _, type := _, pos := _, after := _, guard := _ } (.pointer (some ⟨g102, o103, none⟩)) rfl hS89 (fun w hSw => run_ixaddrN (E := 36) (s := 4) (k := .i64) (c := c0) rfl (by kernel_rfl) (by kernel_rfl) (by kernel_rfl) (fun _ => by kernel_rfl) (ixg_in hx101).1 (ixg_in hx101).2.1 hA105) ?_
        refine gd1 16 { dst := some 33, op := _, type := _, pos := _, after := _, guard := _ } (.pointer (some ⟨g102, o103 + 1, none⟩)) rfl hS89 (fun w hSw => by kernel_rfl) ?_
        refine gd1 17 { dst := some 34, op := _, type := _, pos := _, after := _, guard := _ } (.int .u8 x100.2.1) rfl hS89 (fun w hSw => run_loadN1 1 rfl (by kernel_rfl) (fun _ => by kernel_rfl) (ha108 _ (sl_lies (hSw.inn ho0 hv0))) rfl) ?_
        refine gd1 18 { dst := some 35, op := _, type := _, pos := _, after := _, guard := _ } (.slice A1 p1.length c1) rfl hS89 (fun w hSw => by kernel_rfl) ?_
        refine gd1 19 { dst := some 36, op := _, type := _, pos := _, after := _, guard := _ } (.int .i64 x21) rfl hS89 (fun w hSw => by kernel_rfl) ?_
        obtain ⟨x125, hx126, hE96⟩ := bind_in hE96
        obtain ⟨g127, o128, e129, hA130, he131, h132, ha133⟩ := elem_at (e := enccalamusref10Seq) (sl_lies (hS89.inn ho1 hv1)) (sl_each hv1) hx126 (by decide)
        obtain ⟨e134, e135, rfl, h136, h137⟩ := h132
        obtain ⟨A138, c139, vs140, rfl, hf141⟩ := h136
        obtain ⟨e142, e143, rfl, h144, h145⟩ := h137
        obtain rfl := h144
        obtain ⟨e146, e147, rfl, h148, h149⟩ := h145
        obtain rfl := h148
        obtain rfl := h149
        have ha133 : ∀ w', Lies w' A1 vs1 → w'.rangeAt g127 o128 [.slice A138 ((x125.1).length) c139, .int .u8 x125.2.1, .int .u8 x125.2.2.1, .int .u8 x125.2.2.2] := ha133
        refine gd1 20 { dst := some 37, op := _, type := _, pos := _, after := _, guard := _ } (.pointer (some ⟨g127, o128, none⟩)) rfl hS89 (fun w hSw => run_ixaddrN (E := 55) (s := 4) (k := .i64) (c := c1) rfl (by kernel_rfl) (by kernel_rfl) (by kernel_rfl) (fun _ => by kernel_rfl) (ixg_in hx126).1 (ixg_in hx126).2.1 hA130) ?_
        refine gd1 21 { dst := some 38, op := _, type := _, pos := _, after := _, guard := _ } (.pointer (some ⟨g127, o128 + 1, none⟩)) rfl hS89 (fun w hSw => by kernel_rfl) ?_
        refine gd1 22 { dst := some 39, op := _, type := _, pos := _, after := _, guard := _ } (.int .u8 x125.2.1) rfl hS89 (fun w hSw => run_loadN1 1 rfl (by kernel_rfl) (fun _ => by kernel_rfl) (ha133 _ (sl_lies (hSw.inn ho1 hv1))) rfl) ?_
        rcases if_in hE96 with ⟨h150, hE96⟩ | ⟨h150, hE96⟩
        ·refine gd1 23 { dst := some 40, op := _, type := _, pos := _, after := _, guard := _ } (.bool true) rfl hS89 (fun w hSw => run_boolE (ne_yes h150) (by kernel_rfl)) ?_
         refine gd1 24 { dst := some 41, op := _, type := _, pos := _, after := _, guard := _ } (.bool true) rfl hS89 (fun w hSw => by kernel_rfl) ?_
         exact gd_to hK99 (by kernel_rfl) ⟨true, selfA_i (by kernel_rfl), (Option.some.inj hE96), hS89⟩
        ·refine gd1 23 { dst := some 40, op := _, type := _, pos := _, after := _, guard := _ } (.bool false) rfl hS89 (fun w hSw => run_boolE (ne_no h150) (by kernel_rfl)) ?_
         refine gd1 24 { dst := some 41, op := _, type := _, pos := _, after := _, guard := _ } (.bool false) rfl hS89 (fun w hSw => by kernel_rfl) ?_
         exact gd_to hK99 (by kernel_rfl) ⟨false, selfA_i (by kernel_rfl), (Option.some.inj hE96), hS89⟩
       | false =>
        try dsimp only at hE96
        refine gd1 11 { dst := some 28, op := _, type := _, pos := _, after := _, guard := _ } (.bool true) rfl hS89 (fun w hSw => by kernel_rfl) ?_
        refine gd1 12 { dst := some 29, op := _, type := _, pos := _, after := _, guard := _ } (.bool true) rfl hS89 (fun w hSw => by kernel_rfl) ?_
        refine gd0 13 { dst := some 30, op := _, type := _, pos := _, after := _, guard := _ } rfl hS89 ?_
        refine gd0 14 { dst := some 31, op := _, type := _, pos := _, after := _, guard := _ } rfl hS89 ?_
        refine gd0 15 { dst := some 32, op := _, type := _, pos := _, after := _, guard := _ } rfl hS89 ?_
        refine gd0 16 { dst := some 33, op := _, type := _, pos := _, after := _, guard := _ } rfl hS89 ?_
        refine gd0 17 { dst := some 34, op := _, type := _, pos := _, after := _, guard := _ } rfl hS89 ?_
        refine gd0 18 { dst := some 35, op := _, type := _, pos := _, after := _, guard := _ } rfl hS89 ?_
        refine gd0 19 { dst := some 36, op := _, type := _, pos := _, after := _, guard := _ } rfl hS89 ?_
        refine gd0 20 { dst := some 37, op := _, type := _, pos := _, after := _, guard := _ } rfl hS89 ?_
        refine gd0 21 { dst := some 38, op := _, type := _, pos := _, after := _, guard := _ } rfl hS89 ?_
        refine gd0 22 { dst := some 39, op := _, type := _, pos := _, after := _, guard := _ } rfl hS89 ?_
        refine gd0 23 { dst := some 40, op := _, type := _, pos := _, after := _, guard := _ } rfl hS89 ?_
        refine gd1 24 { dst := some 41, op := _, type := _, pos := _, after := _, guard := _ } (.bool true) rfl hS89 (fun w hSw => by kernel_rfl) ?_
        exact gd_to hK99 (by kernel_rfl) ⟨true, selfA_i (by kernel_rfl), (Option.some.inj hE96), hS89⟩
     ·refine gx_v (.bool false) w18 (run_boolE (decide_eq_false h28) (by kernel_rfl)) ?_
      refine gx_nil ?_
      refine gx_thenN ?_
      refine hK27 _ _ ?_
      refine gx_no (by kernel_rfl) ?_
      refine gx_exit ?_
      refine gx_thenE ?_
      refine gx_thenE ?_
      refine gx_blkE ?_
      refine gx_thenN ?_
      exact ⟨selfA_i (by kernel_rfl), (Option.some.inj hL23), hS19⟩
  ·rintro _ w10 ⟨hq269, rfl, hS11⟩
   obtain ⟨u12, rfl⟩ := selfA_u hq269
   try dsimp only at hO15
   refine gx_seq (fun K267 hK268 => ?_)
   refine gx_region ?_
   refine gx_k (.bool true) w10 ?_
   refine gx_nil ?_
   refine gx_thenN ?_
   refine hK268 _ _ ?_
   refine gx_ret ?_
   obtain rfl := Option.some.inj hO15
   exact gx_fin (.bool true) (by kernel_rfl) (by kernel_rfl) ⟨_, rfl, rfl, (hS11.pick [] rfl rfl)⟩

def kIso (N : Nat) : Option (Bool) :=
 ((pSeqs N ([1, 21, 2, 23, 1]) ([0, 0, 1, 0, 0]) (0 : Int)).bind fun (l11, x15) => (((if x15 = 0 then (if ((l11.length : Nat) : Int) = 2 then some (true) else some (false)) else some (false)) : Option (Bool)).bind fun b30 => (((match b30 with | true => ((ixg l11 (0 : Int)).bind fun x45 => ((kPlaces N x45.1 ([0, 1, 3, 4])).bind fun b74 => some (b74))) | false => some (false)) : Option (Bool)).bind fun b40 => (((match b40 with | true => ((ixg l11 (0 : Int)).bind fun x86 => (if x86.2.2.1 = 1 then some (true) else some (false))) | false => some (false)) : Option (Bool)).bind fun b81 => (((match b81 with | true => ((ixg l11 (0 : Int)).bind fun x120 => (if x120.2.2.2 = 1 then some (true) else some (false))) | false => some (false)) : Option (Bool)).bind fun b115 => (((match b115 with | true => ((ixg l11 (1 : Int)).bind fun x154 => (if x154.2.1 = 1 then some (true) else some (false))) | false => some (false)) : Option (Bool)).bind fun b149 => (match b149 with | true => ((ixg l11 (1 : Int)).bind fun x180 => some (decide (x180.2.2.1 = 2))) | false => some false)))))))

set_option linter.unusedVariables false in
def kIso_R (r : Bool) (w0 : World) (v : Value) (w : World) : Prop := v = .bool r ∧ St [] w0 w []

set_option maxRecDepth 100000 in
set_option maxHeartbeats 4000000 in
theorem kIso_ok (N : Nat)  (r : Bool) (hF : kIso N = some r) (w0 : World)  :
  Calls Try.prog 8 #[] w0 fun e w => ∃ v, e = .returned v ∧ kIso_R r w0 v w := by
 have hS0 := (St.start w0).pool0
 unfold kIso at hF
 refine calls_of Try.func8 rfl ⟨(un 52 ([])).toArray, []⟩ (by kernel_rfl) ?_
 refine gx_seq (fun K1 hK2 => ?_)
 refine gx_region ?_
 refine gx_k (.bool false) w0 ?_
 refine gx_nil ?_
 refine gx_thenN ?_
 refine hK2 _ _ ?_
 refine gx_seq (fun K3 hK4 => ?_)
 refine gx_region ?_
 refine gx_r (st_made .u8 34 [1, 21, 2, 23, 1] hS0 (by show 5 ≤ 1000000000; decide) (by kernel_rfl)) ?_
 rintro _ w5 ⟨rfl, hS6⟩
 have hS6 : St _ _ w5 [poolE ([]) w0, rowE .u8 34 (some ⟨w0.heap.size, 0, none⟩) 5 ([1, 21, 2, 23, 1])] := hS6
 refine gx_r (st_made .u8 5 [0, 0, 1, 0, 0] hS6 (by show 5 ≤ 1000000000; decide) (by kernel_rfl)) ?_
 rintro _ w7 ⟨rfl, hS8⟩
 have hS8 : St _ _ w7 [poolE ([]) w0, rowE .u8 34 (some ⟨w0.heap.size, 0, none⟩) 5 ([1, 21, 2, 23, 1]), rowE .u8 5 (some ⟨w5.heap.size, 0, none⟩) 5 ([0, 0, 1, 0, 0])] := hS8
 have hP9 : St _ _ w7 ([] ++ [poolE ([]) w0, rowE .u8 34 (some ⟨w0.heap.size, 0, none⟩) 5 ([1, 21, 2, 23, 1]), rowE .u8 5 (some ⟨w5.heap.size, 0, none⟩) 5 ([0, 0, 1, 0, 0])]) := hS8
 obtain ⟨⟨l11, x15⟩, hc10, hF⟩ := bind_in hF
 try dsimp only at hF
 refine gx_c (pSeqs_R (l11, x15) w7) (pSeqs_ok N ([1, 21, 2, 23, 1]) ([0, 0, 1, 0, 0]) (0 : Int) (some ⟨w0.heap.size, 0, none⟩) 5 (some ⟨w5.heap.size, 0, none⟩) 5 _ hc10 w7 (hP9.vwB 1 rfl) (hP9.vwB 2 rfl)) ?_
 rintro _ w16 ⟨A12, c13, ads14, rfl, hT18⟩
 have hS17 : St _ _ w16 [poolE ([]) w0, rowE .u8 34 (some ⟨w0.heap.size, 0, none⟩) 5 ([1, 21, 2, 23, 1]), rowE .u8 5 (some ⟨w5.heap.size, 0, none⟩) 5 ([0, 0, 1, 0, 0]), rowO oembedSeq 36 A12 l11.length c13 ads14 l11] := hS8.take _ hT18
 obtain ⟨ft19, W20, hS21, hT22, hf23, hn24⟩ := hS17.freezeO 3 0 rfl rfl (by decide)
 have hS21 : St _ _ w16 [poolE ft19 W20, rowE .u8 34 (some ⟨w0.heap.size, 0, none⟩) 5 ([1, 21, 2, 23, 1]), rowE .u8 5 (some ⟨w5.heap.size, 0, none⟩) 5 ([0, 0, 1, 0, 0]), rowG 36 4 (.slice A12 l11.length c13) l11.length (cellsB oembedSeq ads14 l11)] := hS21
 have hT22 : Turn [] w0 w0 ([]) W20 ft19 := hT22
 have hf23 : (fEach encembedSeq (cellsB oembedSeq ads14 l11) l11).rd W20 ft19 := hf23
 refine gx_k (.tuple #[.slice A12 l11.length c13, .int .i64 x15]) w16 (gx_k (.slice A12 l11.length c13) w16 (gx_k (.int .i64 x15) w16 (gx_k (.slice A12 l11.length c13) w16 (gx_k (.int .i64 x15) w16 ?_))))
 refine gx_nil ?_
 refine gx_thenN ?_
 refine hK4 _ _ ?_
 refine gx_seq (fun K25 hK26 => ?_)
 refine gx_region ?_
 refine gx_k (.int .i64 x15) w16 ?_
 obtain ⟨c31, hE32, hO33⟩ := bind_in hF
 refine gx_part (l1 := [_, _, _, _, _, _]) (fun a w => ∃ (b30 : Bool), selfA (fun u29 => ⟨((.bool false) :: (.slice A12 l11.length c13) :: (.int .i64 x15) :: dd u29 3 5 ((.int .i64 x15) :: (.int .i64 x15) :: dd u29 10 5 ((.bool b30) :: un 36 ([])))).toArray, []⟩) a ∧ b30 = c31 ∧ St [] w0 w [poolE ft19 W20, rowG 36 4 (.slice A12 l11.length c13) l11.length (cellsB oembedSeq ads14 l11)]) rfl ?_ ?_
 ·rcases if_in hE32 with ⟨h35, hE32⟩ | ⟨h35, hE32⟩
  ·refine gx_v (.bool true) w16 (run_boolE (decide_eq_true h35) (by kernel_rfl)) ?_
   refine gx_k (.bool true) w16 (gx_k (.slice A12 l11.length c13) w16 (gx_k (.int .i64 ((l11.length : Nat) : Int)) w16 ?_))
   rcases if_in hE32 with ⟨h36, hE32⟩ | ⟨h36, hE32⟩
   ·refine gx_v (.bool true) w16 (run_boolE (decide_eq_true h36) (by kernel_rfl)) ?_
    refine gx_k (.bool true) w16 ?_
    refine gx_nil ?_
    refine gx_thenN ?_
    exact ⟨true, selfA_i (by kernel_rfl), (Option.some.inj hE32), (hS21.pick [0, 3] rfl rfl)⟩
   ·refine gx_v (.bool false) w16 (run_boolE (decide_eq_false h36) (by kernel_rfl)) ?_
    refine gx_k (.bool false) w16 ?_
    refine gx_nil ?_
    refine gx_thenN ?_
    exact ⟨false, selfA_i (by kernel_rfl), (Option.some.inj hE32), (hS21.pick [0, 3] rfl rfl)⟩
  ·refine gx_v (.bool false) w16 (run_boolE (decide_eq_false h35) (by kernel_rfl)) ?_
   refine gx_k (.bool false) w16 (gx_o (gx_o (gx_o (gx_k (.bool false) w16 ?_))))
   refine gx_nil ?_
   refine gx_thenN ?_
   exact ⟨false, selfA_i (by kernel_rfl), (Option.some.inj hE32), (hS21.pick [0, 3] rfl rfl)⟩
 ·rintro _ w27 ⟨b30, hq34, rfl, hS28⟩
  obtain ⟨u29, rfl⟩ := selfA_u hq34
  try dsimp only at hO33
  obtain ⟨c41, hE42, hO43⟩ := bind_in hO33
  refine gx_part (l1 := [_, _, _, _, _, _, _, _]) (fun a w => ∃ (b40 : Bool), selfA (fun u39 => ⟨((.bool false) :: (.slice A12 l11.length c13) :: (.int .i64 x15) :: dd u29 3 5 ((.int .i64 x15) :: (.int .i64 x15) :: dd u29 10 5 ((.bool b30) :: dd u39 16 7 ((.bool b40) :: un 28 ([]))))).toArray, []⟩) a ∧ b40 = c41 ∧ St [] w0 w [poolE ft19 W20, rowG 36 4 (.slice A12 l11.length c13) l11.length (cellsB oembedSeq ads14 l11)]) rfl ?_ ?_
  ·refine gx_k (.bool b30) w27 ?_
   cases b30 with
   | true =>
    try dsimp only at hE42
    refine gx_k (.slice A12 l11.length c13) w27 ?_
    obtain ⟨x45, hx46, hE42⟩ := bind_in hE42
    obtain ⟨g47, o48, e49, hA50, he51, h52, ha53⟩ := elem_at (e := encembedSeq) (rowG_lies (e := encembedSeq) hn24 (hS28.get 1 rfl)) hf23 hx46 (by decide)
    obtain ⟨e54, e55, rfl, h56, h57⟩ := h52
    obtain ⟨A58, c59, vs60, rfl, hf61⟩ := h56
    obtain ⟨e62, e63, rfl, h64, h65⟩ := h57
    obtain rfl := h64
    obtain ⟨e66, e67, rfl, h68, h69⟩ := h65
    obtain rfl := h68
    obtain rfl := h69
    have ha53 : ∀ w', Lies w' A12 (cellsB oembedSeq ads14 l11) → w'.rangeAt g47 o48 [.slice A58 ((x45.1).length) c59, .int .u8 x45.2.1, .int .u8 x45.2.2.1, .int .u8 x45.2.2.2] := ha53
    refine gx_v (.pointer (some ⟨g47, o48, none⟩)) w27 (run_ixaddrN (E := 36) (s := 4) (k := .i64) (c := c13) rfl (by kernel_rfl) (by kernel_rfl) (by kernel_rfl) (fun _ => by kernel_rfl) (ixg_in hx46).1 (lt_len hn24 (ixg_in hx46).2.1) hA50) ?_
    refine gx_k (.pointer (some ⟨g47, o48, none⟩)) w27 ?_
    refine gx_v (.slice A58 ((x45.1).length) c59) w27 (run_loadN1 0 rfl (by kernel_rfl) (fun _ => by kernel_rfl) (ha53 _ (rowG_lies (e := encembedSeq) hn24 (hS28.get 1 rfl))) rfl) ?_
    refine gx_r (st_made .i64 3 [0, 1, 3, 4] hS28 (by show 4 ≤ 1000000000; decide) (by kernel_rfl)) ?_
    rintro _ w70 ⟨rfl, hS71⟩
    have hS71 : St _ _ w70 [poolE ft19 W20, rowG 36 4 (.slice A12 l11.length c13) l11.length (cellsB oembedSeq ads14 l11), rowE .i64 3 (some ⟨w27.heap.size, 0, none⟩) 4 ([0, 1, 3, 4])] := hS71
    have hP72 : St _ _ w70 ([] ++ [poolE ft19 W20, rowG 36 4 (.slice A12 l11.length c13) l11.length (cellsB oembedSeq ads14 l11), rowE .i64 3 (some ⟨w27.heap.size, 0, none⟩) 4 ([0, 1, 3, 4])]) := hS71
    obtain ⟨b74, hc73, hE42⟩ := bind_in hE42
    try dsimp only at hE42
    refine gx_c (kPlaces_R b74 w70) (kPlaces_ok N x45.1 ([0, 1, 3, 4]) A58 c59 (some ⟨w27.heap.size, 0, none⟩) 4 _ hc73 w70 (St.vwF (hP72.offPA 0 rfl) (hS71.now 0 rfl hf61)) (hP72.vwB 2 rfl)) ?_
    rintro _ w75 ⟨rfl, hT77⟩
    have hS76 : St _ _ w75 [poolE ft19 W20, rowG 36 4 (.slice A12 l11.length c13) l11.length (cellsB oembedSeq ads14 l11), rowE .i64 3 (some ⟨w27.heap.size, 0, none⟩) 4 ([0, 1, 3, 4])] := hS71.take _ hT77
    refine gx_k (.bool b74) w75 ?_
    refine gx_nil ?_
    refine gx_thenN ?_
    exact ⟨b74, selfA_i (by kernel_rfl), (Option.some.inj hE42), (hS76.pick [0, 1] rfl rfl)⟩
   | false =>
    try dsimp only at hE42
    refine gx_o (gx_o (gx_o (gx_o (gx_o (gx_o (gx_k (.bool false) w27 ?_))))))
    refine gx_nil ?_
    refine gx_thenN ?_
    exact ⟨false, selfA_i (by kernel_rfl), (Option.some.inj hE42), hS28⟩
  ·rintro _ w37 ⟨b40, hq44, rfl, hS38⟩
   obtain ⟨u39, rfl⟩ := selfA_u hq44
   try dsimp only at hO43
   obtain ⟨c82, hE83, hO84⟩ := bind_in hO43
   refine gx_part (l1 := [_, _, _, _, _, _, _]) (fun a w => ∃ (b81 : Bool), selfA (fun u80 => ⟨((.bool false) :: (.slice A12 l11.length c13) :: (.int .i64 x15) :: dd u29 3 5 ((.int .i64 x15) :: (.int .i64 x15) :: dd u29 10 5 ((.bool b30) :: dd u39 16 7 ((.bool b40) :: dd u80 24 6 ((.bool b81) :: un 21 ([])))))).toArray, []⟩) a ∧ b81 = c82 ∧ St [] w0 w [poolE ft19 W20, rowG 36 4 (.slice A12 l11.length c13) l11.length (cellsB oembedSeq ads14 l11)]) rfl ?_ ?_
   ·refine gx_k (.bool b40) w37 ?_
    cases b40 with
    | true =>
     try dsimp only at hE83
     refine gx_k (.slice A12 l11.length c13) w37 ?_
     obtain ⟨x86, hx87, hE83⟩ := bind_in hE83
     obtain ⟨g88, o89, e90, hA91, he92, h93, ha94⟩ := elem_at (e := encembedSeq) (rowG_lies (e := encembedSeq) hn24 (hS38.get 1 rfl)) hf23 hx87 (by decide)
     obtain ⟨e95, e96, rfl, h97, h98⟩ := h93
     obtain ⟨A99, c100, vs101, rfl, hf102⟩ := h97
     obtain ⟨e103, e104, rfl, h105, h106⟩ := h98
     obtain rfl := h105
     obtain ⟨e107, e108, rfl, h109, h110⟩ := h106
     obtain rfl := h109
     obtain rfl := h110
     have ha94 : ∀ w', Lies w' A12 (cellsB oembedSeq ads14 l11) → w'.rangeAt g88 o89 [.slice A99 ((x86.1).length) c100, .int .u8 x86.2.1, .int .u8 x86.2.2.1, .int .u8 x86.2.2.2] := ha94
     refine gx_v (.pointer (some ⟨g88, o89, none⟩)) w37 (run_ixaddrN (E := 36) (s := 4) (k := .i64) (c := c13) rfl (by kernel_rfl) (by kernel_rfl) (by kernel_rfl) (fun _ => by kernel_rfl) (ixg_in hx87).1 (lt_len hn24 (ixg_in hx87).2.1) hA91) ?_
     refine gx_k (.pointer (some ⟨g88, o89 + 2, none⟩)) w37 ?_
     refine gx_v (.int .u8 x86.2.2.1) w37 (run_loadN1 2 rfl (by kernel_rfl) (fun _ => by kernel_rfl) (ha94 _ (rowG_lies (e := encembedSeq) hn24 (hS38.get 1 rfl))) rfl) ?_
     rcases if_in hE83 with ⟨h111, hE83⟩ | ⟨h111, hE83⟩
     ·refine gx_v (.bool true) w37 (run_boolE (decide_eq_true h111) (by kernel_rfl)) ?_
      refine gx_k (.bool true) w37 ?_
      refine gx_nil ?_
      refine gx_thenN ?_
      exact ⟨true, selfA_i (by kernel_rfl), (Option.some.inj hE83), hS38⟩
     ·refine gx_v (.bool false) w37 (run_boolE (decide_eq_false h111) (by kernel_rfl)) ?_
      refine gx_k (.bool false) w37 ?_
      refine gx_nil ?_
      refine gx_thenN ?_
      exact ⟨false, selfA_i (by kernel_rfl), (Option.some.inj hE83), hS38⟩
    | false =>
     try dsimp only at hE83
     refine gx_o (gx_o (gx_o (gx_o (gx_o (gx_k (.bool false) w37 ?_)))))
     refine gx_nil ?_
     refine gx_thenN ?_
     exact ⟨false, selfA_i (by kernel_rfl), (Option.some.inj hE83), hS38⟩
   ·rintro _ w78 ⟨b81, hq85, rfl, hS79⟩
    obtain ⟨u80, rfl⟩ := selfA_u hq85
    try dsimp only at hO84
    obtain ⟨c116, hE117, hO118⟩ := bind_in hO84
    refine gx_part (l1 := [_, _, _, _, _, _, _]) (fun a w => ∃ (b115 : Bool), selfA (fun u114 => ⟨((.bool false) :: (.slice A12 l11.length c13) :: (.int .i64 x15) :: dd u29 3 5 ((.int .i64 x15) :: (.int .i64 x15) :: dd u29 10 5 ((.bool b30) :: dd u39 16 7 ((.bool b40) :: dd u80 24 6 ((.bool b81) :: dd u114 31 6 ((.bool b115) :: un 14 ([]))))))).toArray, []⟩) a ∧ b115 = c116 ∧ St [] w0 w [poolE ft19 W20, rowG 36 4 (.slice A12 l11.length c13) l11.length (cellsB oembedSeq ads14 l11)]) rfl ?_ ?_
    ·refine gx_k (.bool b81) w78 ?_
     cases b81 with
     | true =>
      try dsimp only at hE117
      refine gx_k (.slice A12 l11.length c13) w78 ?_
      obtain ⟨x120, hx121, hE117⟩ := bind_in hE117
      obtain ⟨g122, o123, e124, hA125, he126, h127, ha128⟩ := elem_at (e := encembedSeq) (rowG_lies (e := encembedSeq) hn24 (hS79.get 1 rfl)) hf23 hx121 (by decide)
      obtain ⟨e129, e130, rfl, h131, h132⟩ := h127
      obtain ⟨A133, c134, vs135, rfl, hf136⟩ := h131
      obtain ⟨e137, e138, rfl, h139, h140⟩ := h132
      obtain rfl := h139
      obtain ⟨e141, e142, rfl, h143, h144⟩ := h140
      obtain rfl := h143
      obtain rfl := h144
      have ha128 : ∀ w', Lies w' A12 (cellsB oembedSeq ads14 l11) → w'.rangeAt g122 o123 [.slice A133 ((x120.1).length) c134, .int .u8 x120.2.1, .int .u8 x120.2.2.1, .int .u8 x120.2.2.2] := ha128
      refine gx_v (.pointer (some ⟨g122, o123, none⟩)) w78 (run_ixaddrN (E := 36) (s := 4) (k := .i64) (c := c13) rfl (by kernel_rfl) (by kernel_rfl) (by kernel_rfl) (fun _ => by kernel_rfl) (ixg_in hx121).1 (lt_len hn24 (ixg_in hx121).2.1) hA125) ?_
      refine gx_k (.pointer (some ⟨g122, o123 + 3, none⟩)) w78 ?_
      refine gx_v (.int .u8 x120.2.2.2) w78 (run_loadN1 3 rfl (by kernel_rfl) (fun _ => by kernel_rfl) (ha128 _ (rowG_lies (e := encembedSeq) hn24 (hS79.get 1 rfl))) rfl) ?_
      rcases if_in hE117 with ⟨h145, hE117⟩ | ⟨h145, hE117⟩
      ·refine gx_v (.bool true) w78 (run_boolE (decide_eq_true h145) (by kernel_rfl)) ?_
       refine gx_k (.bool true) w78 ?_
       refine gx_nil ?_
       refine gx_thenN ?_
       exact ⟨true, selfA_i (by kernel_rfl), (Option.some.inj hE117), hS79⟩
      ·refine gx_v (.bool false) w78 (run_boolE (decide_eq_false h145) (by kernel_rfl)) ?_
       refine gx_k (.bool false) w78 ?_
       refine gx_nil ?_
       refine gx_thenN ?_
       exact ⟨false, selfA_i (by kernel_rfl), (Option.some.inj hE117), hS79⟩
     | false =>
      try dsimp only at hE117
      refine gx_o (gx_o (gx_o (gx_o (gx_o (gx_k (.bool false) w78 ?_)))))
      refine gx_nil ?_
      refine gx_thenN ?_
      exact ⟨false, selfA_i (by kernel_rfl), (Option.some.inj hE117), hS79⟩
    ·rintro _ w112 ⟨b115, hq119, rfl, hS113⟩
     obtain ⟨u114, rfl⟩ := selfA_u hq119
     try dsimp only at hO118
     obtain ⟨c150, hE151, hO152⟩ := bind_in hO118
     refine gx_part (l1 := [_, _, _, _, _, _, _]) (fun a w => ∃ (b149 : Bool), selfA (fun u148 => ⟨((.bool false) :: (.slice A12 l11.length c13) :: (.int .i64 x15) :: dd u29 3 5 ((.int .i64 x15) :: (.int .i64 x15) :: dd u29 10 5 ((.bool b30) :: dd u39 16 7 ((.bool b40) :: dd u80 24 6 ((.bool b81) :: dd u114 31 6 ((.bool b115) :: dd u148 38 6 ((.bool b149) :: un 7 ([])))))))).toArray, []⟩) a ∧ b149 = c150 ∧ St [] w0 w [poolE ft19 W20, rowG 36 4 (.slice A12 l11.length c13) l11.length (cellsB oembedSeq ads14 l11)]) rfl ?_ ?_
     ·refine gx_k (.bool b115) w112 ?_
      cases b115 with
      | true =>
       try dsimp only at hE151
       refine gx_k (.slice A12 l11.length c13) w112 ?_
       obtain ⟨x154, hx155, hE151⟩ := bind_in hE151
       obtain ⟨g156, o157, e158, hA159, he160, h161, ha162⟩ := elem_at (e := encembedSeq) (rowG_lies (e := encembedSeq) hn24 (hS113.get 1 rfl)) hf23 hx155 (by decide)
       obtain ⟨e163, e164, rfl, h165, h166⟩ := h161
       obtain ⟨A167, c168, vs169, rfl, hf170⟩ := h165
       obtain ⟨e171, e172, rfl, h173, h174⟩ := h166
       obtain rfl := h173
       obtain ⟨e175, e176, rfl, h177, h178⟩ := h174
       obtain rfl := h177
       obtain rfl := h178
       have ha162 : ∀ w', Lies w' A12 (cellsB oembedSeq ads14 l11) → w'.rangeAt g156 o157 [.slice A167 ((x154.1).length) c168, .int .u8 x154.2.1, .int .u8 x154.2.2.1, .int .u8 x154.2.2.2] := ha162
       refine gx_v (.pointer (some ⟨g156, o157, none⟩)) w112 (run_ixaddrN (E := 36) (s := 4) (k := .i64) (c := c13) rfl (by kernel_rfl) (by kernel_rfl) (by kernel_rfl) (fun _ => by kernel_rfl) (ixg_in hx155).1 (lt_len hn24 (ixg_in hx155).2.1) hA159) ?_
       refine gx_k (.pointer (some ⟨g156, o157 + 1, none⟩)) w112 ?_
       refine gx_v (.int .u8 x154.2.1) w112 (run_loadN1 1 rfl (by kernel_rfl) (fun _ => by kernel_rfl) (ha162 _ (rowG_lies (e := encembedSeq) hn24 (hS113.get 1 rfl))) rfl) ?_
       rcases if_in hE151 with ⟨h179, hE151⟩ | ⟨h179, hE151⟩
       ·refine gx_v (.bool true) w112 (run_boolE (decide_eq_true h179) (by kernel_rfl)) ?_
        refine gx_k (.bool true) w112 ?_
        refine gx_nil ?_
        refine gx_thenN ?_
        exact ⟨true, selfA_i (by kernel_rfl), (Option.some.inj hE151), hS113⟩
       ·refine gx_v (.bool false) w112 (run_boolE (decide_eq_false h179) (by kernel_rfl)) ?_
        refine gx_k (.bool false) w112 ?_
        refine gx_nil ?_
        refine gx_thenN ?_
        exact ⟨false, selfA_i (by kernel_rfl), (Option.some.inj hE151), hS113⟩
      | false =>
       try dsimp only at hE151
       refine gx_o (gx_o (gx_o (gx_o (gx_o (gx_k (.bool false) w112 ?_)))))
       refine gx_nil ?_
       refine gx_thenN ?_
       exact ⟨false, selfA_i (by kernel_rfl), (Option.some.inj hE151), hS113⟩
     ·rintro _ w146 ⟨b149, hq153, rfl, hS147⟩
      obtain ⟨u148, rfl⟩ := selfA_u hq153
      try dsimp only at hO152
      refine gx_k (.bool b149) w146 ?_
      cases b149 with
      | true =>
       try dsimp only at hO152
       refine gx_k (.slice A12 l11.length c13) w146 ?_
       obtain ⟨x180, hx181, hO152⟩ := bind_in hO152
       obtain ⟨g182, o183, e184, hA185, he186, h187, ha188⟩ := elem_at (e := encembedSeq) (rowG_lies (e := encembedSeq) hn24 (hS147.get 1 rfl)) hf23 hx181 (by decide)
       obtain ⟨e189, e190, rfl, h191, h192⟩ := h187
       obtain ⟨A193, c194, vs195, rfl, hf196⟩ := h191
       obtain ⟨e197, e198, rfl, h199, h200⟩ := h192
       obtain rfl := h199
       obtain ⟨e201, e202, rfl, h203, h204⟩ := h200
       obtain rfl := h203
       obtain rfl := h204
       have ha188 : ∀ w', Lies w' A12 (cellsB oembedSeq ads14 l11) → w'.rangeAt g182 o183 [.slice A193 ((x180.1).length) c194, .int .u8 x180.2.1, .int .u8 x180.2.2.1, .int .u8 x180.2.2.2] := ha188
       refine gx_v (.pointer (some ⟨g182, o183, none⟩)) w146 (run_ixaddrN (E := 36) (s := 4) (k := .i64) (c := c13) rfl (by kernel_rfl) (by kernel_rfl) (by kernel_rfl) (fun _ => by kernel_rfl) (ixg_in hx181).1 (lt_len hn24 (ixg_in hx181).2.1) hA185) ?_
       refine gx_k (.pointer (some ⟨g182, o183 + 2, none⟩)) w146 ?_
       refine gx_v (.int .u8 x180.2.2.1) w146 (run_loadN1 2 rfl (by kernel_rfl) (fun _ => by kernel_rfl) (ha188 _ (rowG_lies (e := encembedSeq) hn24 (hS147.get 1 rfl))) rfl) ?_
       refine gx_k (.bool (decide (x180.2.2.1 = 2))) w146 (gx_k (.bool (decide (x180.2.2.1 = 2))) w146 (gx_k (.bool (decide (x180.2.2.1 = 2))) w146 ?_))
       refine gx_nil ?_
       refine gx_thenN ?_
       refine hK26 _ _ ?_
       refine gx_ret ?_
       obtain rfl := Option.some.inj hO152
       exact gx_fin (.bool (decide (x180.2.2.1 = 2))) (by kernel_rfl) (by kernel_rfl) ⟨_, rfl, rfl, (hS147.pick [] rfl rfl)⟩
      | false =>
       try dsimp only at hO152
       refine gx_o (gx_o (gx_o (gx_o (gx_o (gx_k (.bool false) w146 (gx_k (.bool false) w146 ?_))))))
       refine gx_nil ?_
       refine gx_thenN ?_
       refine hK26 _ _ ?_
       refine gx_ret ?_
       obtain rfl := Option.some.inj hO152
       exact gx_fin (.bool false) (by kernel_rfl) (by kernel_rfl) ⟨_, rfl, rfl, (hS147.pick [] rfl rfl)⟩

end Go.Proofs.Ytjndolnjhbgflaa

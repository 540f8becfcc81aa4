/-
  EmbedSingle, walked.
-/
import Derived.Test.YtjndolnjhbgflaaF1
namespace Go.Proofs.Ytjndolnjhbgflaa
open Go Go.RowKit
set_option linter.unusedVariables false

def fSingle_L1 (N : Nat) (p0 : List Int) : Nat → (List Int) → Int → Option (List Int)
 | 0, _, _ => none
 | k50+1, l48, x49 => (if x49 < ((p0.length : Nat) : Int) then ((ix p0 x49).bind fun x61 => ((rRem N x61).bind fun b65 => (match b65 with | true => fSingle_L1 N p0 k50 l48 (IntKind.i64.wrap (x49 + 1)) | false => ((ix p0 x49).bind fun x69 => ((apx l48 ([x69])).bind fun l73 => fSingle_L1 N p0 k50 l73 (IntKind.i64.wrap (x49 + 1))))))) else some (l48))
def fSingle_L2 (N : Nat) (p1 : Int) (l83 : List Int) : Nat → (List Int) → Int → Option (List Int)
 | 0, _, _ => none
 | k105+1, l103, x104 => (if x104 < ((l83.length : Nat) : Int) then ((ix l103 x104).bind fun _x114 => ((setx l103 x104 p1).bind fun l118 => fSingle_L2 N p1 l83 k105 l118 (IntKind.i64.wrap (x104 + 1)))) else some (l103))
def fSingle_L3 (N : Nat) (l36 : List Int) (l125 : List (List Int × Int × Int × Int)) : Nat → Int → Option (Ctl (Unit) (Bool))
 | 0, _ => none
 | k325+1, x324 => (if x324 < ((l36.length : Nat) : Int) then ((ixg l125 (0 : Int)).bind fun x336 => ((ix x336.1 x324).bind fun x361 => (if x361 ≠ x324 then some (Ctl.ret false) else fSingle_L3 N l36 l125 k325 (IntKind.i64.wrap (x324 + 1))))) else some (Ctl.go ()))
def fSingle (N : Nat) (p0 : List Int) (p1 : Int) (p2 : Int) : Option (Bool) :=
 (((if ((p0.length : Nat) : Int) > 2000 then ((kIso N ).bind fun b16 => some (Ctl.ret b16)) else (if p1 < p2 then ((kIso N ).bind fun b25 => some (Ctl.ret b25)) else some (Ctl.go ()))) : Option (Ctl (Unit) (Bool))).bind fun | Ctl.go () => ((fSingle_L1 N p0 N ([]) 0 : Option (List Int)).bind fun l36 => ((mkx ((l36.length : Nat) : Int)).bind fun l83 => ((fSingle_L2 N p1 l83 N l83 0 : Option (List Int)).bind fun l93 => ((pSeqs N l36 l93 p2).bind fun (l125, x129) => (((if x129 ≠ 0 then some (true) else (if ((l36.length : Nat) : Int) = 0 then some (true) else some (false))) : Option (Bool)).bind fun b144 => (match b144 with | true => (if x129 = 0 then (if ((l125.length : Nat) : Int) = 0 then ((kIso N ).bind fun b156 => some b156) else some false) else some false) | false => (((if (Int.tmod p1 2) = 1 then some (2) else some (1)) : Option (Int)).bind fun x165 => (((((if ((l125.length : Nat) : Int) ≠ 1 then some (true) else ((ixg l125 (0 : Int)).bind fun x189 => (if (((x189.1).length : Nat) : Int) ≠ ((l36.length : Nat) : Int) then some (true) else some (false)))) : Option (Bool)).bind fun b183 => (((match b183 with | true => some (true) | false => ((ixg l125 (0 : Int)).bind fun x223 => (if x223.2.1 ≠ p1 then some (true) else some (false)))) : Option (Bool)).bind fun b218 => (((match b218 with | true => some (true) | false => ((ixg l125 (0 : Int)).bind fun x257 => (if x257.2.2.1 ≠ x165 then some (true) else some (false)))) : Option (Bool)).bind fun b252 => (match b252 with | true => some (Ctl.ret false) | false => ((ixg l125 (0 : Int)).bind fun x285 => (if x285.2.2.2 ≠ x165 then some (Ctl.ret false) else some (Ctl.go ()))))))) : Option (Ctl (Unit) (Bool))).bind fun | Ctl.go () => ((fSingle_L3 N l36 l125 N 0 : Option (Ctl (Unit) (Bool))).bind fun | Ctl.go () => ((kIso N ).bind fun b371 => some b371) | Ctl.ret r => some r) | Ctl.ret r => some r)))))))) | Ctl.ret r => some r)

set_option linter.unusedVariables false in
def fSingle_R (r : Bool) (w0 : World) (v : Value) (w : World) : Prop := v = .bool r ∧ St [] w0 w []

set_option maxRecDepth 100000 in
set_option maxHeartbeats 4000000 in
theorem fSingle_ok (N : Nat) (p0 : List Int) (p1 : Int) (p2 : Int) (A0 : Option Addr) (c0 : Nat) (r : Bool) (hF : fSingle N p0 p1 p2 = some r) (w0 : World) (hv0 : Vw [] .u8 w0 A0 c0 p0) :
  Calls Try.prog 6 #[.slice A0 p0.length c0, .int .u8 p1, .int .u8 p2] w0 fun e w => ∃ v, e = .returned v ∧ fSingle_R r w0 v w := by
 have hS0 := (St.start w0).pool0
 unfold fSingle at hF
 refine calls_of Try.func6 rfl ⟨((.slice A0 p0.length c0) :: (.int .u8 p1) :: (.int .u8 p2) :: un 133 ([])).toArray, []⟩ (by kernel_rfl) ?_
 refine gx_seq (fun K1 hK2 => ?_)
 refine gx_region ?_
 refine gx_k (.bool false) w0 ?_
 refine gx_nil ?_
 refine gx_thenN ?_
 refine hK2 _ _ ?_
 obtain ⟨c6, hE7, hO8⟩ := bind_in hF
 refine gx_cut (fun a w => selfA (fun u5 => ⟨((.slice A0 p0.length c0) :: (.int .u8 p1) :: (.int .u8 p2) :: un 3 ((u5 6) :: un 8 (dd u5 15 9 (un 112 ([]))))).toArray, []⟩) a ∧ Ctl.go () = c6 ∧ St [] w0 w [poolE ([]) w0]) ?_ ?_
 ·refine gx_seq (fun K9 hK10 => ?_)
  refine gx_region ?_
  refine gx_k (.slice A0 p0.length c0) w0 (gx_k (.int .i64 ((p0.length : Nat) : Int)) w0 ?_)
  rcases if_in hE7 with ⟨h11, hE7⟩ | ⟨h11, hE7⟩
  ·refine gx_v (.bool true) w0 (run_boolE (decide_eq_true h11) (by kernel_rfl)) ?_
   refine gx_k (.bool true) w0 (gx_o (gx_o (gx_o (gx_k (.bool true) w0 ?_))))
   refine gx_nil ?_
   refine gx_thenN ?_
   refine hK10 _ _ ?_
   refine gx_yes (by kernel_rfl) ?_
   refine gx_seq (fun K12 hK13 => ?_)
   refine gx_region ?_
   have hP14 : St _ _ w0 ([] ++ [poolE ([]) w0]) := hS0
   obtain ⟨b16, hc15, hE7⟩ := bind_in hE7
   try dsimp only at hE7
   refine gx_c (kIso_R b16 w0) (kIso_ok N  _ hc15 w0 ) ?_
   rintro _ w17 ⟨rfl, hT19⟩
   have hS18 : St _ _ w17 [poolE ([]) w0] := hS0.take _ hT19
   refine gx_k (.bool b16) w17 ?_
   refine gx_nil ?_
   refine gx_thenN ?_
   refine hK13 _ _ ?_
   refine gx_ret ?_
   refine gx_thenR ?_
   obtain rfl := Option.some.inj hE7
   try dsimp only at hO8
   obtain rfl := Option.some.inj hO8
   exact gx_fin (.bool b16) (by kernel_rfl) (by kernel_rfl) ⟨_, rfl, rfl, (hS18.pick [] rfl rfl)⟩
  ·refine gx_v (.bool false) w0 (run_boolE (decide_eq_false h11) (by kernel_rfl)) ?_
   refine gx_k (.bool false) w0 (gx_k (.int .u8 p1) w0 (gx_k (.int .u8 p2) w0 ?_))
   rcases if_in hE7 with ⟨h20, hE7⟩ | ⟨h20, hE7⟩
   ·refine gx_v (.bool true) w0 (run_boolE (decide_eq_true h20) (by kernel_rfl)) ?_
    refine gx_k (.bool true) w0 ?_
    refine gx_nil ?_
    refine gx_thenN ?_
    refine hK10 _ _ ?_
    refine gx_yes (by kernel_rfl) ?_
    refine gx_seq (fun K21 hK22 => ?_)
    refine gx_region ?_
    have hP23 : St _ _ w0 ([] ++ [poolE ([]) w0]) := hS0
    obtain ⟨b25, hc24, hE7⟩ := bind_in hE7
    try dsimp only at hE7
    refine gx_c (kIso_R b25 w0) (kIso_ok N  _ hc24 w0 ) ?_
    rintro _ w26 ⟨rfl, hT28⟩
    have hS27 : St _ _ w26 [poolE ([]) w0] := hS0.take _ hT28
    refine gx_k (.bool b25) w26 ?_
    refine gx_nil ?_
    refine gx_thenN ?_
    refine hK22 _ _ ?_
    refine gx_ret ?_
    refine gx_thenR ?_
    obtain rfl := Option.some.inj hE7
    try dsimp only at hO8
    obtain rfl := Option.some.inj hO8
    exact gx_fin (.bool b25) (by kernel_rfl) (by kernel_rfl) ⟨_, rfl, rfl, (hS27.pick [] rfl rfl)⟩
   ·refine gx_v (.bool false) w0 (run_boolE (decide_eq_false h20) (by kernel_rfl)) ?_
    refine gx_k (.bool false) w0 ?_
    refine gx_nil ?_
    refine gx_thenN ?_
    refine hK10 _ _ ?_
    refine gx_no (by kernel_rfl) ?_
    refine gx_pass ?_
    refine gx_thenN ?_
    exact ⟨selfA_i (by kernel_rfl), (Option.some.inj hE7), hS0⟩
 ·rintro _ w3 ⟨hq381, rfl, hS4⟩
  obtain ⟨u5, rfl⟩ := selfA_u hq381
  try dsimp only at hO8
  refine gx_seq (fun K29 hK30 => ?_)
  refine gx_region ?_
  refine gx_k (.slice none 0 0) w3 ?_
  refine gx_nil ?_
  refine gx_thenN ?_
  refine hK30 _ _ ?_
  obtain ⟨c37, hE38, hO39⟩ := bind_in hO8
  refine gx_cut (fun a w => ∃ (l36 : List Int) (A34 : Option Addr) (c35 : Nat), selfA (fun u33 => ⟨((u33 0) :: (.int .u8 p1) :: (.int .u8 p2) :: un 3 ((u5 6) :: (.slice A34 l36.length c35) :: (u33 8) :: un 6 (dd u5 15 9 (dd u33 24 19 (un 93 ([])))))).toArray, []⟩) a ∧ l36 = c37 ∧ St [] w0 w [poolE ([]) w0, rowE .u8 34 A34 c35 l36]) ?_ ?_
  ·refine gx_seq (fun K40 hK41 => ?_)
   refine gx_region ?_
   refine gx_k (.int .i64 0) w3 ?_
   refine gx_nil ?_
   refine gx_thenN ?_
   refine hK41 _ _ ?_
   refine gx_block ?_
   have hS42 : St _ _ w3 [poolE ([]) w0, rowE .u8 34 none 0 ([])] := hS4.nilrow .u8 34
   refine gx_loop (fun k a w => ∃ (l48 : List Int) (x49 : Int) (A46 : Option Addr) (c47 : Nat), selfA (fun u45 => ⟨((.slice A0 p0.length c0) :: (.int .u8 p1) :: (.int .u8 p2) :: un 3 ((u5 6) :: (.slice A46 l48.length c47) :: (.int .i64 x49) :: un 6 (dd u5 15 9 (dd u45 24 19 (un 93 ([])))))).toArray, []⟩) a ∧ fSingle_L1 N p0 k l48 x49 = some c37 ∧ St [] w0 w [poolE ([]) w0, rowE .u8 34 A46 c47 l48]) N ?_ ?_
   ·exact ⟨([]), 0, none, 0, selfA_i (by kernel_rfl), hE38, hS42⟩
   ·rintro k50 _ w43 ⟨l48, x49, A46, c47, hq80, hL51, hS44⟩
    obtain ⟨u45, rfl⟩ := selfA_u hq80
    cases k50 with
    | zero => cases hL51
    | succ k50 =>
     first | rw [fSingle_L1] at hL51 | unfold fSingle_L1 at hL51
     refine gx_seq (fun K52 hK53 => ?_)
     refine gx_seq (fun K54 hK55 => ?_)
     refine gx_region ?_
     refine gx_k (.int .i64 x49) w43 (gx_k (.slice A0 p0.length c0) w43 (gx_k (.int .i64 ((p0.length : Nat) : Int)) w43 ?_))
     rcases if_in hL51 with ⟨h56, hL51⟩ | ⟨h56, hL51⟩
     ·refine gx_v (.bool true) w43 (run_boolE (decide_eq_true h56) (by kernel_rfl)) ?_
      refine gx_nil ?_
      refine gx_thenN ?_
      refine hK55 _ _ ?_
      refine gx_yes (by kernel_rfl) ?_
      refine gx_pass ?_
      refine gx_thenN ?_
      refine hK53 _ _ ?_
      refine gx_seq (fun K57 hK58 => ?_)
      refine gx_block ?_
      refine gx_seq (fun K59 hK60 => ?_)
      refine gx_region ?_
      refine gx_k (.slice A0 p0.length c0) w43 (gx_k (.int .i64 x49) w43 ?_)
      obtain ⟨x61, hx62, hL51⟩ := bind_in hL51
      refine gx_v (.pointer (Option.map (fun (p : Addr) => p.add (Int.toNat x49 * 1)) A0)) w43 (run_ixaddr (E := 34) (s := 1) (k := .i64) (c := c0) rfl (by kernel_rfl) (by kernel_rfl) (by kernel_rfl) (fun _ => by kernel_rfl) (ix_in hx62).1 (ix_in hx62).2.1 (num_nil (hS44.view hv0))) ?_
      refine gx_v (.int .u8 x61) w43 (run_loadix rfl (by kernel_rfl) (fun _ => by kernel_rfl) (hS44.view hv0) hx62) ?_
      have hP63 : St _ _ w43 ([] ++ [poolE ([]) w0, rowE .u8 34 A46 c47 l48]) := hS44
      obtain ⟨b65, hc64, hL51⟩ := bind_in hL51
      try dsimp only at hL51
      refine gx_c (rRem_R b65 w43) (rRem_ok N x61 _ hc64 w43 ) ?_
      rintro _ w66 ⟨rfl, hT68⟩
      have hS67 : St _ _ w66 [poolE ([]) w0, rowE .u8 34 A46 c47 l48] := hS44.take _ hT68
      cases b65 with
      | true =>
       try dsimp only at hL51
       refine gx_k (.bool false) w66 ?_
       refine gx_nil ?_
       refine gx_thenN ?_
       refine hK60 _ _ ?_
       refine gx_no (by kernel_rfl) ?_
       refine gx_pass ?_
       refine gx_blkN ?_
       refine gx_thenN ?_
       refine hK58 _ _ ?_
       refine gx_region ?_
       refine gx_k (.int .i64 x49) w66 (gx_k (.int .i64 (IntKind.i64.wrap (x49 + 1))) w66 (gx_k (.int .i64 (IntKind.i64.wrap (x49 + 1))) w66 ?_))
       refine gx_nil ?_
       refine gx_thenN ?_
       exact ⟨k50, Nat.lt_succ_self k50, l48, (IntKind.i64.wrap (x49 + 1)), A46, c47, selfA_i (by kernel_rfl), hL51, hS67⟩
      | false =>
       try dsimp only at hL51
       refine gx_k (.bool true) w66 ?_
       refine gx_nil ?_
       refine gx_thenN ?_
       refine hK60 _ _ ?_
       refine gx_yes (by kernel_rfl) ?_
       refine gx_region ?_
       refine gx_k (.slice A46 l48.length c47) w66 (gx_k (.slice A0 p0.length c0) w66 (gx_k (.int .i64 x49) w66 ?_))
       obtain ⟨x69, hx70, hL51⟩ := bind_in hL51
       refine gx_v (.pointer (Option.map (fun (p : Addr) => p.add (Int.toNat x49 * 1)) A0)) w66 (run_ixaddr (E := 34) (s := 1) (k := .i64) (c := c0) rfl (by kernel_rfl) (by kernel_rfl) (by kernel_rfl) (fun _ => by kernel_rfl) (ix_in hx70).1 (ix_in hx70).2.1 (num_nil (hS67.view hv0))) ?_
       refine gx_v (.int .u8 x69) w66 (run_loadix rfl (by kernel_rfl) (fun _ => by kernel_rfl) (hS67.view hv0) hx70) ?_
       refine gx_r (st_made .u8 34 [x69] hS67 (by show 1 ≤ 1000000000; decide) (by kernel_rfl)) ?_
       rintro _ w71 ⟨rfl, hS72⟩
       have hS72 : St _ _ w71 [poolE ([]) w0, rowE .u8 34 A46 c47 l48, rowE .u8 34 (some ⟨w66.heap.size, 0, none⟩) 1 ([x69])] := hS72
       obtain ⟨l73, ha74, hL51⟩ := bind_in hL51
       obtain ⟨ha74, hq75⟩ := apx_in ha74
       refine gx_r (st_append rfl (by kernel_rfl) (by kernel_rfl) hS72 1 rfl (hS72.row 2 rfl).1 (hS72.row 2 rfl).2 ha74 (by kernel_rfl) (by kernel_rfl)) ?_
       rintro _ w78 ⟨A76, c77, rfl, hS79⟩
       rw [← hq75] at hS79 ⊢
       have hS79 : St _ _ w78 [poolE ([]) w0, rowE .u8 34 A76 c77 l73, rowE .u8 34 (some ⟨w66.heap.size, 0, none⟩) 1 ([x69])] := hS79
       refine gx_k (.slice A76 l73.length c77) w78 ?_
       refine gx_nil ?_
       refine gx_blkN ?_
       refine gx_thenN ?_
       refine hK58 _ _ ?_
       refine gx_region ?_
       refine gx_k (.int .i64 x49) w78 (gx_k (.int .i64 (IntKind.i64.wrap (x49 + 1))) w78 (gx_k (.int .i64 (IntKind.i64.wrap (x49 + 1))) w78 ?_))
       refine gx_nil ?_
       refine gx_thenN ?_
       exact ⟨k50, Nat.lt_succ_self k50, l73, (IntKind.i64.wrap (x49 + 1)), A76, c77, selfA_i (by kernel_rfl), hL51, (hS79.pick [0, 1] rfl rfl)⟩
     ·refine gx_v (.bool false) w43 (run_boolE (decide_eq_false h56) (by kernel_rfl)) ?_
      refine gx_nil ?_
      refine gx_thenN ?_
      refine hK55 _ _ ?_
      refine gx_no (by kernel_rfl) ?_
      refine gx_exit ?_
      refine gx_thenE ?_
      refine gx_thenE ?_
      refine gx_blkE ?_
      refine gx_thenN ?_
      exact ⟨l48, A46, c47, selfA_i (by kernel_rfl), (Option.some.inj hL51), hS44⟩
  ·rintro _ w31 ⟨l36, A34, c35, hq380, rfl, hS32⟩
   obtain ⟨u33, rfl⟩ := selfA_u hq380
   try dsimp only at hO39
   refine gx_seq (fun K81 hK82 => ?_)
   refine gx_region ?_
   refine gx_k (.slice A34 l36.length c35) w31 (gx_k (.int .i64 ((l36.length : Nat) : Int)) w31 ?_)
   obtain ⟨l83, hm84, hO39⟩ := bind_in hO39
   refine gx_r (st_make (T := 5) (k := .u8) (by_ := 1) rfl (by kernel_rfl) (by kernel_rfl) (by kernel_rfl) (by kernel_rfl) (by kernel_rfl) hS32 hm84) ?_
   rintro _ w85 ⟨A87, c88, rfl, hS86⟩
   have hS86 : St _ _ w85 [poolE ([]) w0, rowE .u8 34 A34 c35 l36, rowE .u8 5 A87 c88 l83] := hS86
   refine gx_k (.slice A87 l83.length c88) w85 ?_
   refine gx_nil ?_
   refine gx_thenN ?_
   refine hK82 _ _ ?_
   obtain ⟨c94, hE95, hO96⟩ := bind_in hO39
   refine gx_cut (fun a w => ∃ (l93 : List Int), selfA (fun u91 => ⟨((u33 0) :: (.int .u8 p1) :: (.int .u8 p2) :: un 3 ((u5 6) :: (.slice A34 l36.length c35) :: (u33 8) :: (.slice A87 l83.length c88) :: (u91 10) :: un 4 (dd u5 15 9 (dd u33 24 19 ((u91 43) :: (.int .i64 ((l36.length : Nat) : Int)) :: dd u91 45 11 (un 80 ([]))))))).toArray, []⟩) a ∧ l93 = c94 ∧ St [] w0 w [poolE ([]) w0, rowE .u8 34 A34 c35 l36, rowE .u8 5 A87 c88 l93] ∧ l83.length = l93.length) ?_ ?_
   ·refine gx_seq (fun K97 hK98 => ?_)
    refine gx_region ?_
    refine gx_k (.int .i64 0) w85 ?_
    refine gx_nil ?_
    refine gx_thenN ?_
    refine hK98 _ _ ?_
    refine gx_block ?_
    refine gx_loop (fun k a w => ∃ (l103 : List Int) (x104 : Int), selfA (fun u101 => ⟨((u33 0) :: (.int .u8 p1) :: (.int .u8 p2) :: un 3 ((u5 6) :: (.slice A34 l36.length c35) :: (u33 8) :: (.slice A87 l83.length c88) :: (.int .i64 x104) :: un 4 (dd u5 15 9 (dd u33 24 19 ((u101 43) :: (.int .i64 ((l36.length : Nat) : Int)) :: dd u101 45 11 (un 80 ([]))))))).toArray, []⟩) a ∧ fSingle_L2 N p1 l83 k l103 x104 = some c94 ∧ St [] w0 w [poolE ([]) w0, rowE .u8 34 A34 c35 l36, rowE .u8 5 A87 c88 l103] ∧ l83.length = l103.length) N ?_ ?_
    ·exact ⟨l83, 0, selfA_i (by kernel_rfl), hE95, hS86, rfl⟩
    ·rintro k105 _ w99 ⟨l103, x104, hq120, hL106, hS100, hn102⟩
     obtain ⟨u101, rfl⟩ := selfA_u hq120
     cases k105 with
     | zero => cases hL106
     | succ k105 =>
      first | rw [fSingle_L2] at hL106 | unfold fSingle_L2 at hL106
      refine gx_seq (fun K107 hK108 => ?_)
      refine gx_seq (fun K109 hK110 => ?_)
      refine gx_region ?_
      refine gx_k (.int .i64 x104) w99 (gx_k (.slice A87 l83.length c88) w99 (gx_k (.int .i64 ((l83.length : Nat) : Int)) w99 ?_))
      rcases if_in hL106 with ⟨h111, hL106⟩ | ⟨h111, hL106⟩
      ·refine gx_v (.bool true) w99 (run_boolE (decide_eq_true h111) (by kernel_rfl)) ?_
       refine gx_nil ?_
       refine gx_thenN ?_
       refine hK110 _ _ ?_
       refine gx_yes (by kernel_rfl) ?_
       refine gx_pass ?_
       refine gx_thenN ?_
       refine hK108 _ _ ?_
       refine gx_seq (fun K112 hK113 => ?_)
       refine gx_block ?_
       refine gx_region ?_
       refine gx_k (.slice A87 l83.length c88) w99 (gx_k (.int .i64 x104) w99 (gx_k (.int .u8 p1) w99 ?_))
       obtain ⟨x114, hx115, hL106⟩ := bind_in hL106
       refine gx_v (.pointer (Option.map (fun (p : Addr) => p.add (Int.toNat x104 * 1)) A87)) w99 (run_ixaddr (E := 5) (s := 1) (k := .i64) (c := c88) rfl (by kernel_rfl) (by kernel_rfl) (by kernel_rfl) (fun _ => by kernel_rfl) (ix_in hx115).1 (lt_len hn102 (ix_in hx115).2.1) (nil_len hn102 (num_nil (hS100.row 2 rfl).1))) ?_
       obtain ⟨l118, hx119, hL106⟩ := bind_in hL106
       refine gx_s (st_storeix rfl (by kernel_rfl) (by kernel_rfl) (fun _ => by kernel_rfl) hS100 2 rfl hx119) ?_
       rintro w116 hS117
       have hS117 : St _ _ w116 [poolE ([]) w0, rowE .u8 34 A34 c35 l36, rowE .u8 5 A87 c88 l118] := hS117
       refine gx_nil ?_
       refine gx_blkN ?_
       refine gx_thenN ?_
       refine hK113 _ _ ?_
       refine gx_region ?_
       refine gx_k (.int .i64 x104) w116 (gx_k (.int .i64 (IntKind.i64.wrap (x104 + 1))) w116 (gx_k (.int .i64 (IntKind.i64.wrap (x104 + 1))) w116 ?_))
       refine gx_nil ?_
       refine gx_thenN ?_
       exact ⟨k105, Nat.lt_succ_self k105, l118, (IntKind.i64.wrap (x104 + 1)), selfA_i (by kernel_rfl), hL106, hS117, (hn102.trans (setx_len hx119).symm)⟩
      ·refine gx_v (.bool false) w99 (run_boolE (decide_eq_false h111) (by kernel_rfl)) ?_
       refine gx_nil ?_
       refine gx_thenN ?_
       refine hK110 _ _ ?_
       refine gx_no (by kernel_rfl) ?_
       refine gx_exit ?_
       refine gx_thenE ?_
       refine gx_thenE ?_
       refine gx_blkE ?_
       refine gx_thenN ?_
       exact ⟨l103, selfA_i (by kernel_rfl), (Option.some.inj hL106), hS100, hn102⟩
   ·rintro _ w89 ⟨l93, hq379, rfl, hS90, hn92⟩
    obtain ⟨u91, rfl⟩ := selfA_u hq379
    try dsimp only at hO96
    refine gx_seq (fun K121 hK122 => ?_)
    refine gx_region ?_
    refine gx_k (.slice A34 l36.length c35) w89 (gx_k (.slice A87 l83.length c88) w89 (gx_k (.int .u8 p2) w89 ?_))
    have hP123 : St _ _ w89 ([] ++ [poolE ([]) w0, rowE .u8 34 A34 c35 l36, rowE .u8 5 A87 c88 l93]) := hS90
    obtain ⟨⟨l125, x129⟩, hc124, hO96⟩ := bind_in hO96
    try dsimp only at hO96
    refine gx_call (pSeqs_R (l125, x129) w89) (by kernel_rfl) (by rw [← hn92] <;> kernel_rfl) (pSeqs_ok N l36 l93 p2 A34 c35 A87 c88 _ hc124 w89 (hP123.vwB 1 rfl) (hP123.vwB 2 rfl)) ?_
    rintro _ w130 ⟨A126, c127, ads128, rfl, hT132⟩
    have hS131 : St _ _ w130 [poolE ([]) w0, rowE .u8 34 A34 c35 l36, rowE .u8 5 A87 c88 l93, rowO oembedSeq 36 A126 l125.length c127 ads128 l125] := hS90.take _ hT132
    obtain ⟨ft133, W134, hS135, hT136, hf137, hn138⟩ := hS131.freezeO 3 0 rfl rfl (by decide)
    have hS135 : St _ _ w130 [poolE ft133 W134, rowE .u8 34 A34 c35 l36, rowE .u8 5 A87 c88 l93, rowG 36 4 (.slice A126 l125.length c127) l125.length (cellsB oembedSeq ads128 l125)] := hS135
    have hT136 : Turn [] w0 w0 ([]) W134 ft133 := hT136
    have hf137 : (fEach encembedSeq (cellsB oembedSeq ads128 l125) l125).rd W134 ft133 := hf137
    refine gx_k (.tuple #[.slice A126 l125.length c127, .int .i64 x129]) w130 (gx_k (.slice A126 l125.length c127) w130 (gx_k (.int .i64 x129) w130 (gx_k (.slice A126 l125.length c127) w130 (gx_k (.int .i64 x129) w130 ?_))))
    refine gx_nil ?_
    refine gx_thenN ?_
    refine hK122 _ _ ?_
    refine gx_seq (fun K139 hK140 => ?_)
    obtain ⟨c145, hE146, hO147⟩ := bind_in hO96
    refine gx_cut (fun a w => ∃ (b144 : Bool), selfA (fun u143 => ⟨((u33 0) :: (.int .u8 p1) :: (.int .u8 p2) :: un 3 ((u5 6) :: (.slice A34 l36.length c35) :: (u33 8) :: (u143 9) :: (u91 10) :: (.slice A126 l125.length c127) :: (.int .i64 x129) :: undef :: undef :: dd u5 15 9 (dd u33 24 19 ((u91 43) :: (.int .i64 ((l36.length : Nat) : Int)) :: dd u91 45 11 (dd u143 56 3 ((.int .u8 p2) :: dd u143 60 2 ((.int .i64 x129) :: dd u143 63 6 ((.bool b144) :: un 66 ([]))))))))).toArray, []⟩) a ∧ b144 = c145 ∧ St [] w0 w [poolE ft133 W134, rowE .u8 34 A34 c35 l36, rowG 36 4 (.slice A126 l125.length c127) l125.length (cellsB oembedSeq ads128 l125)]) ?_ ?_
    ·refine gx_region ?_
     refine gx_k (.int .i64 x129) w130 ?_
     rcases if_in hE146 with ⟨h148, hE146⟩ | ⟨h148, hE146⟩
     ·refine gx_v (.bool true) w130 (run_boolE (ne_yes h148) (by kernel_rfl)) ?_
      refine gx_k (.bool true) w130 (gx_o (gx_o (gx_o (gx_k (.bool true) w130 ?_))))
      refine gx_nil ?_
      refine gx_thenN ?_
      exact ⟨true, selfA_i (by kernel_rfl), (Option.some.inj hE146), (hS135.pick [0, 1, 3] rfl rfl)⟩
     ·refine gx_v (.bool false) w130 (run_boolE (ne_no h148) (by kernel_rfl)) ?_
      refine gx_k (.bool false) w130 (gx_k (.slice A34 l36.length c35) w130 (gx_k (.int .i64 ((l36.length : Nat) : Int)) w130 ?_))
      rcases if_in hE146 with ⟨h149, hE146⟩ | ⟨h149, hE146⟩
      ·refine gx_v (.bool true) w130 (run_boolE (decide_eq_true h149) (by kernel_rfl)) ?_
       refine gx_k (.bool true) w130 ?_
       refine gx_nil ?_
       refine gx_thenN ?_
       exact ⟨true, selfA_i (by kernel_rfl), (Option.some.inj hE146), (hS135.pick [0, 1, 3] rfl rfl)⟩
      ·refine gx_v (.bool false) w130 (run_boolE (decide_eq_false h149) (by kernel_rfl)) ?_
       refine gx_k (.bool false) w130 ?_
       refine gx_nil ?_
       refine gx_thenN ?_
       exact ⟨false, selfA_i (by kernel_rfl), (Option.some.inj hE146), (hS135.pick [0, 1, 3] rfl rfl)⟩
    ·rintro _ w141 ⟨b144, hq378, rfl, hS142⟩
     obtain ⟨u143, rfl⟩ := selfA_u hq378
     try dsimp only at hO147
     cases b144 with
     | true =>
      try dsimp only at hO147
      refine gx_yes (by kernel_rfl) ?_
      refine gx_seq (fun K150 hK151 => ?_)
      refine gx_region ?_
      refine gx_k (.int .i64 x129) w141 ?_
      rcases if_in hO147 with ⟨h152, hO147⟩ | ⟨h152, hO147⟩
      ·refine gx_v (.bool true) w141 (run_boolE (decide_eq_true h152) (by kernel_rfl)) ?_
       refine gx_k (.bool true) w141 (gx_k (.slice A126 l125.length c127) w141 (gx_k (.int .i64 ((l125.length : Nat) : Int)) w141 ?_))
       rcases if_in hO147 with ⟨h153, hO147⟩ | ⟨h153, hO147⟩
       ·refine gx_v (.bool true) w141 (run_boolE (decide_eq_true h153) (by kernel_rfl)) ?_
        refine gx_k (.bool true) w141 (gx_k (.bool true) w141 ?_)
        have hP154 : St _ _ w141 ([] ++ [poolE ft133 W134, rowE .u8 34 A34 c35 l36, rowG 36 4 (.slice A126 l125.length c127) l125.length (cellsB oembedSeq ads128 l125)]) := hS142
        obtain ⟨b156, hc155, hO147⟩ := bind_in hO147
        try dsimp only at hO147
        refine gx_c (kIso_R b156 w141) (kIso_ok N  _ hc155 w141 ) ?_
        rintro _ w157 ⟨rfl, hT159⟩
        have hS158 : St _ _ w157 [poolE ft133 W134, rowE .u8 34 A34 c35 l36, rowG 36 4 (.slice A126 l125.length c127) l125.length (cellsB oembedSeq ads128 l125)] := hS142.take _ hT159
        refine gx_k (.bool b156) w157 (gx_k (.bool b156) w157 ?_)
        refine gx_nil ?_
        refine gx_thenN ?_
        refine hK151 _ _ ?_
        refine gx_ret ?_
        refine gx_thenR ?_
        obtain rfl := Option.some.inj hO147
        exact gx_fin (.bool b156) (by kernel_rfl) (by kernel_rfl) ⟨_, rfl, rfl, (hS158.pick [] rfl rfl)⟩
       ·refine gx_v (.bool false) w141 (run_boolE (decide_eq_false h153) (by kernel_rfl)) ?_
        refine gx_k (.bool false) w141 (gx_k (.bool false) w141 (gx_o (gx_k (.bool false) w141 (gx_k (.bool false) w141 ?_))))
        refine gx_nil ?_
        refine gx_thenN ?_
        refine hK151 _ _ ?_
        refine gx_ret ?_
        refine gx_thenR ?_
        obtain rfl := Option.some.inj hO147
        exact gx_fin (.bool false) (by kernel_rfl) (by kernel_rfl) ⟨_, rfl, rfl, (hS142.pick [] rfl rfl)⟩
      ·refine gx_v (.bool false) w141 (run_boolE (decide_eq_false h152) (by kernel_rfl)) ?_
       refine gx_k (.bool false) w141 (gx_o (gx_o (gx_o (gx_k (.bool false) w141 (gx_k (.bool false) w141 (gx_o (gx_k (.bool false) w141 ?_)))))))
       refine gx_k (.bool false) w141 ?_
       refine gx_nil ?_
       refine gx_thenN ?_
       refine hK151 _ _ ?_
       refine gx_ret ?_
       refine gx_thenR ?_
       obtain rfl := Option.some.inj hO147
       exact gx_fin (.bool false) (by kernel_rfl) (by kernel_rfl) ⟨_, rfl, rfl, (hS142.pick [] rfl rfl)⟩
     | false =>
      try dsimp only at hO147
      refine gx_no (by kernel_rfl) ?_
      refine gx_pass ?_
      refine gx_thenN ?_
      refine hK140 _ _ ?_
      refine gx_seq (fun K160 hK161 => ?_)
      refine gx_region ?_
      refine gx_k (.int .u8 1) w141 ?_
      refine gx_nil ?_
      refine gx_thenN ?_
      refine hK161 _ _ ?_
      obtain ⟨c166, hE167, hO168⟩ := bind_in hO147
      refine gx_cut (fun a w => ∃ (x165 : Int), selfA (fun u164 => ⟨((u33 0) :: (.int .u8 p1) :: (.int .u8 p2) :: un 3 ((u5 6) :: (.slice A34 l36.length c35) :: (u33 8) :: (u143 9) :: (u91 10) :: (.slice A126 l125.length c127) :: (.int .i64 x129) :: (.int .u8 x165) :: undef :: dd u5 15 9 (dd u33 24 19 ((u91 43) :: (.int .i64 ((l36.length : Nat) : Int)) :: dd u91 45 11 (dd u143 56 3 ((.int .u8 p2) :: dd u143 60 2 ((.int .i64 x129) :: dd u143 63 6 ((.bool false) :: un 10 (dd u164 80 3 (un 53 ([]))))))))))).toArray, []⟩) a ∧ x165 = c166 ∧ St [] w0 w [poolE ft133 W134, rowE .u8 34 A34 c35 l36, rowG 36 4 (.slice A126 l125.length c127) l125.length (cellsB oembedSeq ads128 l125)]) ?_ ?_
      ·refine gx_seq (fun K169 hK170 => ?_)
       refine gx_region ?_
       refine gx_k (.int .u8 p1) w141 (gx_k (.int .u8 (Int.tmod p1 2)) w141 ?_)
       rcases if_in hE167 with ⟨h171, hE167⟩ | ⟨h171, hE167⟩
       ·refine gx_v (.bool true) w141 (run_boolE (decide_eq_true h171) (by kernel_rfl)) ?_
        refine gx_nil ?_
        refine gx_thenN ?_
        refine hK170 _ _ ?_
        refine gx_yes (by kernel_rfl) ?_
        refine gx_region ?_
        refine gx_k (.int .u8 2) w141 ?_
        refine gx_nil ?_
        refine gx_thenN ?_
        exact ⟨2, selfA_i (by kernel_rfl), (Option.some.inj hE167), hS142⟩
       ·refine gx_v (.bool false) w141 (run_boolE (decide_eq_false h171) (by kernel_rfl)) ?_
        refine gx_nil ?_
        refine gx_thenN ?_
        refine hK170 _ _ ?_
        refine gx_no (by kernel_rfl) ?_
        refine gx_pass ?_
        refine gx_thenN ?_
        exact ⟨1, selfA_i (by kernel_rfl), (Option.some.inj hE167), hS142⟩
      ·rintro _ w162 ⟨x165, hq377, rfl, hS163⟩
       obtain ⟨u164, rfl⟩ := selfA_u hq377
       try dsimp only at hO168
       obtain ⟨c175, hE176, hO177⟩ := bind_in hO168
       refine gx_cut (fun a w => selfA (fun u174 => ⟨((u33 0) :: (.int .u8 p1) :: (.int .u8 p2) :: un 3 ((u174 6) :: (.slice A34 l36.length c35) :: (u33 8) :: (u143 9) :: (u91 10) :: (.slice A126 l125.length c127) :: (.int .i64 x129) :: (.int .u8 x165) :: undef :: dd u5 15 9 (dd u33 24 19 ((u91 43) :: (.int .i64 ((l36.length : Nat) : Int)) :: dd u91 45 11 (dd u143 56 3 ((.int .u8 p2) :: dd u143 60 2 ((.int .i64 x129) :: dd u143 63 6 ((.bool false) :: un 10 (dd u164 80 3 (dd u174 83 37 (un 16 ([])))))))))))).toArray, []⟩) a ∧ Ctl.go () = c175 ∧ St [] w0 w [poolE ft133 W134, rowE .u8 34 A34 c35 l36, rowG 36 4 (.slice A126 l125.length c127) l125.length (cellsB oembedSeq ads128 l125)]) ?_ ?_
       ·refine gx_seq (fun K178 hK179 => ?_)
        refine gx_region ?_
        refine gx_k (.slice A126 l125.length c127) w162 (gx_k (.int .i64 ((l125.length : Nat) : Int)) w162 ?_)
        obtain ⟨c184, hE185, hO186⟩ := bind_in hE176
        refine gx_part (l1 := [_, _, _, _, _, _, _, _, _, _, _]) (fun a w => ∃ (b183 : Bool), selfA (fun u182 => ⟨((u33 0) :: (.int .u8 p1) :: (.int .u8 p2) :: un 3 ((u5 6) :: (.slice A34 l36.length c35) :: (u33 8) :: (u143 9) :: (u91 10) :: (.slice A126 l125.length c127) :: (.int .i64 x129) :: (.int .u8 x165) :: undef :: dd u5 15 9 (dd u33 24 19 ((u91 43) :: (.int .i64 ((l36.length : Nat) : Int)) :: dd u91 45 11 (dd u143 56 3 ((.int .u8 p2) :: dd u143 60 2 ((.int .i64 x129) :: dd u143 63 6 ((.bool false) :: un 10 (dd u164 80 3 ((u182 83) :: (.int .i64 ((l125.length : Nat) : Int)) :: dd u182 85 10 ((.bool b183) :: un 40 ([])))))))))))).toArray, []⟩) a ∧ b183 = c184 ∧ St [] w0 w [poolE ft133 W134, rowE .u8 34 A34 c35 l36, rowG 36 4 (.slice A126 l125.length c127) l125.length (cellsB oembedSeq ads128 l125)]) rfl ?_ ?_
        ·rcases if_in hE185 with ⟨h188, hE185⟩ | ⟨h188, hE185⟩
         ·refine gx_v (.bool true) w162 (run_boolE (ne_yes h188) (by kernel_rfl)) ?_
          refine gx_k (.bool true) w162 (gx_o (gx_o (gx_o (gx_o (gx_o (gx_o (gx_o ?_)))))))
          refine gx_o (gx_k (.bool true) w162 ?_)
          refine gx_nil ?_
          refine gx_thenN ?_
          exact ⟨true, selfA_i (by kernel_rfl), (Option.some.inj hE185), hS163⟩
         ·refine gx_v (.bool false) w162 (run_boolE (ne_no h188) (by kernel_rfl)) ?_
          refine gx_k (.bool false) w162 (gx_k (.slice A126 l125.length c127) w162 ?_)
          obtain ⟨x189, hx190, hE185⟩ := bind_in hE185
          obtain ⟨g191, o192, e193, hA194, he195, h196, ha197⟩ := elem_at (e := encembedSeq) (rowG_lies (e := encembedSeq) hn138 (hS163.get 2 rfl)) hf137 hx190 (by decide)
          obtain ⟨e198, e199, rfl, h200, h201⟩ := h196
          obtain ⟨A202, c203, vs204, rfl, hf205⟩ := h200
          obtain ⟨e206, e207, rfl, h208, h209⟩ := h201
          obtain rfl := h208
          obtain ⟨e210, e211, rfl, h212, h213⟩ := h209
          obtain rfl := h212
          obtain rfl := h213
          have ha197 : ∀ w', Lies w' A126 (cellsB oembedSeq ads128 l125) → w'.rangeAt g191 o192 [.slice A202 ((x189.1).length) c203, .int .u8 x189.2.1, .int .u8 x189.2.2.1, .int .u8 x189.2.2.2] := ha197
          refine gx_v (.pointer (some ⟨g191, o192, none⟩)) w162 (run_ixaddrN (E := 36) (s := 4) (k := .i64) (c := c127) rfl (by kernel_rfl) (by kernel_rfl) (by kernel_rfl) (fun _ => by kernel_rfl) (ixg_in hx190).1 (lt_len hn138 (ixg_in hx190).2.1) hA194) ?_
          refine gx_k (.pointer (some ⟨g191, o192, none⟩)) w162 ?_
          refine gx_v (.slice A202 ((x189.1).length) c203) w162 (run_loadN1 0 rfl (by kernel_rfl) (fun _ => by kernel_rfl) (ha197 _ (rowG_lies (e := encembedSeq) hn138 (hS163.get 2 rfl))) rfl) ?_
          refine gx_k (.int .i64 (((x189.1).length : Nat) : Int)) w162 (gx_k (.slice A34 l36.length c35) w162 (gx_k (.int .i64 ((l36.length : Nat) : Int)) w162 ?_))
          rcases if_in hE185 with ⟨h214, hE185⟩ | ⟨h214, hE185⟩
          ·refine gx_v (.bool true) w162 (run_boolE (ne_yes h214) (by kernel_rfl)) ?_
           refine gx_k (.bool true) w162 ?_
           refine gx_nil ?_
           refine gx_thenN ?_
           exact ⟨true, selfA_i (by kernel_rfl), (Option.some.inj hE185), hS163⟩
          ·refine gx_v (.bool false) w162 (run_boolE (ne_no h214) (by kernel_rfl)) ?_
           refine gx_k (.bool false) w162 ?_
           refine gx_nil ?_
           refine gx_thenN ?_
           exact ⟨false, selfA_i (by kernel_rfl), (Option.some.inj hE185), hS163⟩
        ·rintro _ w180 ⟨b183, hq187, rfl, hS181⟩
         obtain ⟨u182, rfl⟩ := selfA_u hq187
         try dsimp only at hO186
         obtain ⟨c219, hE220, hO221⟩ := bind_in hO186
         refine gx_part (l1 := [_, _, _, _, _, _, _, _]) (fun a w => ∃ (b218 : Bool), selfA (fun u217 => ⟨((u33 0) :: (.int .u8 p1) :: (.int .u8 p2) :: un 3 ((u5 6) :: (.slice A34 l36.length c35) :: (u33 8) :: (u143 9) :: (u91 10) :: (.slice A126 l125.length c127) :: (.int .i64 x129) :: (.int .u8 x165) :: undef :: dd u5 15 9 (dd u33 24 19 ((u91 43) :: (.int .i64 ((l36.length : Nat) : Int)) :: dd u91 45 11 (dd u143 56 3 ((.int .u8 p2) :: dd u143 60 2 ((.int .i64 x129) :: dd u143 63 6 ((.bool false) :: un 10 (dd u164 80 3 ((u182 83) :: (.int .i64 ((l125.length : Nat) : Int)) :: dd u182 85 10 ((.bool b183) :: dd u217 96 7 ((.bool b218) :: un 32 ([]))))))))))))).toArray, []⟩) a ∧ b218 = c219 ∧ St [] w0 w [poolE ft133 W134, rowE .u8 34 A34 c35 l36, rowG 36 4 (.slice A126 l125.length c127) l125.length (cellsB oembedSeq ads128 l125)]) rfl ?_ ?_
         ·refine gx_k (.bool b183) w180 ?_
          cases b183 with
          | true =>
           try dsimp only at hE220
           refine gx_o (gx_o (gx_o (gx_o (gx_o (gx_o (gx_k (.bool true) w180 ?_))))))
           refine gx_nil ?_
           refine gx_thenN ?_
           exact ⟨true, selfA_i (by kernel_rfl), (Option.some.inj hE220), hS181⟩
          | false =>
           try dsimp only at hE220
           refine gx_k (.slice A126 l125.length c127) w180 ?_
           obtain ⟨x223, hx224, hE220⟩ := bind_in hE220
           obtain ⟨g225, o226, e227, hA228, he229, h230, ha231⟩ := elem_at (e := encembedSeq) (rowG_lies (e := encembedSeq) hn138 (hS181.get 2 rfl)) hf137 hx224 (by decide)
           obtain ⟨e232, e233, rfl, h234, h235⟩ := h230
           obtain ⟨A236, c237, vs238, rfl, hf239⟩ := h234
           obtain ⟨e240, e241, rfl, h242, h243⟩ := h235
           obtain rfl := h242
           obtain ⟨e244, e245, rfl, h246, h247⟩ := h243
           obtain rfl := h246
           obtain rfl := h247
           have ha231 : ∀ w', Lies w' A126 (cellsB oembedSeq ads128 l125) → w'.rangeAt g225 o226 [.slice A236 ((x223.1).length) c237, .int .u8 x223.2.1, .int .u8 x223.2.2.1, .int .u8 x223.2.2.2] := ha231
           refine gx_v (.pointer (some ⟨g225, o226, none⟩)) w180 (run_ixaddrN (E := 36) (s := 4) (k := .i64) (c := c127) rfl (by kernel_rfl) (by kernel_rfl) (by kernel_rfl) (fun _ => by kernel_rfl) (ixg_in hx224).1 (lt_len hn138 (ixg_in hx224).2.1) hA228) ?_
           refine gx_k (.pointer (some ⟨g225, o226 + 1, none⟩)) w180 ?_
           refine gx_v (.int .u8 x223.2.1) w180 (run_loadN1 1 rfl (by kernel_rfl) (fun _ => by kernel_rfl) (ha231 _ (rowG_lies (e := encembedSeq) hn138 (hS181.get 2 rfl))) rfl) ?_
           refine gx_k (.int .u8 p1) w180 ?_
           rcases if_in hE220 with ⟨h248, hE220⟩ | ⟨h248, hE220⟩
           ·refine gx_v (.bool true) w180 (run_boolE (ne_yes h248) (by kernel_rfl)) ?_
            refine gx_k (.bool true) w180 ?_
            refine gx_nil ?_
            refine gx_thenN ?_
            exact ⟨true, selfA_i (by kernel_rfl), (Option.some.inj hE220), hS181⟩
           ·refine gx_v (.bool false) w180 (run_boolE (ne_no h248) (by kernel_rfl)) ?_
            refine gx_k (.bool false) w180 ?_
            refine gx_nil ?_
            refine gx_thenN ?_
            exact ⟨false, selfA_i (by kernel_rfl), (Option.some.inj hE220), hS181⟩
         ·rintro _ w215 ⟨b218, hq222, rfl, hS216⟩
          obtain ⟨u217, rfl⟩ := selfA_u hq222
          try dsimp only at hO221
          obtain ⟨c253, hE254, hO255⟩ := bind_in hO221
          refine gx_part (l1 := [_, _, _, _, _, _, _, _]) (fun a w => ∃ (b252 : Bool), selfA (fun u251 => ⟨((u33 0) :: (.int .u8 p1) :: (.int .u8 p2) :: un 3 ((u5 6) :: (.slice A34 l36.length c35) :: (u33 8) :: (u143 9) :: (u91 10) :: (.slice A126 l125.length c127) :: (.int .i64 x129) :: (.int .u8 x165) :: undef :: dd u5 15 9 (dd u33 24 19 ((u91 43) :: (.int .i64 ((l36.length : Nat) : Int)) :: dd u91 45 11 (dd u143 56 3 ((.int .u8 p2) :: dd u143 60 2 ((.int .i64 x129) :: dd u143 63 6 ((.bool false) :: un 10 (dd u164 80 3 ((u182 83) :: (.int .i64 ((l125.length : Nat) : Int)) :: dd u182 85 10 ((.bool b183) :: dd u217 96 7 ((.bool b218) :: dd u251 104 7 ((.bool b252) :: un 24 ([])))))))))))))).toArray, []⟩) a ∧ b252 = c253 ∧ St [] w0 w [poolE ft133 W134, rowE .u8 34 A34 c35 l36, rowG 36 4 (.slice A126 l125.length c127) l125.length (cellsB oembedSeq ads128 l125)]) rfl ?_ ?_
          ·refine gx_k (.bool b218) w215 ?_
           cases b218 with
           | true =>
            try dsimp only at hE254
            refine gx_o (gx_o (gx_o (gx_o (gx_o (gx_o (gx_k (.bool true) w215 ?_))))))
            refine gx_nil ?_
            refine gx_thenN ?_
            exact ⟨true, selfA_i (by kernel_rfl), (Option.some.inj hE254), hS216⟩
           | false =>
            try dsimp only at hE254
            refine gx_k (.slice A126 l125.length c127) w215 ?_
            obtain ⟨x257, hx258, hE254⟩ := bind_in hE254
            obtain ⟨g259, o260, e261, hA262, he263, h264, ha265⟩ := elem_at (e := encembedSeq) (rowG_lies (e := encembedSeq) hn138 (hS216.get 2 rfl)) hf137 hx258 (by decide)
            obtain ⟨e266, e267, rfl, h268, h269⟩ := h264
            obtain ⟨A270, c271, vs272, rfl, hf273⟩ := h268
            obtain ⟨e274, e275, rfl, h276, h277⟩ := h269
            obtain rfl := h276
            obtain ⟨e278, e279, rfl, h280, h281⟩ := h277
            obtain rfl := h280
            obtain rfl := h281
            have ha265 : ∀ w', Lies w' A126 (cellsB oembedSeq ads128 l125) → w'.rangeAt g259 o260 [.slice A270 ((x257.1).length) c271, .int .u8 x257.2.1, .int .u8 x257.2.2.1, .int .u8 x257.2.2.2] := ha265
            refine gx_v (.pointer (some ⟨g259, o260, none⟩)) w215 (run_ixaddrN (E := 36) (s := 4) (k := .i64) (c := c127) rfl (by kernel_rfl) (by kernel_rfl) (by kernel_rfl) (fun _ => by kernel_rfl) (ixg_in hx258).1 (lt_len hn138 (ixg_in hx258).2.1) hA262) ?_
            refine gx_k (.pointer (some ⟨g259, o260 + 2, none⟩)) w215 ?_
            refine gx_v (.int .u8 x257.2.2.1) w215 (run_loadN1 2 rfl (by kernel_rfl) (fun _ => by kernel_rfl) (ha265 _ (rowG_lies (e := encembedSeq) hn138 (hS216.get 2 rfl))) rfl) ?_
            refine gx_k (.int .u8 x165) w215 ?_
            rcases if_in hE254 with ⟨h282, hE254⟩ | ⟨h282, hE254⟩
            ·refine gx_v (.bool true) w215 (run_boolE (ne_yes h282) (by kernel_rfl)) ?_
             refine gx_k (.bool true) w215 ?_
             refine gx_nil ?_
             refine gx_thenN ?_
             exact ⟨true, selfA_i (by kernel_rfl), (Option.some.inj hE254), hS216⟩
            ·refine gx_v (.bool false) w215 (run_boolE (ne_no h282) (by kernel_rfl)) ?_
             refine gx_k (.bool false) w215 ?_
             refine gx_nil ?_
             refine gx_thenN ?_
             exact ⟨false, selfA_i (by kernel_rfl), (Option.some.inj hE254), hS216⟩
          ·rintro _ w249 ⟨b252, hq256, rfl, hS250⟩
           obtain ⟨u251, rfl⟩ := selfA_u hq256
           try dsimp only at hO255
           refine gx_k (.bool b252) w249 ?_
           cases b252 with
           | true =>
            try dsimp only at hO255
            refine gx_o (gx_o (gx_o (gx_o (gx_o (gx_o (gx_k (.bool true) w249 ?_))))))
            refine gx_nil ?_
            refine gx_thenN ?_
            refine hK179 _ _ ?_
            refine gx_yes (by kernel_rfl) ?_
            refine gx_seq (fun K283 hK284 => ?_)
            refine gx_region ?_
            refine gx_k (.bool false) w249 ?_
            refine gx_nil ?_
            refine gx_thenN ?_
            refine hK284 _ _ ?_
            refine gx_ret ?_
            refine gx_thenR ?_
            obtain rfl := Option.some.inj hO255
            try dsimp only at hO177
            obtain rfl := Option.some.inj hO177
            exact gx_fin (.bool false) (by kernel_rfl) (by kernel_rfl) ⟨_, rfl, rfl, (hS250.pick [] rfl rfl)⟩
           | false =>
            try dsimp only at hO255
            refine gx_k (.slice A126 l125.length c127) w249 ?_
            obtain ⟨x285, hx286, hO255⟩ := bind_in hO255
            obtain ⟨g287, o288, e289, hA290, he291, h292, ha293⟩ := elem_at (e := encembedSeq) (rowG_lies (e := encembedSeq) hn138 (hS250.get 2 rfl)) hf137 hx286 (by decide)
            obtain ⟨e294, e295, rfl, h296, h297⟩ := h292
            obtain ⟨A298, c299, vs300, rfl, hf301⟩ := h296
            obtain ⟨e302, e303, rfl, h304, h305⟩ := h297
            obtain rfl := h304
            obtain ⟨e306, e307, rfl, h308, h309⟩ := h305
            obtain rfl := h308
            obtain rfl := h309
            have ha293 : ∀ w', Lies w' A126 (cellsB oembedSeq ads128 l125) → w'.rangeAt g287 o288 [.slice A298 ((x285.1).length) c299, .int .u8 x285.2.1, .int .u8 x285.2.2.1, .int .u8 x285.2.2.2] := ha293
            refine gx_v (.pointer (some ⟨g287, o288, none⟩)) w249 (run_ixaddrN (E := 36) (s := 4) (k := .i64) (c := c127) rfl (by kernel_rfl) (by kernel_rfl) (by kernel_rfl) (fun _ => by kernel_rfl) (ixg_in hx286).1 (lt_len hn138 (ixg_in hx286).2.1) hA290) ?_
            refine gx_k (.pointer (some ⟨g287, o288 + 3, none⟩)) w249 ?_
            refine gx_v (.int .u8 x285.2.2.2) w249 (run_loadN1 3 rfl (by kernel_rfl) (fun _ => by kernel_rfl) (ha293 _ (rowG_lies (e := encembedSeq) hn138 (hS250.get 2 rfl))) rfl) ?_
            refine gx_k (.int .u8 x165) w249 ?_
            rcases if_in hO255 with ⟨h310, hO255⟩ | ⟨h310, hO255⟩
            ·refine gx_v (.bool true) w249 (run_boolE (ne_yes h310) (by kernel_rfl)) ?_
             refine gx_k (.bool true) w249 ?_
             refine gx_nil ?_
             refine gx_thenN ?_
             refine hK179 _ _ ?_
             refine gx_yes (by kernel_rfl) ?_
             refine gx_seq (fun K311 hK312 => ?_)
             refine gx_region ?_
             refine gx_k (.bool false) w249 ?_
             refine gx_nil ?_
             refine gx_thenN ?_
             refine hK312 _ _ ?_
             refine gx_ret ?_
             refine gx_thenR ?_
             obtain rfl := Option.some.inj hO255
             try dsimp only at hO177
             obtain rfl := Option.some.inj hO177
             exact gx_fin (.bool false) (by kernel_rfl) (by kernel_rfl) ⟨_, rfl, rfl, (hS250.pick [] rfl rfl)⟩
            ·refine gx_v (.bool false) w249 (run_boolE (ne_no h310) (by kernel_rfl)) ?_
             refine gx_k (.bool false) w249 ?_
             refine gx_nil ?_
             refine gx_thenN ?_
             refine hK179 _ _ ?_
             refine gx_no (by kernel_rfl) ?_
             refine gx_pass ?_
             refine gx_thenN ?_
             exact ⟨selfA_i (by kernel_rfl), (Option.some.inj hO255), hS250⟩
       ·rintro _ w172 ⟨hq376, rfl, hS173⟩
        obtain ⟨u174, rfl⟩ := selfA_u hq376
        try dsimp only at hO177
        obtain ⟨c316, hE317, hO318⟩ := bind_in hO177
        refine gx_cut (fun a w => selfA (fun u315 => ⟨((u33 0) :: (.int .u8 p1) :: (.int .u8 p2) :: un 3 (dd u315 6 2 ((u33 8) :: (u143 9) :: (u91 10) :: (u315 11) :: (.int .i64 x129) :: (.int .u8 x165) :: (u315 14) :: dd u5 15 9 (dd u33 24 19 ((u91 43) :: (.int .i64 ((l36.length : Nat) : Int)) :: dd u91 45 11 (dd u143 56 3 ((.int .u8 p2) :: dd u143 60 2 ((.int .i64 x129) :: dd u143 63 6 ((.bool false) :: un 10 (dd u164 80 3 (dd u174 83 37 (dd u315 120 15 (undef :: []))))))))))))).toArray, []⟩) a ∧ Ctl.go () = c316 ∧ St [] w0 w [poolE ft133 W134]) ?_ ?_
        ·refine gx_seq (fun K319 hK320 => ?_)
         refine gx_region ?_
         refine gx_k (.int .i64 0) w172 ?_
         refine gx_nil ?_
         refine gx_thenN ?_
         refine hK320 _ _ ?_
         refine gx_block ?_
         refine gx_loop (fun k a w => ∃ (x324 : Int), selfA (fun u323 => ⟨((u33 0) :: (.int .u8 p1) :: (.int .u8 p2) :: un 3 ((u323 6) :: (.slice A34 l36.length c35) :: (u33 8) :: (u143 9) :: (u91 10) :: (.slice A126 l125.length c127) :: (.int .i64 x129) :: (.int .u8 x165) :: (.int .i64 x324) :: dd u5 15 9 (dd u33 24 19 ((u91 43) :: (.int .i64 ((l36.length : Nat) : Int)) :: dd u91 45 11 (dd u143 56 3 ((.int .u8 p2) :: dd u143 60 2 ((.int .i64 x129) :: dd u143 63 6 ((.bool false) :: un 10 (dd u164 80 3 (dd u174 83 37 (dd u323 120 15 (undef :: [])))))))))))).toArray, []⟩) a ∧ fSingle_L3 N l36 l125 k x324 = some c316 ∧ St [] w0 w [poolE ft133 W134, rowE .u8 34 A34 c35 l36, rowG 36 4 (.slice A126 l125.length c127) l125.length (cellsB oembedSeq ads128 l125)]) N ?_ ?_
         ·exact ⟨0, selfA_i (by kernel_rfl), hE317, hS173⟩
         ·rintro k325 _ w321 ⟨x324, hq366, hL326, hS322⟩
          obtain ⟨u323, rfl⟩ := selfA_u hq366
          cases k325 with
          | zero => cases hL326
          | succ k325 =>
           first | rw [fSingle_L3] at hL326 | unfold fSingle_L3 at hL326
           refine gx_seq (fun K327 hK328 => ?_)
           refine gx_seq (fun K329 hK330 => ?_)
           refine gx_region ?_
           refine gx_k (.int .i64 x324) w321 (gx_k (.slice A34 l36.length c35) w321 (gx_k (.int .i64 ((l36.length : Nat) : Int)) w321 ?_))
           rcases if_in hL326 with ⟨h331, hL326⟩ | ⟨h331, hL326⟩
           ·refine gx_v (.bool true) w321 (run_boolE (decide_eq_true h331) (by kernel_rfl)) ?_
            refine gx_nil ?_
            refine gx_thenN ?_
            refine hK330 _ _ ?_
            refine gx_yes (by kernel_rfl) ?_
            refine gx_pass ?_
            refine gx_thenN ?_
            refine hK328 _ _ ?_
            refine gx_seq (fun K332 hK333 => ?_)
            refine gx_block ?_
            refine gx_seq (fun K334 hK335 => ?_)
            refine gx_region ?_
            refine gx_k (.slice A126 l125.length c127) w321 ?_
            obtain ⟨x336, hx337, hL326⟩ := bind_in hL326
            obtain ⟨g338, o339, e340, hA341, he342, h343, ha344⟩ := elem_at (e := encembedSeq) (rowG_lies (e := encembedSeq) hn138 (hS322.get 2 rfl)) hf137 hx337 (by decide)
            obtain ⟨e345, e346, rfl, h347, h348⟩ := h343
            obtain ⟨A349, c350, vs351, rfl, hf352⟩ := h347
            obtain ⟨e353, e354, rfl, h355, h356⟩ := h348
            obtain rfl := h355
            obtain ⟨e357, e358, rfl, h359, h360⟩ := h356
            obtain rfl := h359
            obtain rfl := h360
            have ha344 : ∀ w', Lies w' A126 (cellsB oembedSeq ads128 l125) → w'.rangeAt g338 o339 [.slice A349 ((x336.1).length) c350, .int .u8 x336.2.1, .int .u8 x336.2.2.1, .int .u8 x336.2.2.2] := ha344
            refine gx_v (.pointer (some ⟨g338, o339, none⟩)) w321 (run_ixaddrN (E := 36) (s := 4) (k := .i64) (c := c127) rfl (by kernel_rfl) (by kernel_rfl) (by kernel_rfl) (fun _ => by kernel_rfl) (ixg_in hx337).1 (lt_len hn138 (ixg_in hx337).2.1) hA341) ?_
            refine gx_k (.pointer (some ⟨g338, o339, none⟩)) w321 ?_
            refine gx_v (.slice A349 ((x336.1).length) c350) w321 (run_loadN1 0 rfl (by kernel_rfl) (fun _ => by kernel_rfl) (ha344 _ (rowG_lies (e := encembedSeq) hn138 (hS322.get 2 rfl))) rfl) ?_
            refine gx_k (.int .i64 x324) w321 ?_
            obtain ⟨x361, hx362, hL326⟩ := bind_in hL326
            refine gx_v (.pointer (Option.map (fun (p : Addr) => p.add (Int.toNat x324 * 1)) A349)) w321 (run_ixaddr (E := 3) (s := 1) (k := .i64) (c := c350) rfl (by kernel_rfl) (by kernel_rfl) (by kernel_rfl) (fun _ => by kernel_rfl) (ix_in hx362).1 (ix_in hx362).2.1 (num_nil (num_sl (hS322.now 0 rfl hf352)))) ?_
            refine gx_v (.int .i64 x361) w321 (run_loadix rfl (by kernel_rfl) (fun _ => by kernel_rfl) (num_sl (hS322.now 0 rfl hf352)) hx362) ?_
            refine gx_k (.int .i64 x324) w321 ?_
            rcases if_in hL326 with ⟨h363, hL326⟩ | ⟨h363, hL326⟩
            ·refine gx_v (.bool true) w321 (run_boolE (ne_yes h363) (by kernel_rfl)) ?_
             refine gx_nil ?_
             refine gx_thenN ?_
             refine hK335 _ _ ?_
             refine gx_yes (by kernel_rfl) ?_
             refine gx_seq (fun K364 hK365 => ?_)
             refine gx_region ?_
             refine gx_k (.bool false) w321 ?_
             refine gx_nil ?_
             refine gx_thenN ?_
             refine hK365 _ _ ?_
             refine gx_ret ?_
             refine gx_blkR ?_
             refine gx_thenR ?_
             refine gx_thenR ?_
             refine gx_blkR ?_
             refine gx_thenR ?_
             obtain rfl := Option.some.inj hL326
             try dsimp only at hO318
             obtain rfl := Option.some.inj hO318
             exact gx_fin (.bool false) (by kernel_rfl) (by kernel_rfl) ⟨_, rfl, rfl, (hS322.pick [] rfl rfl)⟩
            ·refine gx_v (.bool false) w321 (run_boolE (ne_no h363) (by kernel_rfl)) ?_
             refine gx_nil ?_
             refine gx_thenN ?_
             refine hK335 _ _ ?_
             refine gx_no (by kernel_rfl) ?_
             refine gx_pass ?_
             refine gx_blkN ?_
             refine gx_thenN ?_
             refine hK333 _ _ ?_
             refine gx_region ?_
             refine gx_k (.int .i64 x324) w321 (gx_k (.int .i64 (IntKind.i64.wrap (x324 + 1))) w321 (gx_k (.int .i64 (IntKind.i64.wrap (x324 + 1))) w321 ?_))
             refine gx_nil ?_
             refine gx_thenN ?_
             exact ⟨k325, Nat.lt_succ_self k325, (IntKind.i64.wrap (x324 + 1)), selfA_i (by kernel_rfl), hL326, hS322⟩
           ·refine gx_v (.bool false) w321 (run_boolE (decide_eq_false h331) (by kernel_rfl)) ?_
            refine gx_nil ?_
            refine gx_thenN ?_
            refine hK330 _ _ ?_
            refine gx_no (by kernel_rfl) ?_
            refine gx_exit ?_
            refine gx_thenE ?_
            refine gx_thenE ?_
            refine gx_blkE ?_
            refine gx_thenN ?_
            exact ⟨selfA_i (by kernel_rfl), (Option.some.inj hL326), (hS322.pick [0] rfl rfl)⟩
        ·rintro _ w313 ⟨hq375, rfl, hS314⟩
         obtain ⟨u315, rfl⟩ := selfA_u hq375
         try dsimp only at hO318
         refine gx_seq (fun K367 hK368 => ?_)
         refine gx_region ?_
         have hP369 : St _ _ w313 ([] ++ [poolE ft133 W134]) := hS314
         obtain ⟨b371, hc370, hO318⟩ := bind_in hO318
         try dsimp only at hO318
         refine gx_c (kIso_R b371 w313) (kIso_ok N  _ hc370 w313 ) ?_
         rintro _ w372 ⟨rfl, hT374⟩
         have hS373 : St _ _ w372 [poolE ft133 W134] := hS314.take _ hT374
         refine gx_k (.bool b371) w372 ?_
         refine gx_nil ?_
         refine gx_thenN ?_
         refine hK368 _ _ ?_
         refine gx_ret ?_
         obtain rfl := Option.some.inj hO318
         exact gx_fin (.bool b371) (by kernel_rfl) (by kernel_rfl) ⟨_, rfl, rfl, (hS373.pick [] rfl rfl)⟩

end Go.Proofs.Ytjndolnjhbgflaa

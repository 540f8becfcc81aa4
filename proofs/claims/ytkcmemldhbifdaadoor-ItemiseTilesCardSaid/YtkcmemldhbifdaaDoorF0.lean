/-
  The statements, walked.
-/
import Derived.Test.YtkcmemldhbifdaaDoorP1
import Derived.Test.YtkcmemldhbifdaaDoorGy
namespace Go.Proofs.YtkcmemldhbifdaaDoor
open Go Go.RowKit
set_option linter.unusedVariables false
def kWorks (N : Nat) : Option (Bool) :=
 ((pRuns N ([97, 32, 1488]) ([0, 0, 1])).bind fun (l11, x16) => (((if x16 = 0 then (if ((l11.length : Nat) : Int) = 2 then some (true) else some (false)) else some (false)) : Option (Bool)).bind fun b34 => (((match b34 with | true => ((ixg l11 (0 : Int)).bind fun x49 => ((some (decide (([x49.1, x49.2.1, x49.2.2.1, x49.2.2.2] : List Int) = [0, 2, 0, 2]) ^^ false)).bind fun b70 => some (b70))) | false => some (false)) : Option (Bool)).bind fun b44 => (match b44 with | true => ((ixg l11 (1 : Int)).bind fun x72 => ((some (decide (([x72.1, x72.2.1, x72.2.2.1, x72.2.2.2] : List Int) = [2, 3, 1, 3]) ^^ false)).bind fun b93 => some b93)) | false => some false))))
set_option linter.unusedVariables false in
def kWorks_R (r : Bool) (w0 : World) (v : Value) (w : World) : Prop := v = .bool r ∧ St [] w0 w []
set_option maxRecDepth 100000 in
set_option maxHeartbeats 4000000 in
theorem kWorks_ok (N : Nat)  (r : Bool) (hF : kWorks N = some r) (w0 : World) (hcd : MirB [] w0) :
  Calls Tryd.prog 8 #[] w0 fun e w => ∃ v, e = .returned v ∧ kWorks_R r w0 v w := by
 have hS0 := (St.start w0).pool0
 unfold kWorks at hF
 refine calls_of Tryd.func8 rfl ⟨(un 30 ([])).toArray, []⟩ (by kernel_rfl) ?_
 refine gx_seq (fun K1 hK2 => ?_)
 refine gx_region ?_
 refine gx_k (.bool false) w0 ?_
 refine gx_nil ?_
 refine gx_thenN ?_
 refine hK2 _ _ ?_
 refine gx_seq (fun K3 hK4 => ?_)
 refine gx_region ?_
 refine gx_r (st_made .i32 21 [97, 32, 1488] hS0 (by show 3 ≤ 1000000000; decide) (by kernel_rfl)) ?_
 rintro _ w5 ⟨rfl, hS6⟩
 have hS6 : St _ _ w5 [poolE ([]) w0, rowE .i32 21 (some ⟨w0.heap.size, 0, none⟩) 3 ([97, 32, 1488])] := hS6
 refine gx_r (st_made .u8 5 [0, 0, 1] hS6 (by show 3 ≤ 1000000000; decide) (by kernel_rfl)) ?_
 rintro _ w7 ⟨rfl, hS8⟩
 have hS8 : St _ _ w7 [poolE ([]) w0, rowE .i32 21 (some ⟨w0.heap.size, 0, none⟩) 3 ([97, 32, 1488]), rowE .u8 5 (some ⟨w5.heap.size, 0, none⟩) 3 ([0, 0, 1])] := hS8
 have hP9 : St _ _ w7 ([] ++ [poolE ([]) w0, rowE .i32 21 (some ⟨w0.heap.size, 0, none⟩) 3 ([97, 32, 1488]), rowE .u8 5 (some ⟨w5.heap.size, 0, none⟩) 3 ([0, 0, 1])]) := hS8
 obtain ⟨⟨l11, x16⟩, hc10, hF⟩ := bind_in hF
 try dsimp only at hF
 refine gx_c (pRuns_R (l11, x16) w7) (pRuns_ok N ([97, 32, 1488]) ([0, 0, 1]) (some ⟨w0.heap.size, 0, none⟩) 3 (some ⟨w5.heap.size, 0, none⟩) 3 _ hc10 w7 (hP9.vwB 1 rfl) (hP9.vwB 2 rfl) (MirB.atL hcd hP9)) ?_
 rintro _ w18 ⟨A12, c13, vs14, ft17, rfl, hT20, hf15⟩
 have hS19 : St _ _ w18 [poolE ([]) w0, rowE .i32 21 (some ⟨w0.heap.size, 0, none⟩) 3 ([97, 32, 1488]), rowE .u8 5 (some ⟨w5.heap.size, 0, none⟩) 3 ([0, 0, 1]), rowG 35 4 (.slice A12 l11.length c13) l11.length vs14, poolE ft17 w18] := hS8.take _ hT20
 obtain ⟨ft21, W22, hS23, hT24, hU25⟩ := hS19.merge 4 0 rfl rfl (by decide)
 have hS23 : St _ _ w18 [poolE ft21 W22, rowE .i32 21 (some ⟨w0.heap.size, 0, none⟩) 3 ([97, 32, 1488]), rowE .u8 5 (some ⟨w5.heap.size, 0, none⟩) 3 ([0, 0, 1]), rowG 35 4 (.slice A12 l11.length c13) l11.length vs14] := hS23
 have hT24 : Turn [] w0 w0 ([]) W22 ft21 := hT24
 have hf28 : (fEach encitemiseRun vs14 l11).rd W22 ft21 := hU25 _ hf15
 refine gx_k (.tuple #[.slice A12 l11.length c13, .int .i64 x16]) w18 (gx_k (.slice A12 l11.length c13) w18 (gx_k (.int .i64 x16) w18 (gx_k (.slice A12 l11.length c13) w18 (gx_k (.int .i64 x16) w18 ?_))))
 refine gx_nil ?_
 refine gx_thenN ?_
 refine hK4 _ _ ?_
 refine gx_seq (fun K29 hK30 => ?_)
 refine gx_region ?_
 refine gx_k (.int .i64 x16) w18 ?_
 obtain ⟨c35, hE36, hO37⟩ := bind_in hF
 refine gx_part (l1 := [_, _, _, _, _, _]) (fun a w => ∃ (b34 : Bool), selfA (fun u33 => ⟨((.bool false) :: (.slice A12 l11.length c13) :: (.int .i64 x16) :: dd u33 3 5 ((.int .i64 x16) :: (.int .i64 x16) :: dd u33 10 5 ((.bool b34) :: un 14 ([])))).toArray, []⟩) a ∧ b34 = c35 ∧ St [] w0 w [poolE ft21 W22, rowG 35 4 (.slice A12 l11.length c13) l11.length vs14]) rfl ?_ ?_
 ·rcases if_in hE36 with ⟨h39, hE36⟩ | ⟨h39, hE36⟩
  ·refine gx_v (.bool true) w18 (run_boolE (decide_eq_true h39) (by kernel_rfl)) ?_
   refine gx_k (.bool true) w18 (gx_k (.slice A12 l11.length c13) w18 (gx_k (.int .i64 ((l11.length : Nat) : Int)) w18 ?_))
   rcases if_in hE36 with ⟨h40, hE36⟩ | ⟨h40, hE36⟩
   ·refine gx_v (.bool true) w18 (run_boolE (decide_eq_true h40) (by kernel_rfl)) ?_
    refine gx_k (.bool true) w18 ?_
    refine gx_nil ?_
    refine gx_thenN ?_
    exact ⟨true, selfA_i (by kernel_rfl), (Option.some.inj hE36), (hS23.pick [0, 3] rfl rfl)⟩
   ·refine gx_v (.bool false) w18 (run_boolE (decide_eq_false h40) (by kernel_rfl)) ?_
    refine gx_k (.bool false) w18 ?_
    refine gx_nil ?_
    refine gx_thenN ?_
    exact ⟨false, selfA_i (by kernel_rfl), (Option.some.inj hE36), (hS23.pick [0, 3] rfl rfl)⟩
  ·refine gx_v (.bool false) w18 (run_boolE (decide_eq_false h39) (by kernel_rfl)) ?_
   refine gx_k (.bool false) w18 (gx_o (gx_o (gx_o (gx_k (.bool false) w18 ?_))))
   refine gx_nil ?_
   refine gx_thenN ?_
   exact ⟨false, selfA_i (by kernel_rfl), (Option.some.inj hE36), (hS23.pick [0, 3] rfl rfl)⟩
 ·rintro _ w31 ⟨b34, hq38, rfl, hS32⟩
  obtain ⟨u33, rfl⟩ := selfA_u hq38
  try dsimp only at hO37
  obtain ⟨c45, hE46, hO47⟩ := bind_in hO37
  refine gx_part (l1 := [_, _, _, _, _, _, _]) (fun a w => ∃ (b44 : Bool), selfA (fun u43 => ⟨((.bool false) :: (.slice A12 l11.length c13) :: (.int .i64 x16) :: dd u33 3 5 ((.int .i64 x16) :: (.int .i64 x16) :: dd u33 10 5 ((.bool b34) :: dd u43 16 6 ((.bool b44) :: un 7 ([]))))).toArray, []⟩) a ∧ b44 = c45 ∧ St [] w0 w [poolE ft21 W22, rowG 35 4 (.slice A12 l11.length c13) l11.length vs14]) rfl ?_ ?_
  ·refine gx_k (.bool b34) w31 ?_
   cases b34 with
   | true =>
    try dsimp only at hE46
    refine gx_k (.slice A12 l11.length c13) w31 ?_
    obtain ⟨x49, hx50, hE46⟩ := bind_in hE46
    obtain ⟨g51, o52, e53, hA54, he55, h56, ha57⟩ := elem_at (e := encitemiseRun) (rowG_lies (e := encitemiseRun) rfl (hS32.get 1 rfl)) hf28 hx50 (by decide)
    obtain ⟨e58, e59, rfl, h60, h61⟩ := h56
    obtain rfl := h60
    obtain ⟨e62, e63, rfl, h64, h65⟩ := h61
    obtain rfl := h64
    obtain ⟨e66, e67, rfl, h68, h69⟩ := h65
    obtain rfl := h68
    obtain rfl := h69
    have ha57 : ∀ w', Lies w' A12 vs14 → w'.rangeAt g51 o52 [.int .i64 x49.1, .int .i64 x49.2.1, .int .u8 x49.2.2.1, .int .u8 x49.2.2.2] := ha57
    refine gx_v (.pointer (some ⟨g51, o52, none⟩)) w31 (run_ixaddrN (E := 35) (s := 4) (k := .i64) (c := c13) rfl (by kernel_rfl) (by kernel_rfl) (by kernel_rfl) (fun _ => by kernel_rfl) (ixg_in hx50).1 (ixg_in hx50).2.1 hA54) ?_
    refine gx_v (.agg #[.int .i64 x49.1, .int .i64 x49.2.1, .int .u8 x49.2.2.1, .int .u8 x49.2.2.2]) w31 (run_loadNG (d := _) (ec := [.int .i64 x49.1, .int .i64 x49.2.1, .int .u8 x49.2.2.1, .int .u8 x49.2.2.2]) rfl (by kernel_rfl) (ha57 _ (rowG_lies (e := encitemiseRun) rfl (hS32.get 1 rfl))) rfl rfl (by kernel_rfl)) ?_
    refine gx_k (.agg #[.int .i64 0, .int .i64 2, .int .u8 0, .int .u8 2]) w31 ?_
    obtain ⟨b70, h71, hE46⟩ := bind_in hE46
    refine gx_v (.bool b70) w31 (run_eqS (l := [(.i64, x49.1), (.i64, x49.2.1), (.u8, x49.2.2.1), (.u8, x49.2.2.2)]) (m := [(.i64, 0), (.i64, 2), (.u8, 0), (.u8, 2)]) false rfl (by kernel_rfl) (by kernel_rfl) (by kernel_rfl) (by kernel_rfl) (by kernel_rfl) (by kernel_rfl) rfl (by kernel_rfl) h71) ?_
    refine gx_k (.bool b70) w31 ?_
    refine gx_nil ?_
    refine gx_thenN ?_
    exact ⟨b70, selfA_i (by kernel_rfl), (Option.some.inj hE46), hS32⟩
   | false =>
    try dsimp only at hE46
    refine gx_o (gx_o (gx_o (gx_o (gx_o (gx_k (.bool false) w31 ?_)))))
    refine gx_nil ?_
    refine gx_thenN ?_
    exact ⟨false, selfA_i (by kernel_rfl), (Option.some.inj hE46), hS32⟩
  ·rintro _ w41 ⟨b44, hq48, rfl, hS42⟩
   obtain ⟨u43, rfl⟩ := selfA_u hq48
   try dsimp only at hO47
   refine gx_k (.bool b44) w41 ?_
   cases b44 with
   | true =>
    try dsimp only at hO47
    refine gx_k (.slice A12 l11.length c13) w41 ?_
    obtain ⟨x72, hx73, hO47⟩ := bind_in hO47
    obtain ⟨g74, o75, e76, hA77, he78, h79, ha80⟩ := elem_at (e := encitemiseRun) (rowG_lies (e := encitemiseRun) rfl (hS42.get 1 rfl)) hf28 hx73 (by decide)
    obtain ⟨e81, e82, rfl, h83, h84⟩ := h79
    obtain rfl := h83
    obtain ⟨e85, e86, rfl, h87, h88⟩ := h84
    obtain rfl := h87
    obtain ⟨e89, e90, rfl, h91, h92⟩ := h88
    obtain rfl := h91
    obtain rfl := h92
    have ha80 : ∀ w', Lies w' A12 vs14 → w'.rangeAt g74 o75 [.int .i64 x72.1, .int .i64 x72.2.1, .int .u8 x72.2.2.1, .int .u8 x72.2.2.2] := ha80
    refine gx_v (.pointer (some ⟨g74, o75, none⟩)) w41 (run_ixaddrN (E := 35) (s := 4) (k := .i64) (c := c13) rfl (by kernel_rfl) (by kernel_rfl) (by kernel_rfl) (fun _ => by kernel_rfl) (ixg_in hx73).1 (ixg_in hx73).2.1 hA77) ?_
    refine gx_v (.agg #[.int .i64 x72.1, .int .i64 x72.2.1, .int .u8 x72.2.2.1, .int .u8 x72.2.2.2]) w41 (run_loadNG (d := _) (ec := [.int .i64 x72.1, .int .i64 x72.2.1, .int .u8 x72.2.2.1, .int .u8 x72.2.2.2]) rfl (by kernel_rfl) (ha80 _ (rowG_lies (e := encitemiseRun) rfl (hS42.get 1 rfl))) rfl rfl (by kernel_rfl)) ?_
    refine gx_k (.agg #[.int .i64 2, .int .i64 3, .int .u8 1, .int .u8 3]) w41 ?_
    obtain ⟨b93, h94, hO47⟩ := bind_in hO47
    refine gx_v (.bool b93) w41 (run_eqS (l := [(.i64, x72.1), (.i64, x72.2.1), (.u8, x72.2.2.1), (.u8, x72.2.2.2)]) (m := [(.i64, 2), (.i64, 3), (.u8, 1), (.u8, 3)]) false rfl (by kernel_rfl) (by kernel_rfl) (by kernel_rfl) (by kernel_rfl) (by kernel_rfl) (by kernel_rfl) rfl (by kernel_rfl) h94) ?_
    refine gx_k (.bool b93) w41 (gx_k (.bool b93) w41 ?_)
    refine gx_nil ?_
    refine gx_thenN ?_
    refine hK30 _ _ ?_
    refine gx_ret ?_
    obtain rfl := Option.some.inj hO47
    exact gx_fin (.bool b93) (by kernel_rfl) (by kernel_rfl) ⟨_, rfl, rfl, (hS42.pick [] rfl rfl)⟩
   | false =>
    try dsimp only at hO47
    refine gx_o (gx_o (gx_o (gx_o (gx_o (gx_k (.bool false) w41 (gx_k (.bool false) w41 ?_))))))
    refine gx_nil ?_
    refine gx_thenN ?_
    refine hK30 _ _ ?_
    refine gx_ret ?_
    obtain rfl := Option.some.inj hO47
    exact gx_fin (.bool false) (by kernel_rfl) (by kernel_rfl) ⟨_, rfl, rfl, (hS42.pick [] rfl rfl)⟩
def kScripts_L1 (N : Nat) (p1 : ByteArray) (l13 : List Int) : Nat → Int → Option (Ctl (Unit) (Bool))
 | 0, _ => none
 | k38+1, x37 => (if x37 < ((l13.length : Nat) : Int) then ((ix l13 x37).bind fun x51 => ((ix (strL p1) x37).bind fun x53 => (if x51 ≠ (IntKind.u8.wrap (x53 - 48)) then some (Ctl.ret false) else kScripts_L1 N p1 l13 k38 (IntKind.i64.wrap (x37 + 1))))) else some (Ctl.go ()))
def kScripts (N : Nat) (p0 : ByteArray) (p1 : ByteArray) : Option (Bool) :=
 ((runesX p0).bind fun l5 => ((pScripts N l5).bind fun l13 => (if ((l13.length : Nat) : Int) ≠ ((p1.size : Nat) : Int) then some false else ((kScripts_L1 N p1 l13 N 0 : Option (Ctl (Unit) (Bool))).bind fun | Ctl.go () => some true | Ctl.ret r => some r))))
set_option linter.unusedVariables false in
def kScripts_R (r : Bool) (w0 : World) (v : Value) (w : World) : Prop := v = .bool r ∧ St [] w0 w []
set_option maxRecDepth 100000 in
set_option maxHeartbeats 4000000 in
theorem kScripts_ok (N : Nat) (p0 : ByteArray) (p1 : ByteArray)  (r : Bool) (hF : kScripts N p0 p1 = some r) (w0 : World) (hcd : MirB [] w0) :
  Calls Tryd.prog 15 #[.string p0, .string p1] w0 fun e w => ∃ v, e = .returned v ∧ kScripts_R r w0 v w := by
 have hS0 := St.start w0
 unfold kScripts at hF
 refine calls_of Tryd.func15 rfl ⟨((.string p0) :: (.string p1) :: un 28 ([])).toArray, []⟩ (by kernel_rfl) ?_
 refine gx_seq (fun K1 hK2 => ?_)
 refine gx_region ?_
 refine gx_k (.bool false) w0 ?_
 refine gx_nil ?_
 refine gx_thenN ?_
 refine hK2 _ _ ?_
 refine gx_seq (fun K3 hK4 => ?_)
 refine gx_region ?_
 refine gx_k (.string p0) w0 ?_
 obtain ⟨l5, hm6, hF⟩ := bind_in hF
 refine gx_r (st_runes (T := 21) (s := p0) rfl (by kernel_rfl) (by kernel_rfl) (by kernel_rfl) (by kernel_rfl) hS0 hm6) ?_
 rintro _ w7 ⟨A9, c10, rfl, hS8⟩
 have hS8 : St _ _ w7 [rowE .i32 21 A9 c10 l5] := hS8
 have hP11 : St _ _ w7 ([] ++ [rowE .i32 21 A9 c10 l5]) := hS8
 obtain ⟨l13, hc12, hF⟩ := bind_in hF
 try dsimp only at hF
 refine gx_c (pScripts_R l13 w7) (pScripts_ok N l5 A9 c10 _ hc12 w7 (hP11.vwB 0 rfl) (MirB.atL hcd hP11)) ?_
 rintro _ w16 ⟨A14, c15, rfl, hT18⟩
 have hS17 : St _ _ w16 [rowE .i32 21 A9 c10 l5, rowE .u8 5 A14 c15 l13] := hS8.take _ hT18
 refine gx_k (.slice A14 l13.length c15) w16 ?_
 refine gx_nil ?_
 refine gx_thenN ?_
 refine hK4 _ _ ?_
 refine gx_seq (fun K19 hK20 => ?_)
 refine gx_seq (fun K21 hK22 => ?_)
 refine gx_region ?_
 refine gx_k (.slice A14 l13.length c15) w16 (gx_k (.int .i64 ((l13.length : Nat) : Int)) w16 (gx_k (.string p1) w16 (gx_k (.int .i64 ((p1.size : Nat) : Int)) w16 ?_)))
 rcases if_in hF with ⟨h23, hF⟩ | ⟨h23, hF⟩
 ·refine gx_v (.bool true) w16 (run_boolE (ne_yes h23) (by kernel_rfl)) ?_
  refine gx_nil ?_
  refine gx_thenN ?_
  refine hK22 _ _ ?_
  refine gx_yes (by kernel_rfl) ?_
  refine gx_seq (fun K24 hK25 => ?_)
  refine gx_region ?_
  refine gx_k (.bool false) w16 ?_
  refine gx_nil ?_
  refine gx_thenN ?_
  refine hK25 _ _ ?_
  refine gx_ret ?_
  refine gx_thenR ?_
  obtain rfl := Option.some.inj hF
  exact gx_fin (.bool false) (by kernel_rfl) (by kernel_rfl) ⟨_, rfl, rfl, (hS17.pick [] rfl rfl)⟩
 ·refine gx_v (.bool false) w16 (run_boolE (ne_no h23) (by kernel_rfl)) ?_
  refine gx_nil ?_
  refine gx_thenN ?_
  refine hK22 _ _ ?_
  refine gx_no (by kernel_rfl) ?_
  refine gx_pass ?_
  refine gx_thenN ?_
  refine hK20 _ _ ?_
  obtain ⟨c29, hE30, hO31⟩ := bind_in hF
  refine gx_cut (fun a w => selfA (fun u28 => ⟨((.string p0) :: (.string p1) :: undef :: undef :: dd u28 4 3 ((.string p0) :: dd u28 8 3 ((.int .i64 ((l13.length : Nat) : Int)) :: (.string p1) :: (.int .i64 ((p1.size : Nat) : Int)) :: (.bool false) :: dd u28 15 15 ([])))).toArray, []⟩) a ∧ Ctl.go () = c29 ∧ St [] w0 w []) ?_ ?_
  ·refine gx_seq (fun K32 hK33 => ?_)
   refine gx_region ?_
   refine gx_k (.int .i64 0) w16 ?_
   refine gx_nil ?_
   refine gx_thenN ?_
   refine hK33 _ _ ?_
   refine gx_block ?_
   refine gx_loop (fun k a w => ∃ (x37 : Int), selfA (fun u36 => ⟨((.string p0) :: (.string p1) :: undef :: undef :: (u36 4) :: (.slice A14 l13.length c15) :: (.int .i64 x37) :: (.string p0) :: dd u36 8 3 ((.int .i64 ((l13.length : Nat) : Int)) :: (.string p1) :: (.int .i64 ((p1.size : Nat) : Int)) :: (.bool false) :: dd u36 15 15 ([]))).toArray, []⟩) a ∧ kScripts_L1 N p1 l13 k x37 = some c29 ∧ St [] w0 w [rowE .u8 5 A14 c15 l13]) N ?_ ?_
   ·exact ⟨0, selfA_i (by kernel_rfl), hE30, (hS17.pick [1] rfl rfl)⟩
   ·rintro k38 _ w34 ⟨x37, hq58, hL39, hS35⟩
    obtain ⟨u36, rfl⟩ := selfA_u hq58
    cases k38 with
    | zero => cases hL39
    | succ k38 =>
     first | rw [kScripts_L1] at hL39 | unfold kScripts_L1 at hL39
     refine gx_seq (fun K40 hK41 => ?_)
     refine gx_seq (fun K42 hK43 => ?_)
     refine gx_region ?_
     refine gx_k (.int .i64 x37) w34 (gx_k (.slice A14 l13.length c15) w34 (gx_k (.int .i64 ((l13.length : Nat) : Int)) w34 ?_))
     rcases if_in hL39 with ⟨h44, hL39⟩ | ⟨h44, hL39⟩
     ·refine gx_v (.bool true) w34 (run_boolE (decide_eq_true h44) (by kernel_rfl)) ?_
      refine gx_nil ?_
      refine gx_thenN ?_
      refine hK43 _ _ ?_
      refine gx_yes (by kernel_rfl) ?_
      refine gx_pass ?_
      refine gx_thenN ?_
      refine hK41 _ _ ?_
      refine gx_seq (fun K45 hK46 => ?_)
      refine gx_block ?_
      refine gx_seq (fun K47 hK48 => ?_)
      refine gd_start (fun w => St [] w0 w [rowE .u8 5 A14 c15 l13]) 9 #[false, false, false, false, false, false, false, false, false] (by kernel_rfl) (by kernel_rfl) ?_
      have hS50 := hS35.drew
      generalize w34.drew = w49 at hS50 ⊢
      refine gv1 0 21 (.slice A14 l13.length c15) rfl hS50 ?_
      refine gv1 1 22 (.int .i64 x37) rfl hS50 ?_
      obtain ⟨x51, hx52, hL39⟩ := bind_in hL39
      refine gu1 2 23 (.pointer (Option.map (fun (p : Addr) => p.add (Int.toNat x37 * 1)) A14)) rfl hS50 (fun w hSw => run_ixaddr (E := 5) (s := 1) (k := .i64) (c := c15) rfl (by kernel_rfl) (by kernel_rfl) (by kernel_rfl) (fun _ => by kernel_rfl) (ix_in hx52).1 (ix_in hx52).2.1 (num_nil (hS50.row 0 rfl).1)) ?_
      refine gu1 3 24 (.int .u8 x51) rfl hS50 (fun w hSw => run_loadix rfl (by kernel_rfl) (fun _ => by kernel_rfl) (hSw.row 0 rfl).1 hx52) ?_
      refine gv1 4 25 (.string p1) rfl hS50 ?_
      refine gv1 5 26 (.int .i64 x37) rfl hS50 ?_
      obtain ⟨x53, hx54, hL39⟩ := bind_in hL39
      refine gu1 6 27 (.int .u8 x53) rfl hS50 (fun w hSw => run_strix (k := .i64) rfl (by kernel_rfl) (by kernel_rfl) (by kernel_rfl) hx54) ?_
      refine gv1 7 28 (.int .u8 (IntKind.u8.wrap (x53 - 48))) rfl hS50 ?_
      rcases if_in hL39 with ⟨h55, hL39⟩ | ⟨h55, hL39⟩
      ·refine gu1 8 29 (.bool true) rfl hS50 (fun w hSw => run_boolE (ne_yes h55) (by kernel_rfl)) ?_
       refine gd_done (by kernel_rfl) ?_
       refine gx_thenN ?_
       refine hK48 _ _ ?_
       refine gx_yes (by kernel_rfl) ?_
       refine gx_seq (fun K56 hK57 => ?_)
       refine gx_region ?_
       refine gx_k (.bool false) w49 ?_
       refine gx_nil ?_
       refine gx_thenN ?_
       refine hK57 _ _ ?_
       refine gx_ret ?_
       refine gx_blkR ?_
       refine gx_thenR ?_
       refine gx_thenR ?_
       refine gx_blkR ?_
       refine gx_thenR ?_
       obtain rfl := Option.some.inj hL39
       try dsimp only at hO31
       obtain rfl := Option.some.inj hO31
       exact gx_fin (.bool false) (by kernel_rfl) (by kernel_rfl) ⟨_, rfl, rfl, (hS50.pick [] rfl rfl)⟩
      ·refine gu1 8 29 (.bool false) rfl hS50 (fun w hSw => run_boolE (ne_no h55) (by kernel_rfl)) ?_
       refine gd_done (by kernel_rfl) ?_
       refine gx_thenN ?_
       refine hK48 _ _ ?_
       refine gx_no (by kernel_rfl) ?_
       refine gx_pass ?_
       refine gx_blkN ?_
       refine gx_thenN ?_
       refine hK46 _ _ ?_
       refine gx_region ?_
       refine gx_k (.int .i64 x37) w49 (gx_k (.int .i64 (IntKind.i64.wrap (x37 + 1))) w49 (gx_k (.int .i64 (IntKind.i64.wrap (x37 + 1))) w49 ?_))
       refine gx_nil ?_
       refine gx_thenN ?_
       exact ⟨k38, Nat.lt_succ_self k38, (IntKind.i64.wrap (x37 + 1)), selfA_i (by kernel_rfl), hL39, hS50⟩
     ·refine gx_v (.bool false) w34 (run_boolE (decide_eq_false h44) (by kernel_rfl)) ?_
      refine gx_nil ?_
      refine gx_thenN ?_
      refine hK43 _ _ ?_
      refine gx_no (by kernel_rfl) ?_
      refine gx_exit ?_
      refine gx_thenE ?_
      refine gx_thenE ?_
      refine gx_blkE ?_
      refine gx_thenN ?_
      exact ⟨selfA_i (by kernel_rfl), (Option.some.inj hL39), (hS35.pick [] rfl rfl)⟩
  ·rintro _ w26 ⟨hq61, rfl, hS27⟩
   obtain ⟨u28, rfl⟩ := selfA_u hq61
   try dsimp only at hO31
   refine gx_seq (fun K59 hK60 => ?_)
   refine gx_region ?_
   refine gx_k (.bool true) w26 ?_
   refine gx_nil ?_
   refine gx_thenN ?_
   refine hK60 _ _ ?_
   refine gx_ret ?_
   obtain rfl := Option.some.inj hO31
   exact gx_fin (.bool true) (by kernel_rfl) (by kernel_rfl) ⟨_, rfl, rfl, hS27⟩
end Go.Proofs.YtkcmemldhbifdaaDoor

/-
  Joined.
-/
import Derived.Test.YtdbimchiecdkoaaGreatBk
namespace Go.Proofs.YtdbimchiecdkoaaGreat
open Go Go.RowKit
set_option maxRecDepth 100000
set_option maxHeartbeats 4000000
set_option linter.unusedVariables false
def enccalamusref13Unit : Enc (Int × Int × Int × Bool × Bool) := (pairE (intE .i64) (pairE (intE .i32) (pairE (intE .i64) (pairE boolE boolE))))
def rIn_L1 (N : Nat) (p0 : Int) (p1 : List Int) : Nat → Int → Option (Ctl (Unit) (Bool))
 | 0, _ => none
 | k15+1, x14 => (if x14 < ((p1.length : Nat) : Int) then ((ix p1 x14).bind fun x26 => (if x26 = p0 then some (Ctl.ret true) else rIn_L1 N p0 p1 k15 (IntKind.i64.wrap (x14 + 1)))) else some (Ctl.go ()))
def rIn (N : Nat) (p0 : Int) (p1 : List Int) : Option (Bool) :=
 ((rIn_L1 N p0 p1 N 0 : Option (Ctl (Unit) (Bool))).bind fun | Ctl.go () => some false | Ctl.ret r => some r)
def rIn_R (r : Bool) (w0 : World) (v : Value) (w : World) : Prop := v = .bool r ∧ St [] w0 w []
theorem rIn_ok (N : Nat) (p0 : Int) (p1 : List Int) (A1 : Option Addr) (c1 : Nat) (r : Bool) (hF : rIn N p0 p1 = some r) (w0 : World) (hv1 : Vw [] .i64 w0 A1 c1 p1) :
  Calls Tryz.prog 68 #[.int .i64 p0, .slice A1 p1.length c1] w0 fun e w => ∃ v, e = .returned v ∧ rIn_R r w0 v w := by
 have hS0 := St.start w0
 unfold rIn at hF
 refine calls_of Tryz.func68 rfl ⟨((i6 p0) :: (.slice A1 p1.length c1) :: un 16 ([])).toArray, []⟩ (by kernel_rfl) (gx_seq (fun K1 hK2 => gx_region (gx_k (.bool false) w0 (gx_nil (gx_thenN (hK2 _ _ ?_))))))
 obtain ⟨c6, hE7, hO8⟩ := bind_in hF
 refine gx_cut (fun a w => selfA (fun u5 => ⟨((i6 p0) :: (u5 1) :: undef :: undef :: dd u5 4 14 ([])).toArray, []⟩) a ∧ Ctl.go () = c6 ∧ St [] w0 w []) ?_ ?_
 refine gx_seq (fun K9 hK10 => gx_region (gx_k (i6 0) w0 (gx_nil (gx_thenN (hK10 _ _ (gx_block (gx_loop (fun k a w => ∃ (x14 : Int), selfA (fun u13 => ⟨((i6 p0) :: (.slice A1 p1.length c1) :: undef :: undef :: (u13 4) :: (i6 x14) :: dd u13 6 12 ([])).toArray, []⟩) a ∧ rIn_L1 N p0 p1 k x14 = some c6 ∧ St [] w0 w []) N ?_ ?_)))))))
 exact ⟨0, selfA_i (by kernel_rfl), hE7, hS0⟩
 rintro k15 _ w11 ⟨x14, hq31, hL16, hS12⟩
 obtain ⟨u13, rfl⟩ := selfA_u hq31
 rcases k15 with _ | k15
 cases hL16
 first | rw [rIn_L1] at hL16 | unfold rIn_L1 at hL16
 refine gx_seq (fun K17 hK18 => gx_seq (fun K19 hK20 => gx_region (gx_k (i6 x14) w11 (gx_k (.slice A1 p1.length c1) w11 (gx_k (i6 ((p1.length : Nat) : Int)) w11 ?_)))))
 rcases if_in hL16 with ⟨h21, hL16⟩ | ⟨h21, hL16⟩
 refine gx_v (.bool true) w11 (rbE (decide_eq_true h21)) (gx_nil (gx_thenN (hK20 _ _ (gx_yes (by kernel_rfl) (gx_pass (gx_thenN (hK18 _ _ ?_)))))))
 refine gx_seq (fun K22 hK23 => gx_block (gx_seq (fun K24 hK25 => gx_region (gx_k (.slice A1 p1.length c1) w11 (gx_k (i6 x14) w11 ?_)))))
 obtain ⟨x26, hx27, hL16⟩ := bind_in hL16
 refine gx_v (pI x14 A1) w11 (rix 3 .i64 hx27 ((hS12.view hv1))) (gx_v (i6 x26) w11 (rlx (hS12.view hv1) hx27) (gx_k (i6 p0) w11 ?_))
 rcases if_in hL16 with ⟨h28, hL16⟩ | ⟨h28, hL16⟩
 refine gx_v (.bool true) w11 (rbE (decide_eq_true h28)) (gx_nil (gx_thenN (hK25 _ _ (gx_yes (by kernel_rfl) (gx_seq (fun K29 hK30 => gx_region (gx_k (.bool true) w11 ?_)))))))
 refine gx_nil (gx_thenN (hK30 _ _ (gx_ret (gx_blkR (gx_thenR (gx_thenR (gx_blkR ?_)))))))
 refine gx_thenR ?_
 obtain rfl := sj hL16
 try dsimp only at hO8
 obtain rfl := sj hO8
 exact gxF (.bool true) ⟨_, rfl, rfl, hS12⟩
 refine gx_v (.bool false) w11 (rbE (decide_eq_false h28)) (gx_nil (gx_thenN (hK25 _ _ (gx_no (by kernel_rfl) (gx_pass (gx_blkN (gx_thenN ?_)))))))
 refine hK23 _ _ (gx_region (gx_k (i6 x14) w11 (gx_k (i6 (iw (x14 + 1))) w11 (gx_k (i6 (iw (x14 + 1))) w11 (gx_nil (gx_thenN ?_))))))
 exact ⟨k15, Nat.lt_succ_self k15, (iw (x14 + 1)), selfA_i (by kernel_rfl), hL16, hS12⟩
 refine gx_v (.bool false) w11 (rbE (decide_eq_false h21)) (gx_nil (gx_thenN (hK20 _ _ (gx_no (by kernel_rfl) (gx_exit (gx_thenE (gx_thenE ?_)))))))
 refine gx_blkE (gx_thenN ?_)
 exact ⟨selfA_i (by kernel_rfl), (sj hL16), hS12⟩
 rintro _ w3 ⟨hq34, rfl, hS4⟩
 obtain ⟨u5, rfl⟩ := selfA_u hq34
 try dsimp only at hO8
 refine gx_seq (fun K32 hK33 => gx_region (gx_k (.bool false) w3 (gx_nil (gx_thenN (hK33 _ _ (gx_ret ?_))))))
 obtain rfl := sj hO8
 exact gxF (.bool false) ⟨_, rfl, rfl, hS4⟩
def rUnits_L1 (N : Nat) (p0 : List Int) : Nat → (List (Int × Int × Int × Bool × Bool)) → Int → Option (List (Int × Int × Int × Bool × Bool))
 | 0, _, _ => none
 | k29+1, l27, x28 => (if x28 < ((p0.length : Nat) : Int) then ((ix p0 x28).bind fun x40 => ((rfBk N x40).bind fun x44 => (((if (IntKind.i64.wrap x44) = 9 then some (true) else (if (IntKind.i64.wrap x44) = 10 then some (true) else some (false))) : Option (Bool)).bind fun b53 => (((((match b53 with | true => (if ((l27.length : Nat) : Int) > 0 then some (true) else some (false)) | false => some (false)) : Option (Bool)).bind fun b71 => (match b71 with | true => ((ixg l27 (IntKind.i64.wrap (((l27.length : Nat) : Int) - 1))).bind fun x77 => ((rIn N x77.1 ([1, 2, 3, 4, 5, 6])).bind fun b106 => (match b106 with | true => some (false) | false => some (true)))) | false => some (false))) : Option (Bool)).bind fun b64 => (match b64 with | true => ((ixg l27 (IntKind.i64.wrap (((l27.length : Nat) : Int) - 1))).bind fun x112 => ((ixg l27 (IntKind.i64.wrap (((l27.length : Nat) : Int) - 1))).bind fun _x151 => ((setg l27 (IntKind.i64.wrap (((l27.length : Nat) : Int) - 1)) (x112.1, x112.2.1, (IntKind.i64.wrap (x112.2.2.1 + 1)), (decide ((IntKind.i64.wrap x44) = 10)), x112.2.2.2.2)).bind fun l176 => rUnits_L1 N p0 k29 l176 (IntKind.i64.wrap (x28 + 1))))) | false => ((ix p0 x28).bind fun xz13_184o3_1 => ((ix p0 x28).bind fun xz13_184o9_1 => ((rfWd N xz13_184o9_1).bind fun bz13_184o11_3 => (match b53 with | true => ((apg l27 ([(0, xz13_184o3_1, 1, (decide ((IntKind.i64.wrap x44) = 10)), bz13_184o11_3)] : List (Int × Int × Int × Bool × Bool))).bind fun l199 => rUnits_L1 N p0 k29 l199 (IntKind.i64.wrap (x28 + 1))) | false => ((apg l27 ([((IntKind.i64.wrap x44), xz13_184o3_1, 1, (decide ((IntKind.i64.wrap x44) = 10)), bz13_184o11_3)] : List (Int × Int × Int × Bool × Bool))).bind fun l210 => rUnits_L1 N p0 k29 l210 (IntKind.i64.wrap (x28 + 1)))))))))))) else some (l27))
def rUnits (N : Nat) (p0 : List Int) : Option (List (Int × Int × Int × Bool × Bool)) :=
 ((rUnits_L1 N p0 N ([] : List (Int × Int × Int × Bool × Bool)) 0 : Option (List (Int × Int × Int × Bool × Bool))).bind fun l12 => some l12)
def rUnits_R (r : List (Int × Int × Int × Bool × Bool)) (w0 : World) (v : Value) (w : World) : Prop := ∃ (A0' : Option Addr) (c0' : Nat) (vs0' : List Value) (ft' : List Nat), v = .slice A0' r.length c0' ∧ St [] w0 w [rowG 49 5 (.slice A0' r.length c0') r.length vs0', poolE ft' w] ∧ (fEach enccalamusref13Unit vs0' r).rd w ft'
theorem rUnits_ok (N : Nat) (p0 : List Int) (A0 : Option Addr) (c0 : Nat) (r : List (Int × Int × Int × Bool × Bool)) (hF : rUnits N p0 = some r) (w0 : World) (hv0 : Vw [] .i32 w0 A0 c0 p0) :
  Calls Tryz.prog 16 #[.slice A0 p0.length c0] w0 fun e w => ∃ v, e = .returned v ∧ rUnits_R r w0 v w := by
 have hS0 := (St.start w0).pool0
 unfold rUnits at hF
 refine calls_of Tryz.func16 rfl ⟨((.slice A0 p0.length c0) :: un 82 ([])).toArray, []⟩ (by kernel_rfl) (gx_seq (fun K1 hK2 => gx_region (gx_k (nS) w0 (gx_nil (gx_thenN (hK2 _ _ (gx_seq (fun K3 hK4 => ?_))))))))
 refine gx_region (gx_k (nS) w0 (gx_nil (gx_thenN (hK4 _ _ ?_))))
 obtain ⟨c13, hE14, hO15⟩ := bind_in hF
 refine gx_cut (fun a w => ∃ (l12 : List (Int × Int × Int × Bool × Bool)) (A8 : Option Addr) (c9 : Nat) (vs10 : List Value), selfA (fun u7 => ⟨((u7 0) :: undef :: (nS) :: (.slice A8 l12.length c9) :: dd u7 4 78 (undef :: [])).toArray, []⟩) a ∧ l12 = c13 ∧ St [] w0 w [poolE ([]) w0, rowG 49 5 (.slice A8 l12.length c9) l12.length vs10] ∧ (fEach enccalamusref13Unit vs10 l12).rd w0 ([])) ?_ ?_
 refine gx_seq (fun K16 hK17 => gx_region (gx_k (i6 0) w0 (gx_nil (gx_thenN (hK17 _ _ (gx_block ?_))))))
 have hS18 : St _ _ w0 [poolE ([]) w0, rowG 49 5 (.slice none (([] : List (Int × Int × Int × Bool × Bool)).length) 0) (([] : List (Int × Int × Int × Bool × Bool)).length) ([])] := hS0.nilrowN 49 5
 have hf19 : (fEach enccalamusref13Unit [] []).rd w0 ([]) := each_nil
 refine gx_loop (fun k a w => ∃ (l27 : List (Int × Int × Int × Bool × Bool)) (x28 : Int) (A23 : Option Addr) (c24 : Nat) (vs25 : List Value), selfA (fun u22 => ⟨((.slice A0 p0.length c0) :: undef :: (nS) :: (.slice A23 l27.length c24) :: (i6 x28) :: dd u22 5 77 (undef :: [])).toArray, []⟩) a ∧ rUnits_L1 N p0 k l27 x28 = some c13 ∧ St [] w0 w [poolE ([]) w0, rowG 49 5 (.slice A23 l27.length c24) l27.length vs25] ∧ (fEach enccalamusref13Unit vs25 l27).rd w0 ([])) N ?_ ?_
 exact ⟨([] : List (Int × Int × Int × Bool × Bool)), 0, none, 0, ([]), selfA_i (by kernel_rfl), hE14, hS18, hf19⟩
 rintro k29 _ w20 ⟨l27, x28, A23, c24, vs25, hq221, hL30, hS21, hf26⟩
 obtain ⟨u22, rfl⟩ := selfA_u hq221
 rcases k29 with _ | k29
 cases hL30
 first | rw [rUnits_L1] at hL30 | unfold rUnits_L1 at hL30
 refine gx_seq (fun K31 hK32 => gx_seq (fun K33 hK34 => gx_region (gx_k (i6 x28) w20 (gx_k (.slice A0 p0.length c0) w20 (gx_k (i6 ((p0.length : Nat) : Int)) w20 ?_)))))
 rcases if_in hL30 with ⟨h35, hL30⟩ | ⟨h35, hL30⟩
 refine gx_v (.bool true) w20 (rbE (decide_eq_true h35)) (gx_nil (gx_thenN (hK34 _ _ (gx_yes (by kernel_rfl) (gx_pass (gx_thenN (hK32 _ _ ?_)))))))
 refine gx_seq (fun K36 hK37 => gx_block (gx_seq (fun K38 hK39 => gx_region (gx_k (.slice A0 p0.length c0) w20 (gx_k (i6 x28) w20 ?_)))))
 obtain ⟨x40, hx41, hL30⟩ := bind_in hL30
 refine gx_v (pI x28 A0) w20 (rix 21 .i64 hx41 ((hS21.view hv0))) (gx_v (.int .i32 x40) w20 (rlx (hS21.view hv0) hx41) ?_)
 have hP42 : St _ _ w20 ([] ++ [poolE ([]) w0, rowG 49 5 (.slice A23 l27.length c24) l27.length vs25]) := hS21
 obtain ⟨x44, hc43, hL30⟩ := bind_in hL30
 try dsimp only at hL30
 refine gx_c _ (rfBk_ok N x40 _ hc43 w20 ) ?_
 rintro _ w45 ⟨rfl, hT47⟩
 have hS46 : St _ _ w45 [poolE ([]) w0, rowG 49 5 (.slice A23 l27.length c24) l27.length vs25] := hS21.take _ hT47
 refine gx_k (i6 (iw x44)) w45 (gx_k (i6 (iw x44)) w45 (gx_nil (gx_thenN (hK39 _ _ (gx_seq (fun K48 hK49 => gx_region (gx_k (.slice A23 l27.length c24) w45 (gx_k (i6 ((l27.length : Nat) : Int)) w45 (gx_k (i6 ((l27.length : Nat) : Int)) w45 (gx_nil ?_))))))))))
 refine gx_thenN (hK49 _ _ ?_)
 obtain ⟨c54, hE55, hO56⟩ := bind_in hL30
 refine gx_cut (fun a w => ∃ (b53 : Bool), selfA (fun u52 => ⟨((.slice A0 p0.length c0) :: undef :: (nS) :: (.slice A23 l27.length c24) :: (i6 x28) :: (i6 (iw x44)) :: (i6 ((l27.length : Nat) : Int)) :: (.bool b53) :: dd u22 8 2 ((i6 x28) :: (u52 11) :: (i6 ((p0.length : Nat) : Int)) :: (.bool true) :: dd u22 14 2 ((u52 16) :: (i6 x28) :: (pI x28 A0) :: (.int .i32 x40) :: (.int .u8 x44) :: (i6 (iw x44)) :: (u52 22) :: (i6 ((l27.length : Nat) : Int)) :: dd u52 24 6 (dd u22 30 52 (undef :: []))))).toArray, []⟩) a ∧ b53 = c54 ∧ St [] w0 w [poolE ([]) w0, rowG 49 5 (.slice A23 l27.length c24) l27.length vs25]) ?_ ?_
 refine gx_region (gx_k (i6 (iw x44)) w45 ?_)
 rcases if_in hE55 with ⟨h57, hE55⟩ | ⟨h57, hE55⟩
 refine gx_v (.bool true) w45 (rbE (decide_eq_true h57)) (gx_k (.bool true) w45 (gx_o (gx_o (gx_k (.bool true) w45 (gx_k (.bool true) w45 (gx_nil (gx_thenN ?_)))))))
 exact ⟨true, selfA_i (by kernel_rfl), (sj hE55), hS46⟩
 refine gx_v (.bool false) w45 (rbE (decide_eq_false h57)) (gx_k (.bool false) w45 (gx_k (i6 (iw x44)) w45 ?_))
 rcases if_in hE55 with ⟨h58, hE55⟩ | ⟨h58, hE55⟩
 refine gx_v (.bool true) w45 (rbE (decide_eq_true h58)) (gx_k (.bool true) w45 (gx_k (.bool true) w45 (gx_nil (gx_thenN ?_))))
 exact ⟨true, selfA_i (by kernel_rfl), (sj hE55), hS46⟩
 refine gx_v (.bool false) w45 (rbE (decide_eq_false h58)) (gx_k (.bool false) w45 (gx_k (.bool false) w45 (gx_nil (gx_thenN ?_))))
 exact ⟨false, selfA_i (by kernel_rfl), (sj hE55), hS46⟩
 rintro _ w50 ⟨b53, hq220, rfl, hS51⟩
 obtain ⟨u52, rfl⟩ := selfA_u hq220
 try dsimp only at hO56
 refine gx_seq (fun K59 hK60 => ?_)
 obtain ⟨c65, hE66, hO67⟩ := bind_in hO56
 refine gx_cut (fun a w => ∃ (b64 : Bool), selfA (fun u63 => ⟨((.slice A0 p0.length c0) :: undef :: (nS) :: (.slice A23 l27.length c24) :: (i6 x28) :: (i6 (iw x44)) :: (i6 ((l27.length : Nat) : Int)) :: (.bool b53) :: dd u22 8 2 ((i6 x28) :: (u52 11) :: (i6 ((p0.length : Nat) : Int)) :: (.bool true) :: dd u22 14 2 ((u52 16) :: (i6 x28) :: (pI x28 A0) :: (.int .i32 x40) :: (.int .u8 x44) :: (i6 (iw x44)) :: (u52 22) :: (i6 ((l27.length : Nat) : Int)) :: dd u52 24 6 (dd u63 30 15 ((.bool b64) :: dd u22 46 36 (undef :: [])))))).toArray, []⟩) a ∧ b64 = c65 ∧ St [] w0 w [poolE ([]) w0, rowG 49 5 (.slice A23 l27.length c24) l27.length vs25]) ?_ ?_
 refine gx_region ?_
 obtain ⟨c72, hE73, hO74⟩ := bind_in hE66
 refine gx_part (l1 := [_, _, _, _, _]) (fun a w => ∃ (b71 : Bool), selfA (fun u70 => ⟨((.slice A0 p0.length c0) :: undef :: (nS) :: (.slice A23 l27.length c24) :: (i6 x28) :: (i6 (iw x44)) :: (i6 ((l27.length : Nat) : Int)) :: (.bool b53) :: dd u22 8 2 ((i6 x28) :: (u52 11) :: (i6 ((p0.length : Nat) : Int)) :: (.bool true) :: dd u22 14 2 ((u52 16) :: (i6 x28) :: (pI x28 A0) :: (.int .i32 x40) :: (.int .u8 x44) :: (i6 (iw x44)) :: (u52 22) :: (i6 ((l27.length : Nat) : Int)) :: dd u52 24 6 (dd u70 30 4 ((.bool b71) :: dd u22 35 47 (undef :: [])))))).toArray, []⟩) a ∧ b71 = c72 ∧ St [] w0 w [poolE ([]) w0, rowG 49 5 (.slice A23 l27.length c24) l27.length vs25]) rfl ?_ ?_
 refine gx_k (.bool b53) w50 (gx_k (.bool b53) w50 ?_)
 rcases b53 with _ | _
 try dsimp only at hE73
 refine gx_o (gx_o (gx_k (.bool false) w50 (gx_nil (gx_thenN ?_))))
 exact ⟨false, selfA_i (by kernel_rfl), (sj hE73), hS51⟩
 try dsimp only at hE73
 refine gx_k (i6 ((l27.length : Nat) : Int)) w50 ?_
 rcases if_in hE73 with ⟨h76, hE73⟩ | ⟨h76, hE73⟩
 refine gx_v (.bool true) w50 (rbE (decide_eq_true h76)) (gx_k (.bool true) w50 (gx_nil (gx_thenN ?_)))
 exact ⟨true, selfA_i (by kernel_rfl), (sj hE73), hS51⟩
 refine gx_v (.bool false) w50 (rbE (decide_eq_false h76)) (gx_k (.bool false) w50 (gx_nil (gx_thenN ?_)))
 exact ⟨false, selfA_i (by kernel_rfl), (sj hE73), hS51⟩
 rintro _ w68 ⟨b71, hq75, rfl, hS69⟩
 obtain ⟨u70, rfl⟩ := selfA_u hq75
 try dsimp only at hO74
 refine gx_k (.bool b71) w68 ?_
 rcases b71 with _ | _
 try dsimp only at hO74
 refine gx_o (gx_o (gx_o (gx_o (gx_o (gx_o (gx_o (gx_o (gx_o (gx_k (.bool false) w68 (gx_nil (gx_thenN ?_)))))))))))
 exact ⟨false, selfA_i (by kernel_rfl), (sj hO74), hS69⟩
 try dsimp only at hO74
 refine gx_k (.slice A23 l27.length c24) w68 (gx_k (i6 ((l27.length : Nat) : Int)) w68 (gx_k (i6 (iw (((l27.length : Nat) : Int) - 1))) w68 ?_))
 obtain ⟨x77, hx78, hO74⟩ := bind_in hO74
 obtain ⟨g79, o80, e81, hA82, he83, h84, ha85⟩ := elem_at (e := enccalamusref13Unit) (rowG_lies (e := enccalamusref13Unit) rfl (hS69.get 1 rfl)) hf26 hx78 (by decide)
 obtain ⟨e86, e87, rfl, h88, h89⟩ := h84
 obtain rfl := h88
 obtain ⟨e90, e91, rfl, h92, h93⟩ := h89
 obtain rfl := h92
 obtain ⟨e94, e95, rfl, h96, h97⟩ := h93
 obtain rfl := h96
 obtain ⟨e98, e99, rfl, h100, h101⟩ := h97
 obtain rfl := h100
 obtain rfl := h101
 have ha85 : ∀ w', Lies w' A23 vs25 → w'.rangeAt g79 o80 [i6 x77.1, .int .i32 x77.2.1, i6 x77.2.2.1, .bool x77.2.2.2.1, .bool x77.2.2.2.2] := ha85
 refine gx_v (.pointer (some ⟨g79, o80, none⟩)) w68 (run_ixaddrN (E := 49) (s := 5) (k := .i64) (c := c24) rfl (by kernel_rfl) (by kernel_rfl) (by kernel_rfl) (fun _ => by kernel_rfl) (ixg_in hx78).1 (ixg_in hx78).2.1 hA82) (gx_k (.pointer (some ⟨g79, o80, none⟩)) w68 (gx_v (i6 x77.1) w68 (run_loadN1 0 rfl (by kernel_rfl) (fun _ => by kernel_rfl) (ha85 _ (rowG_lies (e := enccalamusref13Unit) rfl (hS69.get 1 rfl))) rfl) (gx_r (st_made .i64 3 [1, 2, 3, 4, 5, 6] hS69 (by show 6 ≤ 1000000000; decide) (by kernel_rfl)) ?_)))
 rintro _ w102 ⟨rfl, hS103⟩
 have hS103 : St _ _ w102 [poolE ([]) w0, rowG 49 5 (.slice A23 l27.length c24) l27.length vs25, rowE .i64 3 (some ⟨w68.heap.size, 0, none⟩) 6 ([1, 2, 3, 4, 5, 6])] := hS103
 have hP104 : St _ _ w102 ([] ++ [poolE ([]) w0, rowG 49 5 (.slice A23 l27.length c24) l27.length vs25, rowE .i64 3 (some ⟨w68.heap.size, 0, none⟩) 6 ([1, 2, 3, 4, 5, 6])]) := hS103
 obtain ⟨b106, hc105, hO74⟩ := bind_in hO74
 try dsimp only at hO74
 refine gx_c _ (rIn_ok N x77.1 ([1, 2, 3, 4, 5, 6]) (some ⟨w68.heap.size, 0, none⟩) 6 _ hc105 w102 (hP104.vwB 2 rfl)) ?_
 rintro _ w107 ⟨rfl, hT109⟩
 have hS108 : St _ _ w107 [poolE ([]) w0, rowG 49 5 (.slice A23 l27.length c24) l27.length vs25, rowE .i64 3 (some ⟨w68.heap.size, 0, none⟩) 6 ([1, 2, 3, 4, 5, 6])] := hS103.take _ hT109
 rcases b106 with _ | _
 try dsimp only at hO74
 refine gx_k (.bool true) w107 (gx_k (.bool true) w107 (gx_nil (gx_thenN ?_)))
 exact ⟨true, selfA_i (by kernel_rfl), (sj hO74), (hS108.pick [0, 1] rfl rfl)⟩
 try dsimp only at hO74
 refine gx_k (.bool false) w107 (gx_k (.bool false) w107 (gx_nil (gx_thenN ?_)))
 exact ⟨false, selfA_i (by kernel_rfl), (sj hO74), (hS108.pick [0, 1] rfl rfl)⟩
 rintro _ w61 ⟨b64, hq219, rfl, hS62⟩
 obtain ⟨u63, rfl⟩ := selfA_u hq219
 try dsimp only at hO67
 rcases b64 with _ | _
 try dsimp only at hO67
 refine gx_no (by kernel_rfl) (gx_pass (gx_thenN (hK60 _ _ (gx_seq (fun K183 hK184 => gdst (fun w => St [] w0 w [poolE ([]) w0, rowG 49 5 (.slice A23 l27.length c24) l27.length vs25]) 15 ?_)))))
 have hS187 := hS62.drew
 generalize w61.drew = w186 at hS187 ⊢
 obtain ⟨xz13_184o3_1, hxz13_184o3_2, hO67⟩ := bind_in hO67
 obtain ⟨xz13_184o9_1, hxz13_184o9_2, hO67⟩ := bind_in hO67
 obtain ⟨bz13_184o11_3, hcz13_184o11_2, hO67⟩ := bind_in hO67
 try dsimp only at hO67
 refine gd_share (X := Nat) (fun gz13_184B0 => ⟨((.slice A0 p0.length c0) :: undef :: (nS) :: (.slice A23 l27.length c24) :: (i6 x28) :: (i6 (iw x44)) :: (i6 ((l27.length : Nat) : Int)) :: (.bool b53) :: (u22 8) :: (vP gz13_184B0) :: (i6 x28) :: (u52 11) :: (i6 ((p0.length : Nat) : Int)) :: (.bool true) :: dd u22 14 2 ((u52 16) :: (i6 x28) :: (pI x28 A0) :: (.int .i32 x40) :: (.int .u8 x44) :: (i6 (iw x44)) :: (u52 22) :: (i6 ((l27.length : Nat) : Int)) :: dd u52 24 6 (dd u63 30 15 ((.bool false) :: dd u22 46 17 ((i6 (iw x44)) :: (.slice A0 p0.length c0) :: (i6 x28) :: (pI x28 A0) :: (.int .i32 xz13_184o3_1) :: (i6 (iw x44)) :: (.bool (decide ((iw x44) = 10))) :: (.slice A0 p0.length c0) :: (i6 x28) :: (pI x28 A0) :: (.int .i32 xz13_184o9_1) :: (.bool bz13_184o11_3) :: (.agg #[i6 (iw x44), .int .i32 xz13_184o3_1, i6 1, .bool (decide ((iw x44) = 10)), .bool bz13_184o11_3]) :: dd u22 76 6 (undef :: [])))))).toArray, []⟩) (fun gz13_184B0 w => St [] w0 w [poolE ([]) w0, rowG 49 5 (.slice A23 l27.length c24) l27.length vs25, boxE gz13_184B0 [i6 (iw x44), .int .i32 xz13_184o3_1, i6 1, .bool (decide ((iw x44) = 10)), .bool bz13_184o11_3] 49]) ?_ ?_
 rintro gz13_184B0 w188 hS189
 have hS189 : St _ _ w188 [poolE ([]) w0, rowG 49 5 (.slice A23 l27.length c24) l27.length vs25, boxE gz13_184B0 [i6 (iw x44), .int .i32 xz13_184o3_1, i6 1, .bool (decide ((iw x44) = 10)), .bool bz13_184o11_3] 49] := hS189
 show WQ _ _ ⟨((.slice A0 p0.length c0) :: undef :: (nS) :: (.slice A23 l27.length c24) :: (i6 x28) :: (i6 (iw x44)) :: (i6 ((l27.length : Nat) : Int)) :: (.bool b53) :: (u22 8) :: (vP gz13_184B0) :: (i6 x28) :: (u52 11) :: (i6 ((p0.length : Nat) : Int)) :: (.bool true) :: dd u22 14 2 ((u52 16) :: (i6 x28) :: (pI x28 A0) :: (.int .i32 x40) :: (.int .u8 x44) :: (i6 (iw x44)) :: (u52 22) :: (i6 ((l27.length : Nat) : Int)) :: dd u52 24 6 (dd u63 30 15 ((.bool false) :: dd u22 46 17 ((i6 (iw x44)) :: (.slice A0 p0.length c0) :: (i6 x28) :: (pI x28 A0) :: (.int .i32 xz13_184o3_1) :: (i6 (iw x44)) :: (.bool (decide ((iw x44) = 10))) :: (.slice A0 p0.length c0) :: (i6 x28) :: (pI x28 A0) :: (.int .i32 xz13_184o9_1) :: (.bool bz13_184o11_3) :: (.agg #[i6 (iw x44), .int .i32 xz13_184o3_1, i6 1, .bool (decide ((iw x44) = 10)), .bool bz13_184o11_3]) :: dd u22 76 6 (undef :: [])))))).toArray, []⟩ _
 refine gx_thenN (hK184 _ _ (gx_seq (fun K190 hK191 => gx_seq (fun K192 hK193 => gx_region (gx_k (.bool b53) w188 (gx_nil (gx_thenN ?_)))))))
 refine hK193 _ _ ?_
 rcases b53 with _ | _
 try dsimp only at hO67
 refine gx_no (by kernel_rfl) (gx_pass (gx_thenN (hK191 _ _ (gx_region (gx_k (.slice A23 l27.length c24) w188 (gx_v (.agg #[i6 (iw x44), .int .i32 xz13_184o3_1, i6 1, .bool (decide ((iw x44) = 10)), .bool bz13_184o11_3]) w188 (run_loadG (d := _) rfl (by kernel_rfl) (hS189.get 2 rfl) rfl rfl (by kernel_rfl)) ?_))))))
 have hf207 : (fEach enccalamusref13Unit [i6 (iw x44), .int .i32 xz13_184o3_1, i6 1, .bool (decide ((iw x44) = 10)), .bool bz13_184o11_3] [((iw x44), xz13_184o3_1, 1, (decide ((iw x44) = 10)), bz13_184o11_3)]).rd w0 ([]) := (each_cons (rd_pair (rd_intg .i64 (iw x44)) (rd_pair (rd_intg .i32 xz13_184o3_1) (rd_pair (rd_intg .i64 (1 : Int)) (rd_pair (rd_bool (decide ((iw x44) = 10))) (rd_bool bz13_184o11_3))))) each_nil)
 refine gx_r (st_madeP (e := enccalamusref13Unit) 49 1 [i6 (iw x44), .int .i32 xz13_184o3_1, i6 1, .bool (decide ((iw x44) = 10)), .bool bz13_184o11_3] [((iw x44), xz13_184o3_1, 1, (decide ((iw x44) = 10)), bz13_184o11_3)] hS189 rfl hf207 (by decide) (by kernel_rfl)) ?_
 rintro _ w208 ⟨rfl, hS209⟩
 have hS209 : St _ _ w208 [poolE ([]) w0, rowG 49 5 (.slice A23 l27.length c24) l27.length vs25, boxE gz13_184B0 [i6 (iw x44), .int .i32 xz13_184o3_1, i6 1, .bool (decide ((iw x44) = 10)), .bool bz13_184o11_3] 49, rowG 49 5 (.slice (some ⟨w188.heap.size, 0, none⟩) 1 1) 1 ([i6 (iw x44), .int .i32 xz13_184o3_1, i6 1, .bool (decide ((iw x44) = 10)), .bool bz13_184o11_3])] := hS209
 obtain ⟨l210, ha211, hO67⟩ := bind_in hO67
 refine gx_r (st_appendP (e := enccalamusref13Unit) rfl (by kernel_rfl) (by kernel_rfl) hS209 1 rfl rfl (show 1 = ([((iw x44), xz13_184o3_1, 1, (decide ((iw x44) = 10)), bz13_184o11_3)] : List (Int × Int × Int × Bool × Bool)).length from rfl) hf26 hf207 (rowG_lies (e := enccalamusref13Unit) (show 1 = ([((iw x44), xz13_184o3_1, 1, (decide ((iw x44) = 10)), bz13_184o11_3)] : List (Int × Int × Int × Bool × Bool)).length from rfl) (hS209.get 3 rfl)) (rowG_spec (e := enccalamusref13Unit) (show 1 = ([((iw x44), xz13_184o3_1, 1, (decide ((iw x44) = 10)), bz13_184o11_3)] : List (Int × Int × Int × Bool × Bool)).length from rfl) (hS209.get 3 rfl)).2.2.1 ha211 (by kernel_rfl) (by kernel_rfl) (by decide)) ?_
 rintro _ w216 ⟨A212, c213, vs214, rfl, hf215, hS217⟩
 have hS217 : St _ _ w216 [poolE ([]) w0, rowG 49 5 (.slice A212 l210.length c213) l210.length vs214, boxE gz13_184B0 [i6 (iw x44), .int .i32 xz13_184o3_1, i6 1, .bool (decide ((iw x44) = 10)), .bool bz13_184o11_3] 49, rowG 49 5 (.slice (some ⟨w188.heap.size, 0, none⟩) 1 1) 1 ([i6 (iw x44), .int .i32 xz13_184o3_1, i6 1, .bool (decide ((iw x44) = 10)), .bool bz13_184o11_3])] := hS217
 refine gx_k (.slice A212 l210.length c213) w216 (gx_nil (gx_blkN (gx_thenN (hK37 _ _ (gx_region (gx_k (i6 x28) w216 (gx_k (i6 (iw (x28 + 1))) w216 (gx_k (i6 (iw (x28 + 1))) w216 (gx_nil ?_)))))))))
 refine gx_thenN ?_
 exact ⟨k29, Nat.lt_succ_self k29, l210, (iw (x28 + 1)), A212, c213, vs214, selfA_i (by kernel_rfl), hO67, (hS217.pick [0, 1] rfl rfl), hf215⟩
 try dsimp only at hO67
 refine gx_yes (by kernel_rfl) (gx_region (gx_k (vP gz13_184B0) w188 (gx_s (st_store (j := 0) (v := (i6 0)) rfl (by kernel_rfl) (by kernel_rfl) rfl (fun _ => by kernel_rfl) hS189 2 rfl (by show 0 < 5; decide)) ?_)))
 rintro w194 hS195
 have hS195 : St _ _ w194 [poolE ([]) w0, rowG 49 5 (.slice A23 l27.length c24) l27.length vs25, boxE gz13_184B0 [i6 0, .int .i32 xz13_184o3_1, i6 1, .bool (decide ((iw x44) = 10)), .bool bz13_184o11_3] 49] := hS195
 refine gx_nil (gx_thenN (hK191 _ _ (gx_region (gx_k (.slice A23 l27.length c24) w194 (gx_v (.agg #[i6 0, .int .i32 xz13_184o3_1, i6 1, .bool (decide ((iw x44) = 10)), .bool bz13_184o11_3]) w194 (run_loadG (d := _) rfl (by kernel_rfl) (hS195.get 2 rfl) rfl rfl (by kernel_rfl)) ?_)))))
 have hf196 : (fEach enccalamusref13Unit [i6 0, .int .i32 xz13_184o3_1, i6 1, .bool (decide ((iw x44) = 10)), .bool bz13_184o11_3] [(0, xz13_184o3_1, 1, (decide ((iw x44) = 10)), bz13_184o11_3)]).rd w0 ([]) := (each_cons (rd_pair (rd_intg .i64 (0 : Int)) (rd_pair (rd_intg .i32 xz13_184o3_1) (rd_pair (rd_intg .i64 (1 : Int)) (rd_pair (rd_bool (decide ((iw x44) = 10))) (rd_bool bz13_184o11_3))))) each_nil)
 refine gx_r (st_madeP (e := enccalamusref13Unit) 49 1 [i6 0, .int .i32 xz13_184o3_1, i6 1, .bool (decide ((iw x44) = 10)), .bool bz13_184o11_3] [(0, xz13_184o3_1, 1, (decide ((iw x44) = 10)), bz13_184o11_3)] hS195 rfl hf196 (by decide) (by kernel_rfl)) ?_
 rintro _ w197 ⟨rfl, hS198⟩
 have hS198 : St _ _ w197 [poolE ([]) w0, rowG 49 5 (.slice A23 l27.length c24) l27.length vs25, boxE gz13_184B0 [i6 0, .int .i32 xz13_184o3_1, i6 1, .bool (decide ((iw x44) = 10)), .bool bz13_184o11_3] 49, rowG 49 5 (.slice (some ⟨w194.heap.size, 0, none⟩) 1 1) 1 ([i6 0, .int .i32 xz13_184o3_1, i6 1, .bool (decide ((iw x44) = 10)), .bool bz13_184o11_3])] := hS198
 obtain ⟨l199, ha200, hO67⟩ := bind_in hO67
 refine gx_r (st_appendP (e := enccalamusref13Unit) rfl (by kernel_rfl) (by kernel_rfl) hS198 1 rfl rfl (show 1 = ([(0, xz13_184o3_1, 1, (decide ((iw x44) = 10)), bz13_184o11_3)] : List (Int × Int × Int × Bool × Bool)).length from rfl) hf26 hf196 (rowG_lies (e := enccalamusref13Unit) (show 1 = ([(0, xz13_184o3_1, 1, (decide ((iw x44) = 10)), bz13_184o11_3)] : List (Int × Int × Int × Bool × Bool)).length from rfl) (hS198.get 3 rfl)) (rowG_spec (e := enccalamusref13Unit) (show 1 = ([(0, xz13_184o3_1, 1, (decide ((iw x44) = 10)), bz13_184o11_3)] : List (Int × Int × Int × Bool × Bool)).length from rfl) (hS198.get 3 rfl)).2.2.1 ha200 (by kernel_rfl) (by kernel_rfl) (by decide)) ?_
 rintro _ w205 ⟨A201, c202, vs203, rfl, hf204, hS206⟩
 have hS206 : St _ _ w205 [poolE ([]) w0, rowG 49 5 (.slice A201 l199.length c202) l199.length vs203, boxE gz13_184B0 [i6 0, .int .i32 xz13_184o3_1, i6 1, .bool (decide ((iw x44) = 10)), .bool bz13_184o11_3] 49, rowG 49 5 (.slice (some ⟨w194.heap.size, 0, none⟩) 1 1) 1 ([i6 0, .int .i32 xz13_184o3_1, i6 1, .bool (decide ((iw x44) = 10)), .bool bz13_184o11_3])] := hS206
 refine gx_k (.slice A201 l199.length c202) w205 (gx_nil (gx_blkN (gx_thenN (hK37 _ _ (gx_region (gx_k (i6 x28) w205 (gx_k (i6 (iw (x28 + 1))) w205 (gx_k (i6 (iw (x28 + 1))) w205 (gx_nil ?_)))))))))
 refine gx_thenN ?_
 exact ⟨k29, Nat.lt_succ_self k29, l199, (iw (x28 + 1)), A201, c202, vs203, selfA_i (by kernel_rfl), hO67, (hS206.pick [0, 1] rfl rfl), hf204⟩
 intro K218
 refine gv1 0 63 (i6 (iw x44)) rfl hS187 (gv1 1 64 (.slice A0 p0.length c0) rfl hS187 (gv1 2 65 (i6 x28) rfl hS187 (gu1 3 66 (pI x28 A0) rfl hS187 (fun w hSw => rix 21 .i64 hxz13_184o3_2 ((hS187.view hv0))) (gu1 4 67 (.int .i32 xz13_184o3_1) rfl hS187 (fun w hSw => rlx (hSw.view hv0) hxz13_184o3_2) (gv1 5 68 (i6 (iw x44)) rfl hS187 (gv1 6 69 (.bool (decide ((iw x44) = 10))) rfl hS187 (gv1 7 70 (.slice A0 p0.length c0) rfl hS187 ?_)))))))
 refine gv1 8 71 (i6 x28) rfl hS187 (gu1 9 72 (pI x28 A0) rfl hS187 (fun w hSw => rix 21 .i64 hxz13_184o9_2 ((hS187.view hv0))) (gu1 10 73 (.int .i32 xz13_184o9_1) rfl hS187 (fun w hSw => rlx (hSw.view hv0) hxz13_184o9_2) (gd_fork2 11 13 ⟨some 74, _, _, _, _, _⟩ ⟨some 9, _, _, _, _, _⟩ rfl rfl ?_ ?_)))
 have hPz13_184o11_1 : St _ _ w186 ([] ++ [poolE ([]) w0, rowG 49 5 (.slice A23 l27.length c24) l27.length vs25]) := hS187
 refine gfC 11 ⟨some 74, _, _, _, _, _⟩ (rfWd_R bz13_184o11_3 w186) rfl (by kernel_rfl) (rfWd_ok N xz13_184o9_1 _ hcz13_184o11_2 w186 ) ?_
 rintro _ wz13_184o11_4 ⟨rfl, hTz13_184o11_6⟩
 have hSz13_184o11_5 : St _ _ wz13_184o11_4 [poolE ([]) w0, rowG 49 5 (.slice A23 l27.length c24) l27.length vs25] := hS187.take _ hTz13_184o11_6
 refine ⟨hSz13_184o11_5, gv1 12 75 (.agg #[i6 (iw x44), .int .i32 xz13_184o3_1, i6 1, .bool (decide ((iw x44) = 10)), .bool bz13_184o11_3]) rfl hSz13_184o11_5 (gdR 13 ⟨some 9, _, _, _, _, _⟩ rfl (st_boxed [i6 0, .int .i32 0, i6 0, .bool false, .bool false] 49 hSz13_184o11_5 (by kernel_rfl)) ?_)⟩
 rintro _ wz13_184o13_1 ⟨rfl, hSz13_184o13_2⟩
 have hSz13_184o13_2 : St _ _ wz13_184o13_1 [poolE ([]) w0, rowG 49 5 (.slice A23 l27.length c24) l27.length vs25, boxE wz13_184o11_4.heap.size [i6 0, .int .i32 0, i6 0, .bool false, .bool false] 49] := hSz13_184o13_2
 refine ⟨(hSz13_184o13_2.pick [0, 1] rfl rfl), gdSz 14 ⟨none, _, _, _, _, _⟩ rfl (st_storeG (cs := [i6 0, .int .i32 0, i6 0, .bool false, .bool false]) (ds := [i6 (iw x44), .int .i32 xz13_184o3_1, i6 1, .bool (decide ((iw x44) = 10)), .bool bz13_184o11_3]) rfl (by kernel_rfl) (by kernel_rfl) (by kernel_rfl) rfl rfl hSz13_184o13_2 2 rfl) ?_⟩
 rintro wz13_184o14_1 hSz13_184o14_2
 have hSz13_184o14_2 : St _ _ wz13_184o14_1 [poolE ([]) w0, rowG 49 5 (.slice A23 l27.length c24) l27.length vs25, boxE wz13_184o11_4.heap.size [i6 (iw x44), .int .i32 xz13_184o3_1, i6 1, .bool (decide ((iw x44) = 10)), .bool bz13_184o11_3] 49] := hSz13_184o14_2
 exact gd_meet (by kernel_rfl) (by kernel_rfl) (K218 wz13_184o11_4.heap.size _ hSz13_184o14_2)
 refine gfR 13 ⟨some 9, _, _, _, _, _⟩ rfl (st_boxed [i6 0, .int .i32 0, i6 0, .bool false, .bool false] 49 hS187 (by kernel_rfl)) ?_
 rintro _ wz13_184o13_1 ⟨rfl, hSz13_184o13_2⟩
 have hSz13_184o13_2 : St _ _ wz13_184o13_1 [poolE ([]) w0, rowG 49 5 (.slice A23 l27.length c24) l27.length vs25, boxE w186.heap.size [i6 0, .int .i32 0, i6 0, .bool false, .bool false] 49] := hSz13_184o13_2
 refine ⟨(hSz13_184o13_2.pick [0, 1] rfl rfl), ?_⟩
 have hPz13_184o11_1 : St _ _ wz13_184o13_1 ([] ++ [poolE ([]) w0, rowG 49 5 (.slice A23 l27.length c24) l27.length vs25, boxE w186.heap.size [i6 0, .int .i32 0, i6 0, .bool false, .bool false] 49]) := hSz13_184o13_2
 refine gdC 11 ⟨some 74, _, _, _, _, _⟩ _ rfl (by kernel_rfl) (rfWd_ok N xz13_184o9_1 _ hcz13_184o11_2 wz13_184o13_1 ) ?_
 rintro _ wz13_184o11_4 ⟨rfl, hTz13_184o11_6⟩
 have hSz13_184o11_5 : St _ _ wz13_184o11_4 [poolE ([]) w0, rowG 49 5 (.slice A23 l27.length c24) l27.length vs25, boxE w186.heap.size [i6 0, .int .i32 0, i6 0, .bool false, .bool false] 49] := hSz13_184o13_2.take _ hTz13_184o11_6
 refine ⟨(hSz13_184o11_5.pick [0, 1] rfl rfl), gv1 12 75 (.agg #[i6 (iw x44), .int .i32 xz13_184o3_1, i6 1, .bool (decide ((iw x44) = 10)), .bool bz13_184o11_3]) rfl (hSz13_184o11_5.pick [0, 1] rfl rfl) (gdSz 14 ⟨none, _, _, _, _, _⟩ rfl (st_storeG (cs := [i6 0, .int .i32 0, i6 0, .bool false, .bool false]) (ds := [i6 (iw x44), .int .i32 xz13_184o3_1, i6 1, .bool (decide ((iw x44) = 10)), .bool bz13_184o11_3]) rfl (by kernel_rfl) (by kernel_rfl) (by kernel_rfl) rfl rfl hSz13_184o11_5 2 rfl) ?_)⟩
 rintro wz13_184o14_1 hSz13_184o14_2
 have hSz13_184o14_2 : St _ _ wz13_184o14_1 [poolE ([]) w0, rowG 49 5 (.slice A23 l27.length c24) l27.length vs25, boxE w186.heap.size [i6 (iw x44), .int .i32 xz13_184o3_1, i6 1, .bool (decide ((iw x44) = 10)), .bool bz13_184o11_3] 49] := hSz13_184o14_2
 exact gd_meet (by kernel_rfl) (by kernel_rfl) (K218 w186.heap.size _ hSz13_184o14_2)
 try dsimp only at hO67
 refine gx_yes (by kernel_rfl) (gx_seq (fun K110 hK111 => gx_region (gx_k (.slice A23 l27.length c24) w61 (gx_k (i6 ((l27.length : Nat) : Int)) w61 (gx_k (i6 (iw (((l27.length : Nat) : Int) - 1))) w61 ?_)))))
 obtain ⟨x112, hx113, hO67⟩ := bind_in hO67
 obtain ⟨g114, o115, e116, hA117, he118, h119, ha120⟩ := elem_at (e := enccalamusref13Unit) (rowG_lies (e := enccalamusref13Unit) rfl (hS62.get 1 rfl)) hf26 hx113 (by decide)
 obtain ⟨e121, e122, rfl, h123, h124⟩ := h119
 obtain rfl := h123
 obtain ⟨e125, e126, rfl, h127, h128⟩ := h124
 obtain rfl := h127
 obtain ⟨e129, e130, rfl, h131, h132⟩ := h128
 obtain rfl := h131
 obtain ⟨e133, e134, rfl, h135, h136⟩ := h132
 obtain rfl := h135
 obtain rfl := h136
 have ha120 : ∀ w', Lies w' A23 vs25 → w'.rangeAt g114 o115 [i6 x112.1, .int .i32 x112.2.1, i6 x112.2.2.1, .bool x112.2.2.2.1, .bool x112.2.2.2.2] := ha120
 refine gx_v (.pointer (some ⟨g114, o115, none⟩)) w61 (run_ixaddrN (E := 49) (s := 5) (k := .i64) (c := c24) rfl (by kernel_rfl) (by kernel_rfl) (by kernel_rfl) (fun _ => by kernel_rfl) (ixg_in hx113).1 (ixg_in hx113).2.1 hA117) (gx_v (.agg #[i6 x112.1, .int .i32 x112.2.1, i6 x112.2.2.1, .bool x112.2.2.2.1, .bool x112.2.2.2.2]) w61 (run_loadNG (d := _) (ec := [i6 x112.1, .int .i32 x112.2.1, i6 x112.2.2.1, .bool x112.2.2.2.1, .bool x112.2.2.2.2]) rfl (by kernel_rfl) (ha120 _ (rowG_lies (e := enccalamusref13Unit) rfl (hS62.get 1 rfl))) rfl rfl (by kernel_rfl)) (gx_r (st_boxed [i6 0, .int .i32 0, i6 0, .bool false, .bool false] 49 hS62 (by kernel_rfl)) ?_))
 rintro _ w137 ⟨rfl, hS138⟩
 have hS138 : St _ _ w137 [poolE ([]) w0, rowG 49 5 (.slice A23 l27.length c24) l27.length vs25, boxE w61.heap.size [i6 0, .int .i32 0, i6 0, .bool false, .bool false] 49] := hS138
 refine gx_s (st_storeG (cs := [i6 0, .int .i32 0, i6 0, .bool false, .bool false]) (ds := [i6 x112.1, .int .i32 x112.2.1, i6 x112.2.2.1, .bool x112.2.2.2.1, .bool x112.2.2.2.2]) rfl (by kernel_rfl) (by kernel_rfl) (by kernel_rfl) rfl rfl hS138 2 rfl) ?_
 rintro w139 hS140
 have hS140 : St _ _ w139 [poolE ([]) w0, rowG 49 5 (.slice A23 l27.length c24) l27.length vs25, boxE w61.heap.size [i6 x112.1, .int .i32 x112.2.1, i6 x112.2.2.1, .bool x112.2.2.2.1, .bool x112.2.2.2.2] 49] := hS140
 refine gx_nil (gx_thenN (hK111 _ _ (gx_seq (fun K141 hK142 => gx_region (gx_k (vQ w61.heap.size 2) w139 (gx_v (i6 x112.2.2.1) w139 (rl1 (hS140.box 2 rfl 2 rfl)) (gx_k (i6 (iw (x112.2.2.1 + 1))) w139 (gx_k (vQ w61.heap.size 2) w139 ?_))))))))
 refine gx_s (st_store (j := 2) (v := (i6 (iw (x112.2.2.1 + 1)))) rfl (by kernel_rfl) (by kernel_rfl) rfl (fun _ => by kernel_rfl) hS140 2 rfl (by show 2 < 5; decide)) ?_
 rintro w143 hS144
 have hS144 : St _ _ w143 [poolE ([]) w0, rowG 49 5 (.slice A23 l27.length c24) l27.length vs25, boxE w61.heap.size [i6 x112.1, .int .i32 x112.2.1, i6 (iw (x112.2.2.1 + 1)), .bool x112.2.2.2.1, .bool x112.2.2.2.2] 49] := hS144
 refine gx_nil (gx_thenN (hK142 _ _ (gx_seq (fun K145 hK146 => gx_region (gx_k (i6 (iw x44)) w143 (gx_k (.bool (decide ((iw x44) = 10))) w143 (gx_k (vQ w61.heap.size 3) w143 (gx_s (st_store (j := 3) (v := (.bool (decide ((iw x44) = 10)))) rfl (by kernel_rfl) (by kernel_rfl) rfl (fun _ => by kernel_rfl) hS144 2 rfl (by show 3 < 5; decide)) ?_))))))))
 rintro w147 hS148
 have hS148 : St _ _ w147 [poolE ([]) w0, rowG 49 5 (.slice A23 l27.length c24) l27.length vs25, boxE w61.heap.size [i6 x112.1, .int .i32 x112.2.1, i6 (iw (x112.2.2.1 + 1)), .bool (decide ((iw x44) = 10)), .bool x112.2.2.2.2] 49] := hS148
 refine gx_nil (gx_thenN (hK146 _ _ (gx_seq (fun K149 hK150 => gx_region (gx_k (.slice A23 l27.length c24) w147 (gx_k (i6 ((l27.length : Nat) : Int)) w147 (gx_k (i6 (iw (((l27.length : Nat) : Int) - 1))) w147 (gx_v (.agg #[i6 x112.1, .int .i32 x112.2.1, i6 (iw (x112.2.2.1 + 1)), .bool (decide ((iw x44) = 10)), .bool x112.2.2.2.2]) w147 (run_loadG (d := _) rfl (by kernel_rfl) (hS148.get 2 rfl) rfl rfl (by kernel_rfl)) ?_))))))))
 obtain ⟨x151, hx152, hO67⟩ := bind_in hO67
 obtain ⟨g153, o154, e155, hA156, he157, h158, ha159⟩ := elem_at (e := enccalamusref13Unit) (rowG_lies (e := enccalamusref13Unit) rfl (hS148.get 1 rfl)) hf26 hx152 (by decide)
 obtain ⟨e160, e161, rfl, h162, h163⟩ := h158
 obtain rfl := h162
 obtain ⟨e164, e165, rfl, h166, h167⟩ := h163
 obtain rfl := h166
 obtain ⟨e168, e169, rfl, h170, h171⟩ := h167
 obtain rfl := h170
 obtain ⟨e172, e173, rfl, h174, h175⟩ := h171
 obtain rfl := h174
 obtain rfl := h175
 have ha159 : ∀ w', Lies w' A23 vs25 → w'.rangeAt g153 o154 [i6 x151.1, .int .i32 x151.2.1, i6 x151.2.2.1, .bool x151.2.2.2.1, .bool x151.2.2.2.2] := ha159
 refine gx_v (.pointer (some ⟨g153, o154, none⟩)) w147 (run_ixaddrN (E := 49) (s := 5) (k := .i64) (c := c24) rfl (by kernel_rfl) (by kernel_rfl) (by kernel_rfl) (fun _ => by kernel_rfl) (ixg_in hx152).1 (ixg_in hx152).2.1 hA156) ?_
 obtain ⟨l176, hx177, hO67⟩ := bind_in hO67
 refine gx_s (st_setN (e := enccalamusref13Unit) (ds := [i6 x112.1, .int .i32 x112.2.1, i6 (iw (x112.2.2.1 + 1)), .bool (decide ((iw x44) = 10)), .bool x112.2.2.2.2]) rfl (by kernel_rfl) (by kernel_rfl) (by kernel_rfl) hS148 1 rfl rfl hf26 hA156 (rd_pair (rd_intg .i64 x112.1) (rd_pair (rd_intg .i32 x112.2.1) (rd_pair (rd_intg .i64 (iw (x112.2.2.1 + 1))) (rd_pair (rd_bool (decide ((iw x44) = 10))) (rd_bool x112.2.2.2.2))))) hx177) ?_
 rintro w178 ⟨vs180, hf181, hS179⟩
 have hS179 : St _ _ w178 [poolE ([]) w0, rowG 49 5 (.slice A23 l27.length c24) l27.length vs180, boxE w61.heap.size [i6 x112.1, .int .i32 x112.2.1, i6 (iw (x112.2.2.1 + 1)), .bool (decide ((iw x44) = 10)), .bool x112.2.2.2.2] 49] := hS179
 refine gx_nil (gx_thenN (hK150 _ _ (gx_exit (gx_thenE (gx_blkE (gx_thenN (hK37 _ _ ?_)))))))
 refine gx_region (gx_k (i6 x28) w178 (gx_k (i6 (iw (x28 + 1))) w178 (gx_k (i6 (iw (x28 + 1))) w178 (gx_nil (gx_thenN ?_)))))
 have hS182 : St _ _ w178 [poolE ([]) w0, rowG 49 5 (.slice A23 l176.length c24) l176.length vs180, boxE w61.heap.size [i6 x112.1, .int .i32 x112.2.1, i6 (iw (x112.2.2.1 + 1)), .bool (decide ((iw x44) = 10)), .bool x112.2.2.2.2] 49] := hS179.len (e := enccalamusref13Unit) 1 rfl (setg_len hx177).symm
 exact ⟨k29, Nat.lt_succ_self k29, l176, (iw (x28 + 1)), A23, c24, vs180, selfA_i (by rw [← (setg_len hx177).symm] <;> kernel_rfl), hO67, (hS182.pick [0, 1] rfl rfl), hf181⟩
 refine gx_v (.bool false) w20 (rbE (decide_eq_false h35)) (gx_nil (gx_thenN (hK34 _ _ (gx_no (by kernel_rfl) (gx_exit (gx_thenE (gx_thenE ?_)))))))
 refine gx_blkE (gx_thenN ?_)
 exact ⟨l27, A23, c24, vs25, selfA_i (by kernel_rfl), (sj hL30), hS21, hf26⟩
 rintro _ w5 ⟨l12, A8, c9, vs10, hq225, rfl, hS6, hf11⟩
 obtain ⟨u7, rfl⟩ := selfA_u hq225
 try dsimp only at hO15
 refine gx_seq (fun K222 hK223 => gx_region (gx_k (.slice A8 l12.length c9) w5 (gx_k (.slice A8 l12.length c9) w5 (gx_nil (gx_thenN (hK223 _ _ (gx_ret ?_)))))))
 have hS224 : St _ _ w5 [poolE ([]) w5, rowG 49 5 (.slice A8 l12.length c9) l12.length vs10] := hS6.renew 0 rfl
 obtain rfl := sj hO15
 exact gxF (.slice A8 l12.length c9) ⟨_, rfl, A8, c9, vs10, ([]), rfl, (hS224.pick [1, 0] rfl rfl), (hS6.now 0 rfl hf11)⟩
end Go.Proofs.YtdbimchiecdkoaaGreat

namespace Go.Proofs.YtdbimchiecdkoaaGreat
open Go Go.RowKit
set_option maxRecDepth 100000
set_option maxHeartbeats 4000000
set_option linter.unusedVariables false
def rAt (_N : Nat) (p0 : List (Int × Int × Int × Bool × Bool)) (p1 : Int) : Option (Int) :=
 (if p1 < 0 then some 99 else (if p1 ≥ ((p0.length : Nat) : Int) then some 99 else ((ixg p0 p1).bind fun x15 => some x15.1)))
def rAt_R (r : Int) (w0 : World) (v : Value) (w : World) : Prop := v = .int .i64 r ∧ St [] w0 w []
theorem rAt_ok (N : Nat) (p0 : List (Int × Int × Int × Bool × Bool)) (p1 : Int) (A0 : Option Addr) (c0 : Nat) (vs0 : List Value) (ft0 : List Nat) (r : Int) (hF : rAt N p0 p1 = some r) (w0 : World) (hv0 : (fSl enccalamusref13Unit A0 c0 vs0 p0).rd w0 ft0) (ho0 : Off [] w0 ft0) :
  Calls Tryz.prog 70 #[.slice A0 p0.length c0, .int .i64 p1] w0 fun e w => ∃ v, e = .returned v ∧ rAt_R r w0 v w := by
 have hS0 := (St.start w0).pool0
 unfold rAt at hF
 refine calls_of Tryz.func70 rfl ⟨((.slice A0 p0.length c0) :: (i6 p1) :: un 16 ([])).toArray, []⟩ (by kernel_rfl) (gx_seq (fun K1 hK2 => gx_region (gx_k (i6 0) w0 (gx_nil (gx_thenN (hK2 _ _ (gx_seq (fun K3 hK4 => ?_))))))))
 refine gx_seq (fun K5 hK6 => gx_region (gx_k (i6 p1) w0 ?_))
 rcases if_in hF with ⟨h7, hF⟩ | ⟨h7, hF⟩
 refine gx_v (.bool true) w0 (rbE (decide_eq_true h7)) (gx_k (.bool true) w0 (gx_o (gx_o (gx_o (gx_o (gx_k (.bool true) w0 (gx_nil (gx_thenN (hK6 _ _ (gx_yes (by kernel_rfl) (gx_seq (fun K8 hK9 => gx_region ?_))))))))))))
 refine gx_k (i6 99) w0 (gx_nil (gx_thenN (hK9 _ _ (gx_ret (gx_thenR ?_)))))
 obtain rfl := sj hF
 exact gxF (i6 99) ⟨_, rfl, rfl, (hS0.pick [] rfl rfl)⟩
 refine gx_v (.bool false) w0 (rbE (decide_eq_false h7)) (gx_k (.bool false) w0 (gx_k (i6 p1) w0 (gx_k (.slice A0 p0.length c0) w0 (gx_k (i6 ((p0.length : Nat) : Int)) w0 ?_))))
 rcases if_in hF with ⟨h10, hF⟩ | ⟨h10, hF⟩
 refine gx_v (.bool true) w0 (rbE (decide_eq_true h10)) (gx_k (.bool true) w0 (gx_nil (gx_thenN (hK6 _ _ (gx_yes (by kernel_rfl) (gx_seq (fun K11 hK12 => gx_region ?_)))))))
 refine gx_k (i6 99) w0 (gx_nil (gx_thenN (hK12 _ _ (gx_ret (gx_thenR ?_)))))
 obtain rfl := sj hF
 exact gxF (i6 99) ⟨_, rfl, rfl, (hS0.pick [] rfl rfl)⟩
 refine gx_v (.bool false) w0 (rbE (decide_eq_false h10)) (gx_k (.bool false) w0 (gx_nil (gx_thenN (hK6 _ _ (gx_no (by kernel_rfl) (gx_pass (gx_thenN ?_)))))))
 refine hK4 _ _ (gx_seq (fun K13 hK14 => gx_region (gx_k (.slice A0 p0.length c0) w0 (gx_k (i6 p1) w0 ?_))))
 obtain ⟨x15, hx16, hF⟩ := bind_in hF
 obtain ⟨g17, o18, e19, hA20, he21, h22, ha23⟩ := elem_at (e := enccalamusref13Unit) (sl_lies (hS0.inn ho0 hv0)) (sl_each hv0) hx16 (by decide)
 obtain ⟨e24, e25, rfl, h26, h27⟩ := h22
 obtain rfl := h26
 obtain ⟨e28, e29, rfl, h30, h31⟩ := h27
 obtain rfl := h30
 obtain ⟨e32, e33, rfl, h34, h35⟩ := h31
 obtain rfl := h34
 obtain ⟨e36, e37, rfl, h38, h39⟩ := h35
 obtain rfl := h38
 obtain rfl := h39
 have ha23 : ∀ w', Lies w' A0 vs0 → w'.rangeAt g17 o18 [i6 x15.1, .int .i32 x15.2.1, i6 x15.2.2.1, .bool x15.2.2.2.1, .bool x15.2.2.2.2] := ha23
 refine gx_v (.pointer (some ⟨g17, o18, none⟩)) w0 (run_ixaddrN (E := 49) (s := 5) (k := .i64) (c := c0) rfl (by kernel_rfl) (by kernel_rfl) (by kernel_rfl) (fun _ => by kernel_rfl) (ixg_in hx16).1 (ixg_in hx16).2.1 hA20) (gx_k (.pointer (some ⟨g17, o18, none⟩)) w0 (gx_v (i6 x15.1) w0 (run_loadN1 0 rfl (by kernel_rfl) (fun _ => by kernel_rfl) (ha23 _ (sl_lies (hS0.inn ho0 hv0))) rfl) (gx_k (i6 x15.1) w0 (gx_nil (gx_thenN (hK14 _ _ (gx_ret ?_)))))))
 obtain rfl := sj hF
 exact gxF (i6 x15.1) ⟨_, rfl, rfl, (hS0.pick [] rfl rfl)⟩
def rOpn (_N : Nat) (zb : Int) (zg : Int) (_p0_2 : Int) (_p0_3 : Bool) (_p0_4 : Bool) : Option (Bool) :=
 (if zb = 22 then (((if zg = 171 then some (true) else (if zg = 8216 then some (true) else some (false))) : Option (Bool)).bind fun b11 => (((match b11 with | true => some (true) | false => (if zg = 8219 then some (true) else some (false))) : Option (Bool)).bind fun b21 => (((match b21 with | true => some (true) | false => (if zg = 8220 then some (true) else some (false))) : Option (Bool)).bind fun b30 => (((match b30 with | true => some (true) | false => (if zg = 8223 then some (true) else some (false))) : Option (Bool)).bind fun b39 => (match b39 with | true => some true | false => some (decide (zg = 8249))))))) else some false)
def rOpn_R (r : Bool) (w0 : World) (v : Value) (w : World) : Prop := v = .bool r ∧ St [] w0 w []
theorem rOpn_ok (N : Nat) (zb : Int) (zg : Int) (zl : Int) (zn : Bool) (p0_4 : Bool)  (r : Bool) (hF : rOpn N zb zg zl zn p0_4 = some r) (w0 : World)  :
  Calls Tryz.prog 71 #[.agg #[.int .i64 zb, .int .i32 zg, .int .i64 zl, .bool zn, .bool p0_4]] w0 fun e w => ∃ v, e = .returned v ∧ rOpn_R r w0 v w := by
 have hS0 := St.start w0
 unfold rOpn at hF
 refine calls_of Tryz.func71 rfl ⟨((.agg #[i6 zb, .int .i32 zg, i6 zl, .bool zn, .bool p0_4]) :: un 35 ([])).toArray, []⟩ (by kernel_rfl) (gx_seq (fun K1 hK2 => gx_region (gx_r (st_boxed [i6 zb, .int .i32 zg, i6 zl, .bool zn, .bool p0_4] 49 hS0 (by kernel_rfl)) ?_)))
 rintro _ w3 ⟨rfl, hS4⟩
 have hS4 : St _ _ w3 [boxE w0.heap.size [i6 zb, .int .i32 zg, i6 zl, .bool zn, .bool p0_4] 49] := hS4
 refine gx_k (.bool false) w3 (gx_nil (gx_thenN (hK2 _ _ (gx_seq (fun K5 hK6 => gx_region (gx_k (vP w0.heap.size) w3 (gx_v (i6 zb) w3 (rl1 (hS4.box 0 rfl 0 rfl)) ?_)))))))
 rcases if_in hF with ⟨h7, hF⟩ | ⟨h7, hF⟩
 refine gx_v (.bool true) w3 (rbE (decide_eq_true h7)) (gx_k (.bool true) w3 (gx_k (vQ w0.heap.size 1) w3 (gx_v (.int .i32 zg) w3 (rl1 (hS4.box 0 rfl 1 rfl)) ?_)))
 obtain ⟨c12, hE13, hO14⟩ := bind_in hF
 refine gx_part (l1 := [_, _, _, _, _, _]) (fun a w => ∃ (b11 : Bool), selfA (fun u10 => ⟨((u10 0) :: (vP w0.heap.size) :: (.bool false) :: (vP w0.heap.size) :: (i6 zb) :: (.bool true) :: (.bool true) :: (vQ w0.heap.size 1) :: (.int .i32 zg) :: dd u10 9 5 ((.bool b11) :: un 21 ([]))).toArray, []⟩) a ∧ b11 = c12 ∧ St [] w0 w [boxE w0.heap.size [i6 zb, .int .i32 zg, i6 zl, .bool zn, .bool p0_4] 49]) rfl ?_ ?_
 rcases if_in hE13 with ⟨h16, hE13⟩ | ⟨h16, hE13⟩
 refine gx_v (.bool true) w3 (rbE (decide_eq_true h16)) (gx_k (.bool true) w3 (gx_o (gx_o (gx_o (gx_k (.bool true) w3 (gx_nil (gx_thenN ?_)))))))
 exact ⟨true, selfA_i (by kernel_rfl), (sj hE13), hS4⟩
 refine gx_v (.bool false) w3 (rbE (decide_eq_false h16)) (gx_k (.bool false) w3 (gx_k (vQ w0.heap.size 1) w3 (gx_v (.int .i32 zg) w3 (rl1 (hS4.box 0 rfl 1 rfl)) ?_)))
 rcases if_in hE13 with ⟨h17, hE13⟩ | ⟨h17, hE13⟩
 refine gx_v (.bool true) w3 (rbE (decide_eq_true h17)) (gx_k (.bool true) w3 (gx_nil (gx_thenN ?_)))
 exact ⟨true, selfA_i (by kernel_rfl), (sj hE13), hS4⟩
 refine gx_v (.bool false) w3 (rbE (decide_eq_false h17)) (gx_k (.bool false) w3 (gx_nil (gx_thenN ?_)))
 exact ⟨false, selfA_i (by kernel_rfl), (sj hE13), hS4⟩
 rintro _ w8 ⟨b11, hq15, rfl, hS9⟩
 obtain ⟨u10, rfl⟩ := selfA_u hq15
 try dsimp only at hO14
 obtain ⟨c22, hE23, hO24⟩ := bind_in hO14
 refine gx_part (l1 := [_, _, _, _, _]) (fun a w => ∃ (b21 : Bool), selfA (fun u20 => ⟨((u10 0) :: (vP w0.heap.size) :: (.bool false) :: (vP w0.heap.size) :: (i6 zb) :: (.bool true) :: (.bool true) :: (vQ w0.heap.size 1) :: (.int .i32 zg) :: dd u10 9 5 ((.bool b11) :: dd u20 15 4 ((.bool b21) :: un 16 ([])))).toArray, []⟩) a ∧ b21 = c22 ∧ St [] w0 w [boxE w0.heap.size [i6 zb, .int .i32 zg, i6 zl, .bool zn, .bool p0_4] 49]) rfl ?_ ?_
 refine gx_k (.bool b11) w8 ?_
 rcases b11 with _ | _
 try dsimp only at hE23
 refine gx_k (vQ w0.heap.size 1) w8 (gx_v (.int .i32 zg) w8 (rl1 (hS9.box 0 rfl 1 rfl)) ?_)
 rcases if_in hE23 with ⟨h26, hE23⟩ | ⟨h26, hE23⟩
 refine gx_v (.bool true) w8 (rbE (decide_eq_true h26)) (gx_k (.bool true) w8 (gx_nil (gx_thenN ?_)))
 exact ⟨true, selfA_i (by kernel_rfl), (sj hE23), hS9⟩
 refine gx_v (.bool false) w8 (rbE (decide_eq_false h26)) (gx_k (.bool false) w8 (gx_nil (gx_thenN ?_)))
 exact ⟨false, selfA_i (by kernel_rfl), (sj hE23), hS9⟩
 try dsimp only at hE23
 refine gx_o (gx_o (gx_o (gx_k (.bool true) w8 (gx_nil (gx_thenN ?_)))))
 exact ⟨true, selfA_i (by kernel_rfl), (sj hE23), hS9⟩
 rintro _ w18 ⟨b21, hq25, rfl, hS19⟩
 obtain ⟨u20, rfl⟩ := selfA_u hq25
 try dsimp only at hO24
 obtain ⟨c31, hE32, hO33⟩ := bind_in hO24
 refine gx_part (l1 := [_, _, _, _, _]) (fun a w => ∃ (b30 : Bool), selfA (fun u29 => ⟨((u10 0) :: (vP w0.heap.size) :: (.bool false) :: (vP w0.heap.size) :: (i6 zb) :: (.bool true) :: (.bool true) :: (vQ w0.heap.size 1) :: (.int .i32 zg) :: dd u10 9 5 ((.bool b11) :: dd u20 15 4 ((.bool b21) :: dd u29 20 4 ((.bool b30) :: un 11 ([]))))).toArray, []⟩) a ∧ b30 = c31 ∧ St [] w0 w [boxE w0.heap.size [i6 zb, .int .i32 zg, i6 zl, .bool zn, .bool p0_4] 49]) rfl ?_ ?_
 refine gx_k (.bool b21) w18 ?_
 rcases b21 with _ | _
 try dsimp only at hE32
 refine gx_k (vQ w0.heap.size 1) w18 (gx_v (.int .i32 zg) w18 (rl1 (hS19.box 0 rfl 1 rfl)) ?_)
 rcases if_in hE32 with ⟨h35, hE32⟩ | ⟨h35, hE32⟩
 refine gx_v (.bool true) w18 (rbE (decide_eq_true h35)) (gx_k (.bool true) w18 (gx_nil (gx_thenN ?_)))
 exact ⟨true, selfA_i (by kernel_rfl), (sj hE32), hS19⟩
 refine gx_v (.bool false) w18 (rbE (decide_eq_false h35)) (gx_k (.bool false) w18 (gx_nil (gx_thenN ?_)))
 exact ⟨false, selfA_i (by kernel_rfl), (sj hE32), hS19⟩
 try dsimp only at hE32
 refine gx_o (gx_o (gx_o (gx_k (.bool true) w18 (gx_nil (gx_thenN ?_)))))
 exact ⟨true, selfA_i (by kernel_rfl), (sj hE32), hS19⟩
 rintro _ w27 ⟨b30, hq34, rfl, hS28⟩
 obtain ⟨u29, rfl⟩ := selfA_u hq34
 try dsimp only at hO33
 obtain ⟨c40, hE41, hO42⟩ := bind_in hO33
 refine gx_part (l1 := [_, _, _, _, _]) (fun a w => ∃ (b39 : Bool), selfA (fun u38 => ⟨((u10 0) :: (vP w0.heap.size) :: (.bool false) :: (vP w0.heap.size) :: (i6 zb) :: (.bool true) :: (.bool true) :: (vQ w0.heap.size 1) :: (.int .i32 zg) :: dd u10 9 5 ((.bool b11) :: dd u20 15 4 ((.bool b21) :: dd u29 20 4 ((.bool b30) :: dd u38 25 4 ((.bool b39) :: un 6 ([])))))).toArray, []⟩) a ∧ b39 = c40 ∧ St [] w0 w [boxE w0.heap.size [i6 zb, .int .i32 zg, i6 zl, .bool zn, .bool p0_4] 49]) rfl ?_ ?_
 refine gx_k (.bool b30) w27 ?_
 rcases b30 with _ | _
 try dsimp only at hE41
 refine gx_k (vQ w0.heap.size 1) w27 (gx_v (.int .i32 zg) w27 (rl1 (hS28.box 0 rfl 1 rfl)) ?_)
 rcases if_in hE41 with ⟨h44, hE41⟩ | ⟨h44, hE41⟩
 refine gx_v (.bool true) w27 (rbE (decide_eq_true h44)) (gx_k (.bool true) w27 (gx_nil (gx_thenN ?_)))
 exact ⟨true, selfA_i (by kernel_rfl), (sj hE41), hS28⟩
 refine gx_v (.bool false) w27 (rbE (decide_eq_false h44)) (gx_k (.bool false) w27 (gx_nil (gx_thenN ?_)))
 exact ⟨false, selfA_i (by kernel_rfl), (sj hE41), hS28⟩
 try dsimp only at hE41
 refine gx_o (gx_o (gx_o (gx_k (.bool true) w27 (gx_nil (gx_thenN ?_)))))
 exact ⟨true, selfA_i (by kernel_rfl), (sj hE41), hS28⟩
 rintro _ w36 ⟨b39, hq43, rfl, hS37⟩
 obtain ⟨u38, rfl⟩ := selfA_u hq43
 try dsimp only at hO42
 refine gx_k (.bool b39) w36 ?_
 rcases b39 with _ | _
 try dsimp only at hO42
 refine gx_k (vQ w0.heap.size 1) w36 (gx_v (.int .i32 zg) w36 (rl1 (hS37.box 0 rfl 1 rfl)) (gx_k (.bool (decide (zg = 8249))) w36 (gx_k (.bool (decide (zg = 8249))) w36 (gx_k (.bool (decide (zg = 8249))) w36 (gx_k (.bool (decide (zg = 8249))) w36 (gx_nil (gx_thenN (hK6 _ _ (gx_ret ?_)))))))))
 obtain rfl := sj hO42
 exact gxF (.bool (decide (zg = 8249))) ⟨_, rfl, rfl, (hS37.pick [] rfl rfl)⟩
 try dsimp only at hO42
 refine gx_o (gx_o (gx_o (gx_k (.bool true) w36 (gx_k (.bool true) w36 (gx_k (.bool true) w36 (gx_nil (gx_thenN (hK6 _ _ (gx_ret ?_)))))))))
 obtain rfl := sj hO42
 exact gxF (.bool true) ⟨_, rfl, rfl, (hS37.pick [] rfl rfl)⟩
 refine gx_v (.bool false) w3 (rbE (decide_eq_false h7)) (gx_k (.bool false) w3 (gx_o (gx_o (gx_o (gx_o (gx_o (gx_o (gx_o (gx_o (gx_o (gx_o (gx_o (gx_o (gx_o (gx_o (gx_o (gx_o (gx_o (gx_o (gx_o (gx_o (gx_o (gx_o (gx_o (gx_o (gx_o (gx_o (gx_o (gx_o (gx_k (.bool false) w3 (gx_k (.bool false) w3 (gx_nil (gx_thenN (hK6 _ _ ?_))))))))))))))))))))))))))))))))))
 refine gx_ret ?_
 obtain rfl := sj hF
 exact gxF (.bool false) ⟨_, rfl, rfl, (hS4.pick [] rfl rfl)⟩
def rCls (_N : Nat) (zb : Int) (zg : Int) (_p0_2 : Int) (_p0_3 : Bool) (_p0_4 : Bool) : Option (Bool) :=
 (if zb = 22 then (((if zg = 187 then some (true) else (if zg = 8217 then some (true) else some (false))) : Option (Bool)).bind fun b11 => (((match b11 with | true => some (true) | false => (if zg = 8221 then some (true) else some (false))) : Option (Bool)).bind fun b21 => (match b21 with | true => some true | false => some (decide (zg = 8250))))) else some false)
def rCls_R (r : Bool) (w0 : World) (v : Value) (w : World) : Prop := v = .bool r ∧ St [] w0 w []
theorem rCls_ok (N : Nat) (zb : Int) (zg : Int) (zl : Int) (zn : Bool) (p0_4 : Bool)  (r : Bool) (hF : rCls N zb zg zl zn p0_4 = some r) (w0 : World)  :
  Calls Tryz.prog 72 #[.agg #[.int .i64 zb, .int .i32 zg, .int .i64 zl, .bool zn, .bool p0_4]] w0 fun e w => ∃ v, e = .returned v ∧ rCls_R r w0 v w := by
 have hS0 := St.start w0
 unfold rCls at hF
 refine calls_of Tryz.func72 rfl ⟨((.agg #[i6 zb, .int .i32 zg, i6 zl, .bool zn, .bool p0_4]) :: un 25 ([])).toArray, []⟩ (by kernel_rfl) (gx_seq (fun K1 hK2 => gx_region (gx_r (st_boxed [i6 zb, .int .i32 zg, i6 zl, .bool zn, .bool p0_4] 49 hS0 (by kernel_rfl)) ?_)))
 rintro _ w3 ⟨rfl, hS4⟩
 have hS4 : St _ _ w3 [boxE w0.heap.size [i6 zb, .int .i32 zg, i6 zl, .bool zn, .bool p0_4] 49] := hS4
 refine gx_k (.bool false) w3 (gx_nil (gx_thenN (hK2 _ _ (gx_seq (fun K5 hK6 => gx_region (gx_k (vP w0.heap.size) w3 (gx_v (i6 zb) w3 (rl1 (hS4.box 0 rfl 0 rfl)) ?_)))))))
 rcases if_in hF with ⟨h7, hF⟩ | ⟨h7, hF⟩
 refine gx_v (.bool true) w3 (rbE (decide_eq_true h7)) (gx_k (.bool true) w3 (gx_k (vQ w0.heap.size 1) w3 (gx_v (.int .i32 zg) w3 (rl1 (hS4.box 0 rfl 1 rfl)) ?_)))
 obtain ⟨c12, hE13, hO14⟩ := bind_in hF
 refine gx_part (l1 := [_, _, _, _, _, _]) (fun a w => ∃ (b11 : Bool), selfA (fun u10 => ⟨((u10 0) :: (vP w0.heap.size) :: (.bool false) :: (vP w0.heap.size) :: (i6 zb) :: (.bool true) :: (.bool true) :: (vQ w0.heap.size 1) :: (.int .i32 zg) :: dd u10 9 5 ((.bool b11) :: un 11 ([]))).toArray, []⟩) a ∧ b11 = c12 ∧ St [] w0 w [boxE w0.heap.size [i6 zb, .int .i32 zg, i6 zl, .bool zn, .bool p0_4] 49]) rfl ?_ ?_
 rcases if_in hE13 with ⟨h16, hE13⟩ | ⟨h16, hE13⟩
 refine gx_v (.bool true) w3 (rbE (decide_eq_true h16)) (gx_k (.bool true) w3 (gx_o (gx_o (gx_o (gx_k (.bool true) w3 (gx_nil (gx_thenN ?_)))))))
 exact ⟨true, selfA_i (by kernel_rfl), (sj hE13), hS4⟩
 refine gx_v (.bool false) w3 (rbE (decide_eq_false h16)) (gx_k (.bool false) w3 (gx_k (vQ w0.heap.size 1) w3 (gx_v (.int .i32 zg) w3 (rl1 (hS4.box 0 rfl 1 rfl)) ?_)))
 rcases if_in hE13 with ⟨h17, hE13⟩ | ⟨h17, hE13⟩
 refine gx_v (.bool true) w3 (rbE (decide_eq_true h17)) (gx_k (.bool true) w3 (gx_nil (gx_thenN ?_)))
 exact ⟨true, selfA_i (by kernel_rfl), (sj hE13), hS4⟩
 refine gx_v (.bool false) w3 (rbE (decide_eq_false h17)) (gx_k (.bool false) w3 (gx_nil (gx_thenN ?_)))
 exact ⟨false, selfA_i (by kernel_rfl), (sj hE13), hS4⟩
 rintro _ w8 ⟨b11, hq15, rfl, hS9⟩
 obtain ⟨u10, rfl⟩ := selfA_u hq15
 try dsimp only at hO14
 obtain ⟨c22, hE23, hO24⟩ := bind_in hO14
 refine gx_part (l1 := [_, _, _, _, _]) (fun a w => ∃ (b21 : Bool), selfA (fun u20 => ⟨((u10 0) :: (vP w0.heap.size) :: (.bool false) :: (vP w0.heap.size) :: (i6 zb) :: (.bool true) :: (.bool true) :: (vQ w0.heap.size 1) :: (.int .i32 zg) :: dd u10 9 5 ((.bool b11) :: dd u20 15 4 ((.bool b21) :: un 6 ([])))).toArray, []⟩) a ∧ b21 = c22 ∧ St [] w0 w [boxE w0.heap.size [i6 zb, .int .i32 zg, i6 zl, .bool zn, .bool p0_4] 49]) rfl ?_ ?_
 refine gx_k (.bool b11) w8 ?_
 rcases b11 with _ | _
 try dsimp only at hE23
 refine gx_k (vQ w0.heap.size 1) w8 (gx_v (.int .i32 zg) w8 (rl1 (hS9.box 0 rfl 1 rfl)) ?_)
 rcases if_in hE23 with ⟨h26, hE23⟩ | ⟨h26, hE23⟩
 refine gx_v (.bool true) w8 (rbE (decide_eq_true h26)) (gx_k (.bool true) w8 (gx_nil (gx_thenN ?_)))
 exact ⟨true, selfA_i (by kernel_rfl), (sj hE23), hS9⟩
 refine gx_v (.bool false) w8 (rbE (decide_eq_false h26)) (gx_k (.bool false) w8 (gx_nil (gx_thenN ?_)))
 exact ⟨false, selfA_i (by kernel_rfl), (sj hE23), hS9⟩
 try dsimp only at hE23
 refine gx_o (gx_o (gx_o (gx_k (.bool true) w8 (gx_nil (gx_thenN ?_)))))
 exact ⟨true, selfA_i (by kernel_rfl), (sj hE23), hS9⟩
 rintro _ w18 ⟨b21, hq25, rfl, hS19⟩
 obtain ⟨u20, rfl⟩ := selfA_u hq25
 try dsimp only at hO24
 refine gx_k (.bool b21) w18 ?_
 rcases b21 with _ | _
 try dsimp only at hO24
 refine gx_k (vQ w0.heap.size 1) w18 (gx_v (.int .i32 zg) w18 (rl1 (hS19.box 0 rfl 1 rfl)) (gx_k (.bool (decide (zg = 8250))) w18 (gx_k (.bool (decide (zg = 8250))) w18 (gx_k (.bool (decide (zg = 8250))) w18 (gx_k (.bool (decide (zg = 8250))) w18 (gx_nil (gx_thenN (hK6 _ _ (gx_ret ?_)))))))))
 obtain rfl := sj hO24
 exact gxF (.bool (decide (zg = 8250))) ⟨_, rfl, rfl, (hS19.pick [] rfl rfl)⟩
 try dsimp only at hO24
 refine gx_o (gx_o (gx_o (gx_k (.bool true) w18 (gx_k (.bool true) w18 (gx_k (.bool true) w18 (gx_nil (gx_thenN (hK6 _ _ (gx_ret ?_)))))))))
 obtain rfl := sj hO24
 exact gxF (.bool true) ⟨_, rfl, rfl, (hS19.pick [] rfl rfl)⟩
 refine gx_v (.bool false) w3 (rbE (decide_eq_false h7)) (gx_k (.bool false) w3 (gx_o (gx_o (gx_o (gx_o (gx_o (gx_o (gx_o (gx_o (gx_o (gx_o (gx_o (gx_o (gx_o (gx_o (gx_o (gx_o (gx_o (gx_o (gx_k (.bool false) w3 (gx_k (.bool false) w3 (gx_nil (gx_thenN (hK6 _ _ (gx_ret ?_)))))))))))))))))))))))))
 obtain rfl := sj hF
 exact gxF (.bool false) ⟨_, rfl, rfl, (hS4.pick [] rfl rfl)⟩
def rNar (_N : Nat) (p0 : List (Int × Int × Int × Bool × Bool)) (p1 : Int) : Option (Bool) :=
 (((if p1 < 0 then some (true) else (if p1 ≥ ((p0.length : Nat) : Int) then some (true) else some (false))) : Option (Bool)).bind fun b8 => (match b8 with | true => some true | false => ((ixg p0 p1).bind fun x15 => some (!x15.2.2.2.2))))
def rNar_R (r : Bool) (w0 : World) (v : Value) (w : World) : Prop := v = .bool r ∧ St [] w0 w []
theorem rNar_ok (N : Nat) (p0 : List (Int × Int × Int × Bool × Bool)) (p1 : Int) (A0 : Option Addr) (c0 : Nat) (vs0 : List Value) (ft0 : List Nat) (r : Bool) (hF : rNar N p0 p1 = some r) (w0 : World) (hv0 : (fSl enccalamusref13Unit A0 c0 vs0 p0).rd w0 ft0) (ho0 : Off [] w0 ft0) :
  Calls Tryz.prog 73 #[.slice A0 p0.length c0, .int .i64 p1] w0 fun e w => ∃ v, e = .returned v ∧ rNar_R r w0 v w := by
 have hS0 := (St.start w0).pool0
 unfold rNar at hF
 refine calls_of Tryz.func73 rfl ⟨((.slice A0 p0.length c0) :: (i6 p1) :: un 19 ([])).toArray, []⟩ (by kernel_rfl) (gx_seq (fun K1 hK2 => gx_region (gx_k (.bool false) w0 (gx_nil (gx_thenN (hK2 _ _ (gx_seq (fun K3 hK4 => ?_))))))))
 refine gx_region (gx_k (i6 p1) w0 ?_)
 obtain ⟨c9, hE10, hO11⟩ := bind_in hF
 refine gx_part (l1 := [_, _, _, _, _, _, _]) (fun a w => ∃ (b8 : Bool), selfA (fun u7 => ⟨((.slice A0 p0.length c0) :: (i6 p1) :: undef :: undef :: (.bool false) :: (i6 p1) :: dd u7 6 6 ((.bool b8) :: un 8 ([]))).toArray, []⟩) a ∧ b8 = c9 ∧ St [] w0 w [poolE ([]) w0]) rfl ?_ ?_
 rcases if_in hE10 with ⟨h13, hE10⟩ | ⟨h13, hE10⟩
 refine gx_v (.bool true) w0 (rbE (decide_eq_true h13)) (gx_k (.bool true) w0 (gx_o (gx_o (gx_o (gx_o (gx_k (.bool true) w0 (gx_nil (gx_thenN ?_))))))))
 exact ⟨true, selfA_i (by kernel_rfl), (sj hE10), hS0⟩
 refine gx_v (.bool false) w0 (rbE (decide_eq_false h13)) (gx_k (.bool false) w0 (gx_k (i6 p1) w0 (gx_k (.slice A0 p0.length c0) w0 (gx_k (i6 ((p0.length : Nat) : Int)) w0 ?_))))
 rcases if_in hE10 with ⟨h14, hE10⟩ | ⟨h14, hE10⟩
 refine gx_v (.bool true) w0 (rbE (decide_eq_true h14)) (gx_k (.bool true) w0 (gx_nil (gx_thenN ?_)))
 exact ⟨true, selfA_i (by kernel_rfl), (sj hE10), hS0⟩
 refine gx_v (.bool false) w0 (rbE (decide_eq_false h14)) (gx_k (.bool false) w0 (gx_nil (gx_thenN ?_)))
 exact ⟨false, selfA_i (by kernel_rfl), (sj hE10), hS0⟩
 rintro _ w5 ⟨b8, hq12, rfl, hS6⟩
 obtain ⟨u7, rfl⟩ := selfA_u hq12
 try dsimp only at hO11
 refine gx_k (.bool b8) w5 ?_
 rcases b8 with _ | _
 try dsimp only at hO11
 refine gx_k (.slice A0 p0.length c0) w5 (gx_k (i6 p1) w5 ?_)
 obtain ⟨x15, hx16, hO11⟩ := bind_in hO11
 obtain ⟨g17, o18, e19, hA20, he21, h22, ha23⟩ := elem_at (e := enccalamusref13Unit) (sl_lies (hS6.inn ho0 hv0)) (sl_each hv0) hx16 (by decide)
 obtain ⟨e24, e25, rfl, h26, h27⟩ := h22
 obtain rfl := h26
 obtain ⟨e28, e29, rfl, h30, h31⟩ := h27
 obtain rfl := h30
 obtain ⟨e32, e33, rfl, h34, h35⟩ := h31
 obtain rfl := h34
 obtain ⟨e36, e37, rfl, h38, h39⟩ := h35
 obtain rfl := h38
 obtain rfl := h39
 have ha23 : ∀ w', Lies w' A0 vs0 → w'.rangeAt g17 o18 [i6 x15.1, .int .i32 x15.2.1, i6 x15.2.2.1, .bool x15.2.2.2.1, .bool x15.2.2.2.2] := ha23
 refine gx_v (.pointer (some ⟨g17, o18, none⟩)) w5 (run_ixaddrN (E := 49) (s := 5) (k := .i64) (c := c0) rfl (by kernel_rfl) (by kernel_rfl) (by kernel_rfl) (fun _ => by kernel_rfl) (ixg_in hx16).1 (ixg_in hx16).2.1 hA20) (gx_k (.pointer (some ⟨g17, o18 + 4, none⟩)) w5 (gx_v (.bool x15.2.2.2.2) w5 (run_loadN1 4 rfl (by kernel_rfl) (fun _ => by kernel_rfl) (ha23 _ (sl_lies (hS6.inn ho0 hv0))) rfl) (gx_k (.bool (!x15.2.2.2.2)) w5 (gx_k (.bool (!x15.2.2.2.2)) w5 (gx_k (.bool (!x15.2.2.2.2)) w5 (gx_nil (gx_thenN (hK4 _ _ (gx_ret ?_)))))))))
 obtain rfl := sj hO11
 exact gxF (.bool (!x15.2.2.2.2)) ⟨_, rfl, rfl, (hS6.pick [] rfl rfl)⟩
 try dsimp only at hO11
 refine gx_o (gx_o (gx_o (gx_o (gx_o (gx_o (gx_k (.bool true) w5 (gx_k (.bool true) w5 (gx_nil (gx_thenN (hK4 _ _ (gx_ret ?_)))))))))))
 obtain rfl := sj hO11
 exact gxF (.bool true) ⟨_, rfl, rfl, (hS6.pick [] rfl rfl)⟩
def rNum_L1 (N : Nat) (p0 : List (Int × Int × Int × Bool × Bool)) : Nat → Int → Option (Int)
 | 0, _ => none
 | k14+1, x13 => (if x13 ≥ 0 then ((ixg p0 x13).bind fun x21 => (if x21.1 = 24 then rNum_L1 N p0 k14 (IntKind.i64.wrap (x13 - 1)) else ((ixg p0 x13).bind fun x47 => (if x47.1 = 23 then rNum_L1 N p0 k14 (IntKind.i64.wrap (x13 - 1)) else some (x13))))) else some (x13))
def rNum (N : Nat) (p0 : List (Int × Int × Int × Bool × Bool)) (p1 : Int) : Option (Bool) :=
 ((rNum_L1 N p0 N p1 : Option (Int)).bind fun x6 => (if x6 ≥ 0 then ((ixg p0 x6).bind fun x77 => some (decide (x77.1 = 27))) else some false))
def rNum_R (r : Bool) (w0 : World) (v : Value) (w : World) : Prop := v = .bool r ∧ St [] w0 w []
theorem rNum_ok (N : Nat) (p0 : List (Int × Int × Int × Bool × Bool)) (p1 : Int) (A0 : Option Addr) (c0 : Nat) (vs0 : List Value) (ft0 : List Nat) (r : Bool) (hF : rNum N p0 p1 = some r) (w0 : World) (hv0 : (fSl enccalamusref13Unit A0 c0 vs0 p0).rd w0 ft0) (ho0 : Off [] w0 ft0) :
  Calls Tryz.prog 93 #[.slice A0 p0.length c0, .int .i64 p1] w0 fun e w => ∃ v, e = .returned v ∧ rNum_R r w0 v w := by
 have hS0 := (St.start w0).pool0
 unfold rNum at hF
 refine calls_of Tryz.func93 rfl ⟨((.slice A0 p0.length c0) :: (i6 p1) :: un 33 ([])).toArray, []⟩ (by kernel_rfl) (gx_seq (fun K1 hK2 => gx_region (gx_k (.bool false) w0 (gx_nil (gx_thenN (hK2 _ _ ?_))))))
 obtain ⟨c7, hE8, hO9⟩ := bind_in hF
 refine gx_cut (fun a w => ∃ (x6 : Int), selfA (fun u5 => ⟨((.slice A0 p0.length c0) :: (i6 x6) :: undef :: undef :: (.bool false) :: dd u5 5 20 (un 10 ([]))).toArray, []⟩) a ∧ x6 = c7 ∧ St [] w0 w [poolE ([]) w0]) ?_ ?_
 refine gx_block (gx_loop (fun k a w => ∃ (x13 : Int), selfA (fun u12 => ⟨((.slice A0 p0.length c0) :: (i6 x13) :: undef :: undef :: (.bool false) :: dd u12 5 20 (un 10 ([]))).toArray, []⟩) a ∧ rNum_L1 N p0 k x13 = some c7 ∧ St [] w0 w [poolE ([]) w0]) N ?_ ?_)
 exact ⟨p1, selfA_i (by kernel_rfl), hE8, hS0⟩
 rintro k14 _ w10 ⟨x13, hq73, hL15, hS11⟩
 obtain ⟨u12, rfl⟩ := selfA_u hq73
 rcases k14 with _ | k14
 cases hL15
 first | rw [rNum_L1] at hL15 | unfold rNum_L1 at hL15
 refine gx_seq (fun K16 hK17 => gx_seq (fun K18 hK19 => gx_region (gx_k (i6 x13) w10 ?_)))
 rcases if_in hL15 with ⟨h20, hL15⟩ | ⟨h20, hL15⟩
 refine gx_v (.bool true) w10 (rbE (decide_eq_true h20)) (gx_k (.bool true) w10 (gx_k (.slice A0 p0.length c0) w10 (gx_k (i6 x13) w10 ?_)))
 obtain ⟨x21, hx22, hL15⟩ := bind_in hL15
 obtain ⟨g23, o24, e25, hA26, he27, h28, ha29⟩ := elem_at (e := enccalamusref13Unit) (sl_lies (hS11.inn ho0 hv0)) (sl_each hv0) hx22 (by decide)
 obtain ⟨e30, e31, rfl, h32, h33⟩ := h28
 obtain rfl := h32
 obtain ⟨e34, e35, rfl, h36, h37⟩ := h33
 obtain rfl := h36
 obtain ⟨e38, e39, rfl, h40, h41⟩ := h37
 obtain rfl := h40
 obtain ⟨e42, e43, rfl, h44, h45⟩ := h41
 obtain rfl := h44
 obtain rfl := h45
 have ha29 : ∀ w', Lies w' A0 vs0 → w'.rangeAt g23 o24 [i6 x21.1, .int .i32 x21.2.1, i6 x21.2.2.1, .bool x21.2.2.2.1, .bool x21.2.2.2.2] := ha29
 refine gx_v (.pointer (some ⟨g23, o24, none⟩)) w10 (run_ixaddrN (E := 49) (s := 5) (k := .i64) (c := c0) rfl (by kernel_rfl) (by kernel_rfl) (by kernel_rfl) (fun _ => by kernel_rfl) (ixg_in hx22).1 (ixg_in hx22).2.1 hA26) (gx_k (.pointer (some ⟨g23, o24, none⟩)) w10 (gx_v (i6 x21.1) w10 (run_loadN1 0 rfl (by kernel_rfl) (fun _ => by kernel_rfl) (ha29 _ (sl_lies (hS11.inn ho0 hv0))) rfl) ?_))
 rcases if_in hL15 with ⟨h46, hL15⟩ | ⟨h46, hL15⟩
 refine gx_v (.bool true) w10 (rbE (decide_eq_true h46)) (gx_k (.bool true) w10 (gx_o (gx_o (gx_o (gx_o (gx_o (gx_o (gx_k (.bool true) w10 (gx_k (.bool true) w10 (gx_nil (gx_thenN (hK19 _ _ (gx_yes (by kernel_rfl) (gx_pass ?_))))))))))))))
 refine gx_thenN (hK17 _ _ (gx_block (gx_region (gx_k (i6 x13) w10 (gx_k (i6 (iw (x13 - 1))) w10 (gx_k (i6 (iw (x13 - 1))) w10 (gx_nil (gx_blkN (gx_thenN ?_)))))))))
 exact ⟨k14, Nat.lt_succ_self k14, (iw (x13 - 1)), selfA_i (by kernel_rfl), hL15, hS11⟩
 refine gx_v (.bool false) w10 (rbE (decide_eq_false h46)) (gx_k (.bool false) w10 (gx_k (.slice A0 p0.length c0) w10 (gx_k (i6 x13) w10 ?_)))
 obtain ⟨x47, hx48, hL15⟩ := bind_in hL15
 obtain ⟨g49, o50, e51, hA52, he53, h54, ha55⟩ := elem_at (e := enccalamusref13Unit) (sl_lies (hS11.inn ho0 hv0)) (sl_each hv0) hx48 (by decide)
 obtain ⟨e56, e57, rfl, h58, h59⟩ := h54
 obtain rfl := h58
 obtain ⟨e60, e61, rfl, h62, h63⟩ := h59
 obtain rfl := h62
 obtain ⟨e64, e65, rfl, h66, h67⟩ := h63
 obtain rfl := h66
 obtain ⟨e68, e69, rfl, h70, h71⟩ := h67
 obtain rfl := h70
 obtain rfl := h71
 have ha55 : ∀ w', Lies w' A0 vs0 → w'.rangeAt g49 o50 [i6 x47.1, .int .i32 x47.2.1, i6 x47.2.2.1, .bool x47.2.2.2.1, .bool x47.2.2.2.2] := ha55
 refine gx_v (.pointer (some ⟨g49, o50, none⟩)) w10 (run_ixaddrN (E := 49) (s := 5) (k := .i64) (c := c0) rfl (by kernel_rfl) (by kernel_rfl) (by kernel_rfl) (fun _ => by kernel_rfl) (ixg_in hx48).1 (ixg_in hx48).2.1 hA52) (gx_k (.pointer (some ⟨g49, o50, none⟩)) w10 (gx_v (i6 x47.1) w10 (run_loadN1 0 rfl (by kernel_rfl) (fun _ => by kernel_rfl) (ha55 _ (sl_lies (hS11.inn ho0 hv0))) rfl) ?_))
 rcases if_in hL15 with ⟨h72, hL15⟩ | ⟨h72, hL15⟩
 refine gx_v (.bool true) w10 (rbE (decide_eq_true h72)) (gx_k (.bool true) w10 (gx_k (.bool true) w10 (gx_nil (gx_thenN (hK19 _ _ (gx_yes (by kernel_rfl) (gx_pass (gx_thenN ?_))))))))
 refine hK17 _ _ (gx_block (gx_region (gx_k (i6 x13) w10 (gx_k (i6 (iw (x13 - 1))) w10 (gx_k (i6 (iw (x13 - 1))) w10 (gx_nil (gx_blkN (gx_thenN ?_))))))))
 exact ⟨k14, Nat.lt_succ_self k14, (iw (x13 - 1)), selfA_i (by kernel_rfl), hL15, hS11⟩
 refine gx_v (.bool false) w10 (rbE (decide_eq_false h72)) (gx_k (.bool false) w10 (gx_k (.bool false) w10 (gx_nil (gx_thenN (hK19 _ _ (gx_no (by kernel_rfl) (gx_exit (gx_thenE ?_))))))))
 refine gx_thenE (gx_blkE (gx_thenN ?_))
 exact ⟨x13, selfA_i (by kernel_rfl), (sj hL15), hS11⟩
 refine gx_v (.bool false) w10 (rbE (decide_eq_false h20)) (gx_k (.bool false) w10 (gx_o (gx_o (gx_o (gx_o (gx_o (gx_o (gx_o (gx_o (gx_o (gx_o (gx_o (gx_o (gx_o (gx_o (gx_k (.bool false) w10 (gx_nil (gx_thenN (hK19 _ _ (gx_no (by kernel_rfl) (gx_exit ?_)))))))))))))))))))))
 refine gx_thenE (gx_thenE (gx_blkE (gx_thenN ?_)))
 exact ⟨x13, selfA_i (by kernel_rfl), (sj hL15), hS11⟩
 rintro _ w3 ⟨x6, hq102, rfl, hS4⟩
 obtain ⟨u5, rfl⟩ := selfA_u hq102
 try dsimp only at hO9
 refine gx_seq (fun K74 hK75 => gx_region (gx_k (i6 x6) w3 ?_))
 rcases if_in hO9 with ⟨h76, hO9⟩ | ⟨h76, hO9⟩
 refine gx_v (.bool true) w3 (rbE (decide_eq_true h76)) (gx_k (.bool true) w3 (gx_k (.slice A0 p0.length c0) w3 (gx_k (i6 x6) w3 ?_)))
 obtain ⟨x77, hx78, hO9⟩ := bind_in hO9
 obtain ⟨g79, o80, e81, hA82, he83, h84, ha85⟩ := elem_at (e := enccalamusref13Unit) (sl_lies (hS4.inn ho0 hv0)) (sl_each hv0) hx78 (by decide)
 obtain ⟨e86, e87, rfl, h88, h89⟩ := h84
 obtain rfl := h88
 obtain ⟨e90, e91, rfl, h92, h93⟩ := h89
 obtain rfl := h92
 obtain ⟨e94, e95, rfl, h96, h97⟩ := h93
 obtain rfl := h96
 obtain ⟨e98, e99, rfl, h100, h101⟩ := h97
 obtain rfl := h100
 obtain rfl := h101
 have ha85 : ∀ w', Lies w' A0 vs0 → w'.rangeAt g79 o80 [i6 x77.1, .int .i32 x77.2.1, i6 x77.2.2.1, .bool x77.2.2.2.1, .bool x77.2.2.2.2] := ha85
 refine gx_v (.pointer (some ⟨g79, o80, none⟩)) w3 (run_ixaddrN (E := 49) (s := 5) (k := .i64) (c := c0) rfl (by kernel_rfl) (by kernel_rfl) (by kernel_rfl) (fun _ => by kernel_rfl) (ixg_in hx78).1 (ixg_in hx78).2.1 hA82) (gx_k (.pointer (some ⟨g79, o80, none⟩)) w3 (gx_v (i6 x77.1) w3 (run_loadN1 0 rfl (by kernel_rfl) (fun _ => by kernel_rfl) (ha85 _ (sl_lies (hS4.inn ho0 hv0))) rfl) (gx_k (.bool (decide (x77.1 = 27))) w3 (gx_k (.bool (decide (x77.1 = 27))) w3 (gx_k (.bool (decide (x77.1 = 27))) w3 (gx_nil (gx_thenN (hK75 _ _ (gx_ret ?_)))))))))
 obtain rfl := sj hO9
 exact gxF (.bool (decide (x77.1 = 27))) ⟨_, rfl, rfl, (hS4.pick [] rfl rfl)⟩
 refine gx_v (.bool false) w3 (rbE (decide_eq_false h76)) (gx_k (.bool false) w3 (gx_o (gx_o (gx_o (gx_o (gx_o (gx_o (gx_k (.bool false) w3 (gx_k (.bool false) w3 (gx_nil (gx_thenN (hK75 _ _ (gx_ret ?_)))))))))))))
 obtain rfl := sj hO9
 exact gxF (.bool false) ⟨_, rfl, rfl, (hS4.pick [] rfl rfl)⟩
def rOdd_L1 (N : Nat) (p0 : List (Int × Int × Int × Bool × Bool)) : Nat → Int → Int → Option (Int)
 | 0, _, _ => none
 | k17+1, x15, x16 => (if x15 ≥ 0 then ((ixg p0 x15).bind fun x24 => (if x24.1 = 32 then rOdd_L1 N p0 k17 (IntKind.i64.wrap (x15 - 1)) (IntKind.i64.wrap (x16 + 1)) else some (x16))) else some (x16))
def rOdd (N : Nat) (p0 : List (Int × Int × Int × Bool × Bool)) (p1 : Int) : Option (Bool) :=
 ((rOdd_L1 N p0 N p1 0 : Option (Int)).bind fun x8 => some (decide ((Int.tmod x8 2) = 1)))
def rOdd_R (r : Bool) (w0 : World) (v : Value) (w : World) : Prop := v = .bool r ∧ St [] w0 w []
theorem rOdd_ok (N : Nat) (p0 : List (Int × Int × Int × Bool × Bool)) (p1 : Int) (A0 : Option Addr) (c0 : Nat) (vs0 : List Value) (ft0 : List Nat) (r : Bool) (hF : rOdd N p0 p1 = some r) (w0 : World) (hv0 : (fSl enccalamusref13Unit A0 c0 vs0 p0).rd w0 ft0) (ho0 : Off [] w0 ft0) :
  Calls Tryz.prog 95 #[.slice A0 p0.length c0, .int .i64 p1] w0 fun e w => ∃ v, e = .returned v ∧ rOdd_R r w0 v w := by
 have hS0 := (St.start w0).pool0
 unfold rOdd at hF
 refine calls_of Tryz.func95 rfl ⟨((.slice A0 p0.length c0) :: (i6 p1) :: un 21 ([])).toArray, []⟩ (by kernel_rfl) (gx_seq (fun K1 hK2 => gx_region (gx_k (.bool false) w0 (gx_nil (gx_thenN (hK2 _ _ (gx_seq (fun K3 hK4 => ?_))))))))
 refine gx_region (gx_k (i6 0) w0 (gx_nil (gx_thenN (hK4 _ _ ?_))))
 obtain ⟨c9, hE10, hO11⟩ := bind_in hF
 refine gx_cut (fun a w => ∃ (x8 : Int), selfA (fun u7 => ⟨(dd u7 0 2 (undef :: undef :: (.bool false) :: (i6 x8) :: dd u7 6 14 (un 3 ([])))).toArray, []⟩) a ∧ x8 = c9 ∧ St [] w0 w [poolE ([]) w0]) ?_ ?_
 refine gx_block (gx_loop (fun k a w => ∃ (x15 : Int) (x16 : Int), selfA (fun u14 => ⟨((.slice A0 p0.length c0) :: (i6 x15) :: undef :: undef :: (.bool false) :: (i6 x16) :: dd u14 6 14 (un 3 ([]))).toArray, []⟩) a ∧ rOdd_L1 N p0 k x15 x16 = some c9 ∧ St [] w0 w [poolE ([]) w0]) N ?_ ?_)
 exact ⟨p1, 0, selfA_i (by kernel_rfl), hE10, hS0⟩
 rintro k17 _ w12 ⟨x15, x16, hq52, hL18, hS13⟩
 obtain ⟨u14, rfl⟩ := selfA_u hq52
 rcases k17 with _ | k17
 cases hL18
 first | rw [rOdd_L1] at hL18 | unfold rOdd_L1 at hL18
 refine gx_seq (fun K19 hK20 => gx_seq (fun K21 hK22 => gx_region (gx_k (i6 x15) w12 ?_)))
 rcases if_in hL18 with ⟨h23, hL18⟩ | ⟨h23, hL18⟩
 refine gx_v (.bool true) w12 (rbE (decide_eq_true h23)) (gx_k (.bool true) w12 (gx_k (.slice A0 p0.length c0) w12 (gx_k (i6 x15) w12 ?_)))
 obtain ⟨x24, hx25, hL18⟩ := bind_in hL18
 obtain ⟨g26, o27, e28, hA29, he30, h31, ha32⟩ := elem_at (e := enccalamusref13Unit) (sl_lies (hS13.inn ho0 hv0)) (sl_each hv0) hx25 (by decide)
 obtain ⟨e33, e34, rfl, h35, h36⟩ := h31
 obtain rfl := h35
 obtain ⟨e37, e38, rfl, h39, h40⟩ := h36
 obtain rfl := h39
 obtain ⟨e41, e42, rfl, h43, h44⟩ := h40
 obtain rfl := h43
 obtain ⟨e45, e46, rfl, h47, h48⟩ := h44
 obtain rfl := h47
 obtain rfl := h48
 have ha32 : ∀ w', Lies w' A0 vs0 → w'.rangeAt g26 o27 [i6 x24.1, .int .i32 x24.2.1, i6 x24.2.2.1, .bool x24.2.2.2.1, .bool x24.2.2.2.2] := ha32
 refine gx_v (.pointer (some ⟨g26, o27, none⟩)) w12 (run_ixaddrN (E := 49) (s := 5) (k := .i64) (c := c0) rfl (by kernel_rfl) (by kernel_rfl) (by kernel_rfl) (fun _ => by kernel_rfl) (ixg_in hx25).1 (ixg_in hx25).2.1 hA29) (gx_k (.pointer (some ⟨g26, o27, none⟩)) w12 (gx_v (i6 x24.1) w12 (run_loadN1 0 rfl (by kernel_rfl) (fun _ => by kernel_rfl) (ha32 _ (sl_lies (hS13.inn ho0 hv0))) rfl) ?_))
 rcases if_in hL18 with ⟨h49, hL18⟩ | ⟨h49, hL18⟩
 refine gx_v (.bool true) w12 (rbE (decide_eq_true h49)) (gx_k (.bool true) w12 (gx_nil (gx_thenN (hK22 _ _ (gx_yes (by kernel_rfl) (gx_pass (gx_thenN ?_)))))))
 refine hK20 _ _ (gx_block (gx_seq (fun K50 hK51 => gx_region (gx_k (i6 x16) w12 (gx_k (i6 (iw (x16 + 1))) w12 (gx_k (i6 (iw (x16 + 1))) w12 (gx_nil (gx_thenN (hK51 _ _ ?_)))))))))
 refine gx_region (gx_k (i6 x15) w12 (gx_k (i6 (iw (x15 - 1))) w12 (gx_k (i6 (iw (x15 - 1))) w12 (gx_nil (gx_blkN (gx_thenN ?_))))))
 exact ⟨k17, Nat.lt_succ_self k17, (iw (x15 - 1)), (iw (x16 + 1)), selfA_i (by kernel_rfl), hL18, hS13⟩
 refine gx_v (.bool false) w12 (rbE (decide_eq_false h49)) (gx_k (.bool false) w12 (gx_nil (gx_thenN (hK22 _ _ (gx_no (by kernel_rfl) (gx_exit (gx_thenE ?_)))))))
 refine gx_thenE (gx_blkE (gx_thenN ?_))
 exact ⟨x16, selfA_i (by kernel_rfl), (sj hL18), hS13⟩
 refine gx_v (.bool false) w12 (rbE (decide_eq_false h23)) (gx_k (.bool false) w12 (gx_o (gx_o (gx_o (gx_o (gx_o (gx_o (gx_k (.bool false) w12 (gx_nil (gx_thenN (hK22 _ _ (gx_no (by kernel_rfl) (gx_exit (gx_thenE ?_))))))))))))))
 refine gx_thenE (gx_blkE (gx_thenN ?_))
 exact ⟨x16, selfA_i (by kernel_rfl), (sj hL18), hS13⟩
 rintro _ w5 ⟨x8, hq55, rfl, hS6⟩
 obtain ⟨u7, rfl⟩ := selfA_u hq55
 try dsimp only at hO11
 refine gx_seq (fun K53 hK54 => gx_region (gx_k (i6 x8) w5 (gx_k (i6 (Int.tmod x8 2)) w5 (gx_k (.bool (decide ((Int.tmod x8 2) = 1))) w5 (gx_k (.bool (decide ((Int.tmod x8 2) = 1))) w5 (gx_nil (gx_thenN (hK54 _ _ (gx_ret ?_)))))))))
 obtain rfl := sj hO11
 exact gxF (.bool (decide ((Int.tmod x8 2) = 1))) ⟨_, rfl, rfl, (hS6.pick [] rfl rfl)⟩
def rLet (_N : Nat) (p0 : Int) : Option (Bool) :=
 (if p0 = 0 then some true else some (decide (p0 = 28)))
def rLet_R (r : Bool) (w0 : World) (v : Value) (w : World) : Prop := v = .bool r ∧ St [] w0 w []
theorem rLet_ok (N : Nat) (p0 : Int)  (r : Bool) (hF : rLet N p0 = some r) (w0 : World)  :
  Calls Tryz.prog 92 #[.int .i64 p0] w0 fun e w => ∃ v, e = .returned v ∧ rLet_R r w0 v w := by
 have hS0 := St.start w0
 unfold rLet at hF
 refine calls_of Tryz.func92 rfl ⟨((i6 p0) :: un 8 ([])).toArray, []⟩ (by kernel_rfl) (gx_seq (fun K1 hK2 => gx_region (gx_k (.bool false) w0 (gx_nil (gx_thenN (hK2 _ _ (gx_seq (fun K3 hK4 => ?_))))))))
 refine gx_region (gx_k (i6 p0) w0 ?_)
 rcases if_in hF with ⟨h5, hF⟩ | ⟨h5, hF⟩
 refine gx_v (.bool true) w0 (rbE (decide_eq_true h5)) (gx_k (.bool true) w0 (gx_o (gx_o (gx_k (.bool true) w0 (gx_k (.bool true) w0 (gx_nil (gx_thenN (hK4 _ _ (gx_ret ?_)))))))))
 obtain rfl := sj hF
 exact gxF (.bool true) ⟨_, rfl, rfl, hS0⟩
 refine gx_v (.bool false) w0 (rbE (decide_eq_false h5)) (gx_k (.bool false) w0 (gx_k (i6 p0) w0 (gx_k (.bool (decide (p0 = 28))) w0 (gx_k (.bool (decide (p0 = 28))) w0 (gx_k (.bool (decide (p0 = 28))) w0 (gx_nil (gx_thenN (hK4 _ _ (gx_ret ?_)))))))))
 obtain rfl := sj hF
 exact gxF (.bool (decide (p0 = 28))) ⟨_, rfl, rfl, hS0⟩
def rHan (N : Nat) (p0 : Int) : Option (Bool) :=
 ((rIn N p0 ([33, 34, 35, 36, 37])).bind fun b9 => some b9)
def rHan_R (r : Bool) (w0 : World) (v : Value) (w : World) : Prop := v = .bool r ∧ St [] w0 w []
theorem rHan_ok (N : Nat) (p0 : Int)  (r : Bool) (hF : rHan N p0 = some r) (w0 : World)  :
  Calls Tryz.prog 94 #[.int .i64 p0] w0 fun e w => ∃ v, e = .returned v ∧ rHan_R r w0 v w := by
 have hS0 := St.start w0
 unfold rHan at hF
 refine calls_of Tryz.func94 rfl ⟨((i6 p0) :: un 5 ([])).toArray, []⟩ (by kernel_rfl) (gx_seq (fun K1 hK2 => gx_region (gx_k (.bool false) w0 (gx_nil (gx_thenN (hK2 _ _ (gx_seq (fun K3 hK4 => ?_))))))))
 refine gx_region (gx_k (i6 p0) w0 (gx_r (st_made .i64 3 [33, 34, 35, 36, 37] hS0 (by show 5 ≤ 1000000000; decide) (by kernel_rfl)) ?_))
 rintro _ w5 ⟨rfl, hS6⟩
 have hS6 : St _ _ w5 [rowE .i64 3 (some ⟨w0.heap.size, 0, none⟩) 5 ([33, 34, 35, 36, 37])] := hS6
 have hP7 : St _ _ w5 ([] ++ [rowE .i64 3 (some ⟨w0.heap.size, 0, none⟩) 5 ([33, 34, 35, 36, 37])]) := hS6
 obtain ⟨b9, hc8, hF⟩ := bind_in hF
 try dsimp only at hF
 refine gx_c _ (rIn_ok N p0 ([33, 34, 35, 36, 37]) (some ⟨w0.heap.size, 0, none⟩) 5 _ hc8 w5 (hP7.vwB 0 rfl)) ?_
 rintro _ w10 ⟨rfl, hT12⟩
 have hS11 : St _ _ w10 [rowE .i64 3 (some ⟨w0.heap.size, 0, none⟩) 5 ([33, 34, 35, 36, 37])] := hS6.take _ hT12
 refine gx_k (.bool b9) w10 (gx_nil (gx_thenN (hK4 _ _ (gx_ret ?_))))
 obtain rfl := sj hF
 exact gxF (.bool b9) ⟨_, rfl, rfl, (hS11.pick [] rfl rfl)⟩
end Go.Proofs.YtdbimchiecdkoaaGreat

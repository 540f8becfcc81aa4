/-
 Put.
-/
import Derived.Test.YtcleaepcjbfmhaaT2
import Derived.Test.YtcleaepcjbfmhaaShelf
namespace Go.Proofs.Ytcleaepcjbfmhaa
open Go Go.RowKit

def bKind (_N : Nat) (p0 : Int) : Option (Int × Int × Int) :=
 (if p0 = 98 then some (0, 255, 1) else (if p0 = 72 then some (0, 65535, 2) else (if p0 = 104 then some (-32768, 32767, 2) else (if p0 = 73 then some (0, 4294967295, 4) else some (1, 0, 0)))))

def bKind_R (r : Int × Int × Int) (w0 : World) (v : Value) (w : World) : Prop := v = .agg #[.int .i64 r.1, .int .i64 r.2.1, .int .i64 r.2.2] ∧ St [] w0 w []

set_option maxRecDepth 100000 in
set_option maxHeartbeats 4000000 in
theorem bKind_ok (N : Nat) (p0 : Int)  (r : Int × Int × Int) (hF : bKind N p0 = some r) (w0 : World)  :
  Calls Try.prog 46 #[.int .u8 p0] w0 fun e w => ∃ v, e = .returned v ∧ bKind_R r w0 v w := by
 have hS0 := St.start w0
 unfold bKind at hF
 refine calls_of Try.func46 rfl ⟨((.int .u8 p0) :: undef :: undef :: undef :: undef :: undef :: undef :: undef :: undef :: undef :: undef :: undef :: undef :: undef :: undef :: undef :: undef :: []).toArray, []⟩ (by kernel_rfl) ?_
 refine gx_seq (fun K1 hK2 => ?_)
 refine gx_region ?_
 refine gx_r (st_boxed [.int .i64 0, .int .i64 0, .int .i64 0] 88 hS0 (by kernel_rfl)) ?_
 rintro _ w3 ⟨rfl, hS4⟩
 have hS4 : St _ _ w3 [boxE w0.heap.size [.int .i64 0, .int .i64 0, .int .i64 0] 88] := hS4
 refine gx_nil ?_
 refine gx_thenN ?_
 refine hK2 _ _ ?_
 refine gx_seq (fun K5 hK6 => ?_)
 refine gx_seq (fun K7 hK8 => ?_)
 refine gx_region ?_
 refine gx_k (.int .u8 p0) w3 ?_
 refine gx_nil ?_
 refine gx_thenN ?_
 refine hK8 _ _ ?_
 refine gx_block ?_
 refine gx_seq (fun K9 hK10 => ?_)
 refine gx_region ?_
 rcases if_in hF with ⟨h11, hF⟩ | ⟨h11, hF⟩
 ·refine gx_v (.bool true) w3 (run_boolE (decide_eq_true h11) (by kernel_rfl)) ?_
  refine gx_k (.bool true) w3 ?_
  refine gx_nil ?_
  refine gx_thenN ?_
  refine hK10 _ _ ?_
  refine gx_yes (by kernel_rfl) ?_
  refine gx_seq (fun K12 hK13 => ?_)
  refine gx_region ?_
  refine gx_k (.agg #[.int .i64 0, .int .i64 255, .int .i64 1]) w3 ?_
  refine gx_s (st_storeG (cs := [.int .i64 0, .int .i64 0, .int .i64 0]) (ds := [.int .i64 0, .int .i64 255, .int .i64 1]) rfl (by kernel_rfl) (by kernel_rfl) (by kernel_rfl) rfl rfl hS4 0 rfl) ?_
  rintro w14 hS15
  have hS15 : St _ _ w14 [boxE w0.heap.size [.int .i64 0, .int .i64 255, .int .i64 1] 88] := hS15
  refine gx_nil ?_
  refine gx_thenN ?_
  refine hK13 _ _ ?_
  refine gx_ret ?_
  refine gx_blkR ?_
  refine gx_thenR ?_
  obtain rfl := Option.some.inj hF
  exact gx_fin (.agg #[.int .i64 0, .int .i64 255, .int .i64 1]) (by kernel_rfl) (res_cell rfl _ _ w0.heap.size _ _ _ (by kernel_rfl) (hS15.get 0 rfl) (by kernel_rfl) (by kernel_rfl)) ⟨_, rfl, rfl, (hS15.pick [] rfl rfl)⟩
 ·refine gx_v (.bool false) w3 (run_boolE (decide_eq_false h11) (by kernel_rfl)) ?_
  refine gx_k (.bool false) w3 ?_
  refine gx_nil ?_
  refine gx_thenN ?_
  refine hK10 _ _ ?_
  refine gx_no (by kernel_rfl) ?_
  refine gx_seq (fun K16 hK17 => ?_)
  refine gx_region ?_
  rcases if_in hF with ⟨h18, hF⟩ | ⟨h18, hF⟩
  ·refine gx_v (.bool true) w3 (run_boolE (decide_eq_true h18) (by kernel_rfl)) ?_
   refine gx_k (.bool true) w3 ?_
   refine gx_nil ?_
   refine gx_thenN ?_
   refine hK17 _ _ ?_
   refine gx_yes (by kernel_rfl) ?_
   refine gx_seq (fun K19 hK20 => ?_)
   refine gx_region ?_
   refine gx_k (.agg #[.int .i64 0, .int .i64 65535, .int .i64 2]) w3 ?_
   refine gx_s (st_storeG (cs := [.int .i64 0, .int .i64 0, .int .i64 0]) (ds := [.int .i64 0, .int .i64 65535, .int .i64 2]) rfl (by kernel_rfl) (by kernel_rfl) (by kernel_rfl) rfl rfl hS4 0 rfl) ?_
   rintro w21 hS22
   have hS22 : St _ _ w21 [boxE w0.heap.size [.int .i64 0, .int .i64 65535, .int .i64 2] 88] := hS22
   refine gx_nil ?_
   refine gx_thenN ?_
   refine hK20 _ _ ?_
   refine gx_ret ?_
   refine gx_blkR ?_
   refine gx_thenR ?_
   obtain rfl := Option.some.inj hF
   exact gx_fin (.agg #[.int .i64 0, .int .i64 65535, .int .i64 2]) (by kernel_rfl) (res_cell rfl _ _ w0.heap.size _ _ _ (by kernel_rfl) (hS22.get 0 rfl) (by kernel_rfl) (by kernel_rfl)) ⟨_, rfl, rfl, (hS22.pick [] rfl rfl)⟩
  ·refine gx_v (.bool false) w3 (run_boolE (decide_eq_false h18) (by kernel_rfl)) ?_
   refine gx_k (.bool false) w3 ?_
   refine gx_nil ?_
   refine gx_thenN ?_
   refine hK17 _ _ ?_
   refine gx_no (by kernel_rfl) ?_
   refine gx_seq (fun K23 hK24 => ?_)
   refine gx_region ?_
   rcases if_in hF with ⟨h25, hF⟩ | ⟨h25, hF⟩
   ·refine gx_v (.bool true) w3 (run_boolE (decide_eq_true h25) (by kernel_rfl)) ?_
    refine gx_k (.bool true) w3 ?_
    refine gx_nil ?_
    refine gx_thenN ?_
    refine hK24 _ _ ?_
    refine gx_yes (by kernel_rfl) ?_
    refine gx_seq (fun K26 hK27 => ?_)
    refine gx_region ?_
    refine gx_k (.agg #[.int .i64 (-32768), .int .i64 32767, .int .i64 2]) w3 ?_
    refine gx_s (st_storeG (cs := [.int .i64 0, .int .i64 0, .int .i64 0]) (ds := [.int .i64 (-32768), .int .i64 32767, .int .i64 2]) rfl (by kernel_rfl) (by kernel_rfl) (by kernel_rfl) rfl rfl hS4 0 rfl) ?_
    rintro w28 hS29
    have hS29 : St _ _ w28 [boxE w0.heap.size [.int .i64 (-32768), .int .i64 32767, .int .i64 2] 88] := hS29
    refine gx_nil ?_
    refine gx_thenN ?_
    refine hK27 _ _ ?_
    refine gx_ret ?_
    refine gx_blkR ?_
    refine gx_thenR ?_
    obtain rfl := Option.some.inj hF
    exact gx_fin (.agg #[.int .i64 (-32768), .int .i64 32767, .int .i64 2]) (by kernel_rfl) (res_cell rfl _ _ w0.heap.size _ _ _ (by kernel_rfl) (hS29.get 0 rfl) (by kernel_rfl) (by kernel_rfl)) ⟨_, rfl, rfl, (hS29.pick [] rfl rfl)⟩
   ·refine gx_v (.bool false) w3 (run_boolE (decide_eq_false h25) (by kernel_rfl)) ?_
    refine gx_k (.bool false) w3 ?_
    refine gx_nil ?_
    refine gx_thenN ?_
    refine hK24 _ _ ?_
    refine gx_no (by kernel_rfl) ?_
    refine gx_seq (fun K30 hK31 => ?_)
    refine gx_region ?_
    rcases if_in hF with ⟨h32, hF⟩ | ⟨h32, hF⟩
    ·refine gx_v (.bool true) w3 (run_boolE (decide_eq_true h32) (by kernel_rfl)) ?_
     refine gx_k (.bool true) w3 ?_
     refine gx_nil ?_
     refine gx_thenN ?_
     refine hK31 _ _ ?_
     refine gx_yes (by kernel_rfl) ?_
     refine gx_seq (fun K33 hK34 => ?_)
     refine gx_region ?_
     refine gx_k (.agg #[.int .i64 0, .int .i64 4294967295, .int .i64 4]) w3 ?_
     refine gx_s (st_storeG (cs := [.int .i64 0, .int .i64 0, .int .i64 0]) (ds := [.int .i64 0, .int .i64 4294967295, .int .i64 4]) rfl (by kernel_rfl) (by kernel_rfl) (by kernel_rfl) rfl rfl hS4 0 rfl) ?_
     rintro w35 hS36
     have hS36 : St _ _ w35 [boxE w0.heap.size [.int .i64 0, .int .i64 4294967295, .int .i64 4] 88] := hS36
     refine gx_nil ?_
     refine gx_thenN ?_
     refine hK34 _ _ ?_
     refine gx_ret ?_
     refine gx_blkR ?_
     refine gx_thenR ?_
     obtain rfl := Option.some.inj hF
     exact gx_fin (.agg #[.int .i64 0, .int .i64 4294967295, .int .i64 4]) (by kernel_rfl) (res_cell rfl _ _ w0.heap.size _ _ _ (by kernel_rfl) (hS36.get 0 rfl) (by kernel_rfl) (by kernel_rfl)) ⟨_, rfl, rfl, (hS36.pick [] rfl rfl)⟩
    ·refine gx_v (.bool false) w3 (run_boolE (decide_eq_false h32) (by kernel_rfl)) ?_
     refine gx_k (.bool false) w3 ?_
     refine gx_nil ?_
     refine gx_thenN ?_
     refine hK31 _ _ ?_
     refine gx_no (by kernel_rfl) ?_
     refine gx_pass ?_
     refine gx_blkN ?_
     refine gx_thenN ?_
     refine hK6 _ _ ?_
     refine gx_seq (fun K37 hK38 => ?_)
     refine gx_region ?_
     refine gx_k (.agg #[.int .i64 1, .int .i64 0, .int .i64 0]) w3 ?_
     refine gx_s (st_storeG (cs := [.int .i64 0, .int .i64 0, .int .i64 0]) (ds := [.int .i64 1, .int .i64 0, .int .i64 0]) rfl (by kernel_rfl) (by kernel_rfl) (by kernel_rfl) rfl rfl hS4 0 rfl) ?_
     rintro w39 hS40
     have hS40 : St _ _ w39 [boxE w0.heap.size [.int .i64 1, .int .i64 0, .int .i64 0] 88] := hS40
     refine gx_nil ?_
     refine gx_thenN ?_
     refine hK38 _ _ ?_
     refine gx_ret ?_
     obtain rfl := Option.some.inj hF
     exact gx_fin (.agg #[.int .i64 1, .int .i64 0, .int .i64 0]) (by kernel_rfl) (res_cell rfl _ _ w0.heap.size _ _ _ (by kernel_rfl) (hS40.get 0 rfl) (by kernel_rfl) (by kernel_rfl)) ⟨_, rfl, rfl, (hS40.pick [] rfl rfl)⟩

def bKput_L1 (N : Nat) (p2 : Int) : Nat → List Int → Int → Option (List Int)
 | 0, _, _ => none
 | k39+1, l37, x38 => (if x38 ≥ 0 then (if (IntKind.i64.wrap ((8 : Int) * x38)) < 0 then none else ((apx l37 ([(IntKind.u8.wrap (ishr .i64 p2 (IntKind.i64.wrap ((8 : Int) * x38))))])).bind fun l51 => bKput_L1 N p2 k39 l51 (IntKind.i64.wrap (x38 - 1)))) else some (l37))
def bKput (N : Nat) (p0_0 : Int) (p0_1 : Int) (p0_2 : Int) (p1 : List Int) (p2 : Int) : Option (List Int × Bool) :=
 (((if p2 < p0_0 then some (Ctl.ret ([], false)) else (if p2 > p0_1 then some (Ctl.ret ([], false)) else some (Ctl.go ()))) : Option (Ctl (Unit) (List Int × Bool))).bind fun | Ctl.go () => ((bKput_L1 N p2 N p1 (IntKind.i64.wrap (p0_2 - 1)) : Option (List Int)).bind fun l26 => some (l26, true)) | Ctl.ret r => some r)

def bKput_R (p1 : List Int) (A1 : Option Addr) (c1 : Nat) (r : List Int × Bool) (w0 : World) (v : Value) (w : World) : Prop := ∃ (A0' : Option Addr) (c0' : Nat), v = .tuple #[.slice A0' r.1.length c0', .bool r.2] ∧ St (rowE .u8 5 A1 c1 p1).foot w0 w [rowE .u8 5 A0' c0' r.1]

set_option maxRecDepth 100000 in
set_option maxHeartbeats 4000000 in
theorem bKput_ok (N : Nat) (p0_0 : Int) (p0_1 : Int) (p0_2 : Int) (p1 : List Int) (p2 : Int) (A1 : Option Addr) (c1 : Nat) (r : List Int × Bool) (hF : bKput N p0_0 p0_1 p0_2 p1 p2 = some r) (w0 : World) (he1 : (rowE .u8 5 A1 c1 p1).holds w0) (hf1 : ∀ k ∈ (rowE .u8 5 A1 c1 p1).foot, k < w0.heap.size) :
  Calls Try.prog 47 #[.agg #[.int .i64 p0_0, .int .i64 p0_1, .int .i64 p0_2], .slice A1 p1.length c1, .int .i64 p2] w0 fun e w => ∃ v, e = .returned v ∧ bKput_R p1 A1 c1 r w0 v w := by
 have hS0 := St.lentE he1 hf1
 unfold bKput at hF
 refine calls_of Try.func47 rfl ⟨((.agg #[.int .i64 p0_0, .int .i64 p0_1, .int .i64 p0_2]) :: (.slice A1 p1.length c1) :: (.int .i64 p2) :: undef :: undef :: undef :: undef :: undef :: undef :: undef :: undef :: undef :: undef :: undef :: undef :: undef :: undef :: undef :: undef :: undef :: undef :: undef :: undef :: undef :: undef :: undef :: undef :: undef :: undef :: undef :: undef :: undef :: undef :: undef :: undef :: []).toArray, []⟩ (by kernel_rfl) ?_
 refine gx_seq (fun K1 hK2 => ?_)
 refine gx_region ?_
 refine gx_r (st_boxed [.int .i64 p0_0, .int .i64 p0_1, .int .i64 p0_2] 88 hS0 (by kernel_rfl)) ?_
 rintro _ w3 ⟨rfl, hS4⟩
 have hS4 : St _ _ w3 [rowE .u8 5 A1 c1 p1, boxE w0.heap.size [.int .i64 p0_0, .int .i64 p0_1, .int .i64 p0_2] 88] := hS4
 refine gx_k (.slice none 0 0) w3 (gx_k (.bool false) w3 ?_)
 refine gx_nil ?_
 refine gx_thenN ?_
 refine hK2 _ _ ?_
 obtain ⟨c8, hE9, hO10⟩ := bind_in hF
 refine gx_cut (fun a w => ∃ (u7 : Nat → Value), a = ⟨((.agg #[.int .i64 p0_0, .int .i64 p0_1, .int .i64 p0_2]) :: (.slice A1 p1.length c1) :: (.int .i64 p2) :: (.pointer (some ⟨w0.heap.size, 0, none⟩)) :: undef :: undef :: (u7 0) :: (u7 1) :: undef :: (u7 2) :: (u7 3) :: (u7 4) :: (u7 5) :: (u7 6) :: (u7 7) :: (u7 8) :: (u7 9) :: (u7 10) :: (u7 11) :: undef :: undef :: undef :: undef :: undef :: undef :: undef :: undef :: undef :: undef :: undef :: undef :: undef :: undef :: undef :: undef :: []).toArray, []⟩ ∧ Ctl.go () = c8 ∧ St (rowE .u8 5 A1 c1 p1).foot w0 w [boxE w0.heap.size [.int .i64 p0_0, .int .i64 p0_1, .int .i64 p0_2] 88, rowE .u8 5 A1 c1 p1]) ?_ ?_
 ·refine gx_seq (fun K11 hK12 => ?_)
  refine gx_region ?_
  refine gx_k (.int .i64 p2) w3 (gx_k (.pointer (some ⟨w0.heap.size, 0, none⟩)) w3 ?_)
  refine gx_v (.int .i64 p0_0) w3 (run_load1 rfl (by kernel_rfl) (fun _ => by kernel_rfl) (hS4.box 1 rfl 0 rfl)) ?_
  rcases if_in hE9 with ⟨h13, hE9⟩ | ⟨h13, hE9⟩
  ·refine gx_v (.bool true) w3 (run_boolE (decide_eq_true h13) (by kernel_rfl)) ?_
   refine gx_k (.bool true) w3 (gx_o (gx_o (gx_o (gx_o (gx_k (.bool true) w3 ?_)))))
   refine gx_nil ?_
   refine gx_thenN ?_
   refine hK12 _ _ ?_
   refine gx_yes (by kernel_rfl) ?_
   refine gx_seq (fun K14 hK15 => ?_)
   refine gx_region ?_
   refine gx_k (.slice none 0 0) w3 (gx_k (.bool false) w3 ?_)
   refine gx_nil ?_
   refine gx_thenN ?_
   refine hK15 _ _ ?_
   refine gx_ret ?_
   refine gx_thenR ?_
   obtain rfl := Option.some.inj hE9
   try dsimp only at hO10
   have hS16 : St _ _ w3 [rowE .u8 5 A1 c1 p1, boxE w0.heap.size [.int .i64 p0_0, .int .i64 p0_1, .int .i64 p0_2] 88, rowE .u8 5 none 0 ([])] := hS4.nilrow .u8 5
   obtain rfl := Option.some.inj hO10
   exact gx_fin (.tuple #[.slice none (([] : List Int).length) 0, .bool false]) (by kernel_rfl) (by kernel_rfl) ⟨_, rfl, none, 0, rfl, (hS16.pick [2] rfl rfl)⟩
  ·refine gx_v (.bool false) w3 (run_boolE (decide_eq_false h13) (by kernel_rfl)) ?_
   refine gx_k (.bool false) w3 (gx_k (.int .i64 p2) w3 (gx_k (.pointer (some ⟨w0.heap.size, 1, none⟩)) w3 ?_))
   refine gx_v (.int .i64 p0_1) w3 (run_load1 rfl (by kernel_rfl) (fun _ => by kernel_rfl) (hS4.box 1 rfl 1 rfl)) ?_
   rcases if_in hE9 with ⟨h17, hE9⟩ | ⟨h17, hE9⟩
   ·refine gx_v (.bool true) w3 (run_boolE (decide_eq_true h17) (by kernel_rfl)) ?_
    refine gx_k (.bool true) w3 ?_
    refine gx_nil ?_
    refine gx_thenN ?_
    refine hK12 _ _ ?_
    refine gx_yes (by kernel_rfl) ?_
    refine gx_seq (fun K18 hK19 => ?_)
    refine gx_region ?_
    refine gx_k (.slice none 0 0) w3 (gx_k (.bool false) w3 ?_)
    refine gx_nil ?_
    refine gx_thenN ?_
    refine hK19 _ _ ?_
    refine gx_ret ?_
    refine gx_thenR ?_
    obtain rfl := Option.some.inj hE9
    try dsimp only at hO10
    have hS20 : St _ _ w3 [rowE .u8 5 A1 c1 p1, boxE w0.heap.size [.int .i64 p0_0, .int .i64 p0_1, .int .i64 p0_2] 88, rowE .u8 5 none 0 ([])] := hS4.nilrow .u8 5
    obtain rfl := Option.some.inj hO10
    exact gx_fin (.tuple #[.slice none (([] : List Int).length) 0, .bool false]) (by kernel_rfl) (by kernel_rfl) ⟨_, rfl, none, 0, rfl, (hS20.pick [2] rfl rfl)⟩
   ·refine gx_v (.bool false) w3 (run_boolE (decide_eq_false h17) (by kernel_rfl)) ?_
    refine gx_k (.bool false) w3 ?_
    refine gx_nil ?_
    refine gx_thenN ?_
    refine hK12 _ _ ?_
    refine gx_no (by kernel_rfl) ?_
    refine gx_pass ?_
    refine gx_thenN ?_
    exact ⟨(fun i => List.getD ((.slice none 0 0) :: (.bool false) :: (.int .i64 p2) :: (.pointer (some ⟨w0.heap.size, 0, none⟩)) :: (.int .i64 p0_0) :: (.bool false) :: (.bool false) :: (.int .i64 p2) :: (.pointer (some ⟨w0.heap.size, 1, none⟩)) :: (.int .i64 p0_1) :: (.bool false) :: (.bool false) :: []) i undef), by kernel_rfl, (Option.some.inj hE9), (hS4.pick [1, 0] rfl rfl)⟩
 ·rintro _ w5 ⟨u7, rfl, rfl, hS6⟩
  try dsimp only at hO10
  obtain ⟨c27, hE28, hO29⟩ := bind_in hO10
  refine gx_cut (fun a w => ∃ (l26 : List Int) (A24 : Option Addr) (c25 : Nat) (u23 : Nat → Value), a = ⟨((.agg #[.int .i64 p0_0, .int .i64 p0_1, .int .i64 p0_2]) :: (.slice A24 l26.length c25) :: (.int .i64 p2) :: (.pointer (some ⟨w0.heap.size, 0, none⟩)) :: undef :: undef :: (u7 0) :: (u7 1) :: (u23 0) :: (u7 2) :: (u7 3) :: (u7 4) :: (u7 5) :: (u7 6) :: (u7 7) :: (u7 8) :: (u7 9) :: (u7 10) :: (u7 11) :: (u23 1) :: (u23 2) :: (u23 3) :: (u23 4) :: (u23 5) :: (u23 6) :: (u23 7) :: (u23 8) :: (u23 9) :: (u23 10) :: (u23 11) :: (u23 12) :: (u23 13) :: (u23 14) :: (u23 15) :: undef :: []).toArray, []⟩ ∧ l26 = c27 ∧ St (rowE .u8 5 A1 c1 p1).foot w0 w [boxE w0.heap.size [.int .i64 p0_0, .int .i64 p0_1, .int .i64 p0_2] 88, rowE .u8 5 A24 c25 l26]) ?_ ?_
  ·refine gx_seq (fun K30 hK31 => ?_)
   refine gx_region ?_
   refine gx_k (.pointer (some ⟨w0.heap.size, 2, none⟩)) w5 ?_
   refine gx_v (.int .i64 p0_2) w5 (run_load1 rfl (by kernel_rfl) (fun _ => by kernel_rfl) (hS6.box 0 rfl 2 rfl)) ?_
   refine gx_k (.int .i64 (IntKind.i64.wrap (p0_2 - 1))) w5 (gx_k (.int .i64 (IntKind.i64.wrap (p0_2 - 1))) w5 ?_)
   refine gx_nil ?_
   refine gx_thenN ?_
   refine hK31 _ _ ?_
   refine gx_block ?_
   refine gx_loop (fun k a w => ∃ (l37 : List Int) (x38 : Int) (A35 : Option Addr) (c36 : Nat) (u34 : Nat → Value), a = ⟨((.agg #[.int .i64 p0_0, .int .i64 p0_1, .int .i64 p0_2]) :: (.slice A35 l37.length c36) :: (.int .i64 p2) :: (.pointer (some ⟨w0.heap.size, 0, none⟩)) :: undef :: undef :: (u7 0) :: (u7 1) :: (.int .i64 x38) :: (u7 2) :: (u7 3) :: (u7 4) :: (u7 5) :: (u7 6) :: (u7 7) :: (u7 8) :: (u7 9) :: (u7 10) :: (u7 11) :: (.pointer (some ⟨w0.heap.size, 2, none⟩)) :: (.int .i64 p0_2) :: (.int .i64 (IntKind.i64.wrap (p0_2 - 1))) :: (u34 0) :: (u34 1) :: (u34 2) :: (u34 3) :: (u34 4) :: (u34 5) :: (u34 6) :: (u34 7) :: (u34 8) :: (u34 9) :: (u34 10) :: (u34 11) :: undef :: []).toArray, []⟩ ∧ bKput_L1 N p2 k l37 x38 = some c27 ∧ St (rowE .u8 5 A1 c1 p1).foot w0 w [boxE w0.heap.size [.int .i64 p0_0, .int .i64 p0_1, .int .i64 p0_2] 88, rowE .u8 5 A35 c36 l37]) N ?_ ?_
   ·exact ⟨p1, (IntKind.i64.wrap (p0_2 - 1)), A1, c1, (fun i => List.getD (undef :: undef :: undef :: undef :: undef :: undef :: undef :: undef :: undef :: undef :: undef :: undef :: []) i undef), by kernel_rfl, hE28, hS6⟩
   ·rintro k39 _ w32 ⟨l37, x38, A35, c36, u34, rfl, hL40, hS33⟩
    cases k39 with
    | zero => cases hL40
    | succ k39 =>
     rw [bKput_L1] at hL40
     refine gx_seq (fun K41 hK42 => ?_)
     refine gx_seq (fun K43 hK44 => ?_)
     refine gx_region ?_
     refine gx_k (.int .i64 x38) w32 ?_
     rcases if_in hL40 with ⟨h45, hL40⟩ | ⟨h45, hL40⟩
     ·refine gx_v (.bool true) w32 (run_boolE (decide_eq_true h45) (by kernel_rfl)) ?_
      refine gx_nil ?_
      refine gx_thenN ?_
      refine hK44 _ _ ?_
      refine gx_yes (by kernel_rfl) ?_
      refine gx_pass ?_
      refine gx_thenN ?_
      refine hK42 _ _ ?_
      refine gx_seq (fun K46 hK47 => ?_)
      refine gx_block ?_
      refine gx_region ?_
      refine gx_k (.slice A35 l37.length c36) w32 (gx_k (.int .i64 p2) w32 (gx_k (.int .i64 x38) w32 (gx_k (.int .i64 (IntKind.i64.wrap ((8 : Int) * x38))) w32 ?_)))
      rcases if_in hL40 with ⟨h48, hL40⟩ | ⟨h48, hL40⟩
      ·cases hL40
      ·refine gx_v (.int .i64 (ishr .i64 p2 (IntKind.i64.wrap ((8 : Int) * x38)))) w32 (run_shr (k2 := .i64) rfl (by kernel_rfl) (by kernel_rfl) h48) ?_
       refine gx_k (.int .u8 (IntKind.u8.wrap (ishr .i64 p2 (IntKind.i64.wrap ((8 : Int) * x38))))) w32 ?_
       refine gx_r (st_made .u8 5 [(IntKind.u8.wrap (ishr .i64 p2 (IntKind.i64.wrap ((8 : Int) * x38))))] hS33 (by show 1 ≤ 1000000000; decide) (by kernel_rfl)) ?_
       rintro _ w49 ⟨rfl, hS50⟩
       have hS50 : St _ _ w49 [boxE w0.heap.size [.int .i64 p0_0, .int .i64 p0_1, .int .i64 p0_2] 88, rowE .u8 5 A35 c36 l37, rowE .u8 5 (some ⟨w32.heap.size, 0, none⟩) 1 ([(IntKind.u8.wrap (ishr .i64 p2 (IntKind.i64.wrap ((8 : Int) * x38))))])] := hS50
       obtain ⟨l51, ha52, hL40⟩ := bind_in hL40
       obtain ⟨ha52, hq53⟩ := apx_in ha52
       refine gx_r (st_append rfl (by kernel_rfl) (by kernel_rfl) hS50 1 rfl (hS50.row 2 rfl).1 (hS50.row 2 rfl).2 ha52 (by kernel_rfl) (by kernel_rfl)) ?_
       rintro _ w56 ⟨A54, c55, rfl, hS57⟩
       rw [← hq53] at hS57 ⊢
       have hS57 : St _ _ w56 [boxE w0.heap.size [.int .i64 p0_0, .int .i64 p0_1, .int .i64 p0_2] 88, rowE .u8 5 A54 c55 l51, rowE .u8 5 (some ⟨w32.heap.size, 0, none⟩) 1 ([(IntKind.u8.wrap (ishr .i64 p2 (IntKind.i64.wrap ((8 : Int) * x38))))])] := hS57
       refine gx_k (.slice A54 l51.length c55) w56 ?_
       refine gx_nil ?_
       refine gx_blkN ?_
       refine gx_thenN ?_
       refine hK47 _ _ ?_
       refine gx_region ?_
       refine gx_k (.int .i64 x38) w56 (gx_k (.int .i64 (IntKind.i64.wrap (x38 - 1))) w56 (gx_k (.int .i64 (IntKind.i64.wrap (x38 - 1))) w56 ?_))
       refine gx_nil ?_
       refine gx_thenN ?_
       exact ⟨k39, Nat.lt_succ_self k39, l51, (IntKind.i64.wrap (x38 - 1)), A54, c55, (fun i => List.getD ((.int .i64 x38) :: (.bool true) :: (.int .i64 x38) :: (.int .i64 (IntKind.i64.wrap (x38 - 1))) :: (.slice A35 l37.length c36) :: (.int .i64 p2) :: (.int .i64 x38) :: (.int .i64 (IntKind.i64.wrap ((8 : Int) * x38))) :: (.int .i64 (ishr .i64 p2 (IntKind.i64.wrap ((8 : Int) * x38)))) :: (.int .u8 (IntKind.u8.wrap (ishr .i64 p2 (IntKind.i64.wrap ((8 : Int) * x38))))) :: (.slice (some ⟨w32.heap.size, 0, none⟩) (([(IntKind.u8.wrap (ishr .i64 p2 (IntKind.i64.wrap ((8 : Int) * x38))))]).length) 1) :: (.slice A54 l51.length c55) :: []) i undef), by kernel_rfl, hL40, (hS57.pick [0, 1] rfl rfl)⟩
     ·refine gx_v (.bool false) w32 (run_boolE (decide_eq_false h45) (by kernel_rfl)) ?_
      refine gx_nil ?_
      refine gx_thenN ?_
      refine hK44 _ _ ?_
      refine gx_no (by kernel_rfl) ?_
      refine gx_exit ?_
      refine gx_thenE ?_
      refine gx_thenE ?_
      refine gx_blkE ?_
      refine gx_thenN ?_
      exact ⟨l37, A35, c36, (fun i => List.getD ((.int .i64 x38) :: (.pointer (some ⟨w0.heap.size, 2, none⟩)) :: (.int .i64 p0_2) :: (.int .i64 (IntKind.i64.wrap (p0_2 - 1))) :: (.int .i64 x38) :: (.bool false) :: (u34 2) :: (u34 3) :: (u34 4) :: (u34 5) :: (u34 6) :: (u34 7) :: (u34 8) :: (u34 9) :: (u34 10) :: (u34 11) :: []) i undef), by kernel_rfl, (Option.some.inj hL40), hS33⟩
  ·rintro _ w21 ⟨l26, A24, c25, u23, rfl, rfl, hS22⟩
   try dsimp only at hO29
   refine gx_seq (fun K58 hK59 => ?_)
   refine gx_region ?_
   refine gx_k (.slice A24 l26.length c25) w21 (gx_k (.slice A24 l26.length c25) w21 (gx_k (.bool true) w21 ?_))
   refine gx_nil ?_
   refine gx_thenN ?_
   refine hK59 _ _ ?_
   refine gx_ret ?_
   obtain rfl := Option.some.inj hO29
   exact gx_fin (.tuple #[.slice A24 l26.length c25, .bool true]) (by kernel_rfl) (by kernel_rfl) ⟨_, rfl, A24, c25, rfl, (hS22.pick [1] rfl rfl)⟩

def bPut_L1 (N : Nat) (p0 : List Int) (p1 : ByteArray) : Nat → List Int → Int → Option (Ctl (List Int) (List Int × Int))
 | 0, _, _ => none
 | k40+1, l38, x39 => (if x39 < ((p0.length : Nat) : Int) then ((ix p0 x39).bind fun x51 => ((ix (strL p1) x39).bind fun x57 => ((bKind N x57).bind fun (x63, x64, x65) => ((bKput N x63 x64 x65 l38 x51).bind fun (l71, b74) => (match b74 with | true => bPut_L1 N p0 p1 k40 l71 (IntKind.i64.wrap (x39 + 1)) | false => some (Ctl.ret ([], 2))))))) else some (Ctl.go l38))
def bPut (N : Nat) (p0 : List Int) (p1 : ByteArray) : Option (List Int × Int) :=
 (if ((p0.length : Nat) : Int) > 16777216 then some ([], 3) else (if ((p1.size : Nat) : Int) ≠ ((p0.length : Nat) : Int) then some ([], 2) else ((bPut_L1 N p0 p1 N ([]) 0 : Option (Ctl (List Int) (List Int × Int))).bind fun | Ctl.go l26 => some (l26, 0) | Ctl.ret r => some r)))

def bPut_R (r : List Int × Int) (w0 : World) (v : Value) (w : World) : Prop := ∃ (A0' : Option Addr) (c0' : Nat), v = .tuple #[.slice A0' r.1.length c0', .int .i64 r.2] ∧ St [] w0 w [rowE .u8 5 A0' c0' r.1]

set_option maxRecDepth 100000 in
set_option maxHeartbeats 4000000 in
theorem bPut_ok (N : Nat) (p0 : List Int) (p1 : ByteArray) (A0 : Option Addr) (c0 : Nat) (r : List Int × Int) (hF : bPut N p0 p1 = some r) (w0 : World) (hv0 : Vw [] .i64 w0 A0 c0 p0) :
  Calls Try.prog 38 #[.slice A0 p0.length c0, .string p1] w0 fun e w => ∃ v, e = .returned v ∧ bPut_R r w0 v w := by
 have hS0 := St.start w0
 unfold bPut at hF
 refine calls_of Try.func38 rfl ⟨((.slice A0 p0.length c0) :: (.string p1) :: undef :: undef :: undef :: undef :: undef :: undef :: undef :: undef :: undef :: undef :: undef :: undef :: undef :: undef :: undef :: undef :: undef :: undef :: undef :: undef :: undef :: undef :: undef :: undef :: undef :: undef :: undef :: undef :: undef :: undef :: undef :: undef :: undef :: undef :: undef :: undef :: undef :: []).toArray, []⟩ (by kernel_rfl) ?_
 refine gx_seq (fun K1 hK2 => ?_)
 refine gx_region ?_
 refine gx_k (.slice none 0 0) w0 (gx_k (.int .i64 0) w0 ?_)
 refine gx_nil ?_
 refine gx_thenN ?_
 refine hK2 _ _ ?_
 refine gx_seq (fun K3 hK4 => ?_)
 refine gx_seq (fun K5 hK6 => ?_)
 refine gx_region ?_
 refine gx_k (.slice A0 p0.length c0) w0 (gx_k (.int .i64 ((p0.length : Nat) : Int)) w0 ?_)
 rcases if_in hF with ⟨h7, hF⟩ | ⟨h7, hF⟩
 ·refine gx_v (.bool true) w0 (run_boolE (decide_eq_true h7) (by kernel_rfl)) ?_
  refine gx_nil ?_
  refine gx_thenN ?_
  refine hK6 _ _ ?_
  refine gx_yes (by kernel_rfl) ?_
  refine gx_seq (fun K8 hK9 => ?_)
  refine gx_region ?_
  refine gx_k (.slice none 0 0) w0 (gx_k (.int .i64 3) w0 ?_)
  refine gx_nil ?_
  refine gx_thenN ?_
  refine hK9 _ _ ?_
  refine gx_ret ?_
  refine gx_thenR ?_
  have hS10 : St _ _ w0 [rowE .u8 5 none 0 ([])] := hS0.nilrow .u8 5
  obtain rfl := Option.some.inj hF
  exact gx_fin (.tuple #[.slice none (([] : List Int).length) 0, .int .i64 3]) (by kernel_rfl) (by kernel_rfl) ⟨_, rfl, none, 0, rfl, hS10⟩
 ·refine gx_v (.bool false) w0 (run_boolE (decide_eq_false h7) (by kernel_rfl)) ?_
  refine gx_nil ?_
  refine gx_thenN ?_
  refine hK6 _ _ ?_
  refine gx_no (by kernel_rfl) ?_
  refine gx_pass ?_
  refine gx_thenN ?_
  refine hK4 _ _ ?_
  refine gx_seq (fun K11 hK12 => ?_)
  refine gx_seq (fun K13 hK14 => ?_)
  refine gx_region ?_
  refine gx_k (.string p1) w0 (gx_k (.int .i64 ((p1.size : Nat) : Int)) w0 (gx_k (.slice A0 p0.length c0) w0 (gx_k (.int .i64 ((p0.length : Nat) : Int)) w0 ?_)))
  rcases if_in hF with ⟨h15, hF⟩ | ⟨h15, hF⟩
  ·refine gx_v (.bool true) w0 (run_boolE (ne_yes h15) (by kernel_rfl)) ?_
   refine gx_nil ?_
   refine gx_thenN ?_
   refine hK14 _ _ ?_
   refine gx_yes (by kernel_rfl) ?_
   refine gx_seq (fun K16 hK17 => ?_)
   refine gx_region ?_
   refine gx_k (.slice none 0 0) w0 (gx_k (.int .i64 2) w0 ?_)
   refine gx_nil ?_
   refine gx_thenN ?_
   refine hK17 _ _ ?_
   refine gx_ret ?_
   refine gx_thenR ?_
   have hS18 : St _ _ w0 [rowE .u8 5 none 0 ([])] := hS0.nilrow .u8 5
   obtain rfl := Option.some.inj hF
   exact gx_fin (.tuple #[.slice none (([] : List Int).length) 0, .int .i64 2]) (by kernel_rfl) (by kernel_rfl) ⟨_, rfl, none, 0, rfl, hS18⟩
  ·refine gx_v (.bool false) w0 (run_boolE (ne_no h15) (by kernel_rfl)) ?_
   refine gx_nil ?_
   refine gx_thenN ?_
   refine hK14 _ _ ?_
   refine gx_no (by kernel_rfl) ?_
   refine gx_pass ?_
   refine gx_thenN ?_
   refine hK12 _ _ ?_
   refine gx_seq (fun K19 hK20 => ?_)
   refine gx_region ?_
   refine gx_k (.slice none 0 0) w0 ?_
   refine gx_nil ?_
   refine gx_thenN ?_
   refine hK20 _ _ ?_
   obtain ⟨c27, hE28, hO29⟩ := bind_in hF
   refine gx_cut (fun a w => ∃ (l26 : List Int) (A24 : Option Addr) (c25 : Nat) (u23 : Nat → Value), a = ⟨((.slice A0 p0.length c0) :: (.string p1) :: undef :: undef :: (u23 0) :: (u23 1) :: (.slice A24 l26.length c25) :: (u23 2) :: (u23 3) :: (u23 4) :: (.slice A0 p0.length c0) :: (.int .i64 ((p0.length : Nat) : Int)) :: (.bool false) :: (.string p1) :: (.int .i64 ((p1.size : Nat) : Int)) :: (.slice A0 p0.length c0) :: (.int .i64 ((p0.length : Nat) : Int)) :: (.bool false) :: (u23 5) :: (u23 6) :: (u23 7) :: (u23 8) :: (u23 9) :: (u23 10) :: (u23 11) :: (u23 12) :: (u23 13) :: (u23 14) :: (u23 15) :: (u23 16) :: (u23 17) :: (u23 18) :: (u23 19) :: (u23 20) :: (u23 21) :: (u23 22) :: (u23 23) :: (u23 24) :: undef :: []).toArray, []⟩ ∧ Ctl.go l26 = c27 ∧ St [] w0 w [rowE .u8 5 A24 c25 l26]) ?_ ?_
   ·refine gx_seq (fun K30 hK31 => ?_)
    refine gx_region ?_
    refine gx_k (.slice A0 p0.length c0) w0 (gx_k (.int .i64 ((p0.length : Nat) : Int)) w0 (gx_k (.int .i64 0) w0 ?_))
    refine gx_nil ?_
    refine gx_thenN ?_
    refine hK31 _ _ ?_
    refine gx_block ?_
    have hS32 : St _ _ w0 [rowE .u8 5 none 0 ([])] := hS0.nilrow .u8 5
    refine gx_loop (fun k a w => ∃ (l38 : List Int) (x39 : Int) (A36 : Option Addr) (c37 : Nat) (u35 : Nat → Value), a = ⟨((.slice A0 p0.length c0) :: (.string p1) :: undef :: undef :: (u35 0) :: (u35 1) :: (.slice A36 l38.length c37) :: (u35 2) :: (u35 3) :: (u35 4) :: (.slice A0 p0.length c0) :: (.int .i64 ((p0.length : Nat) : Int)) :: (.bool false) :: (.string p1) :: (.int .i64 ((p1.size : Nat) : Int)) :: (.slice A0 p0.length c0) :: (.int .i64 ((p0.length : Nat) : Int)) :: (.bool false) :: (.slice A0 p0.length c0) :: (.int .i64 ((p0.length : Nat) : Int)) :: (.int .i64 x39) :: (u35 5) :: (u35 6) :: (u35 7) :: (u35 8) :: (u35 9) :: (u35 10) :: (u35 11) :: (u35 12) :: (u35 13) :: (u35 14) :: (u35 15) :: (u35 16) :: (u35 17) :: (u35 18) :: (u35 19) :: (u35 20) :: (u35 21) :: undef :: []).toArray, []⟩ ∧ bPut_L1 N p0 p1 k l38 x39 = some c27 ∧ St [] w0 w [rowE .u8 5 A36 c37 l38]) N ?_ ?_
    ·exact ⟨([]), 0, none, 0, (fun i => List.getD ((.slice none 0 0) :: (.int .i64 0) :: undef :: undef :: undef :: undef :: undef :: undef :: undef :: undef :: undef :: undef :: undef :: undef :: undef :: undef :: undef :: undef :: undef :: undef :: undef :: undef :: []) i undef), by kernel_rfl, hE28, hS32⟩
    ·rintro k40 _ w33 ⟨l38, x39, A36, c37, u35, rfl, hL41, hS34⟩
     cases k40 with
     | zero => cases hL41
     | succ k40 =>
      rw [bPut_L1] at hL41
      refine gx_seq (fun K42 hK43 => ?_)
      refine gx_region ?_
      rcases if_in hL41 with ⟨h44, hL41⟩ | ⟨h44, hL41⟩
      ·refine gx_v (.bool true) w33 (run_boolE (decide_eq_true h44) (by kernel_rfl)) ?_
       refine gx_nil ?_
       refine gx_thenN ?_
       refine hK43 _ _ ?_
       refine gx_seq (fun K45 hK46 => ?_)
       refine gx_yes (by kernel_rfl) ?_
       refine gx_pass ?_
       refine gx_thenN ?_
       refine hK46 _ _ ?_
       refine gx_seq (fun K47 hK48 => ?_)
       refine gx_block ?_
       refine gx_seq (fun K49 hK50 => ?_)
       refine gx_region ?_
       refine gx_k (.int .i64 x39) w33 ?_
       obtain ⟨x51, hx52, hL41⟩ := bind_in hL41
       refine gx_v (.pointer (Option.map (fun p => p.add (Int.toNat x39 * 1)) A0)) w33 (run_ixaddr (E := 2) (s := 1) (k := .i64) (c := c0) rfl (by kernel_rfl) (by kernel_rfl) (by kernel_rfl) (fun _ => by kernel_rfl) (ix_in hx52).1 (ix_in hx52).2.1 (num_nil (hS34.view hv0))) ?_
       refine gx_v (.int .i64 x51) w33 (run_loadix rfl (by kernel_rfl) (fun _ => by kernel_rfl) (hS34.view hv0) hx52) ?_
       refine gx_k (.int .i64 x39) w33 (gx_k (.int .i64 x51) w33 ?_)
       refine gx_nil ?_
       refine gx_thenN ?_
       refine hK50 _ _ ?_
       refine gx_seq (fun K53 hK54 => ?_)
       refine gx_region ?_
       refine gx_k (.bool false) w33 ?_
       refine gx_nil ?_
       refine gx_thenN ?_
       refine hK54 _ _ ?_
       refine gx_seq (fun K55 hK56 => ?_)
       refine gx_region ?_
       refine gx_k (.string p1) w33 (gx_k (.int .i64 x39) w33 ?_)
       obtain ⟨x57, hx58, hL41⟩ := bind_in hL41
       refine gx_v (.int .u8 x57) w33 (run_strix (k := .i64) rfl (by kernel_rfl) (by kernel_rfl) (by kernel_rfl) hx58) ?_
       obtain ⟨⟨x63, x64, x65⟩, hc60, hL41⟩ := bind_in hL41
       try dsimp only at hL41
       refine gx_c (bKind_R  (x63, x64, x65) w33) (bKind_ok N x57 _ hc60 w33 ) ?_
       rintro _ w61 ⟨rfl, hT66⟩
       have hS62 : St _ _ w61 [rowE .u8 5 A36 c37 l38] := hS34.take _ hT66
       refine gx_k (.slice A36 l38.length c37) w61 (gx_k (.int .i64 x51) w61 ?_)
       obtain ⟨⟨l71, b74⟩, hc68, hL41⟩ := bind_in hL41
       try dsimp only at hL41
       refine gx_c (bKput_R l38 A36 c37 (l71, b74) w61) (bKput_ok N x63 x64 x65 l38 x51 A36 c37 _ hc68 w61 (hS62.get 0 rfl) (fun q hq => (hS62.foot 0 rfl q hq).2)) ?_
       rintro _ w69 ⟨A72, c73, rfl, hT75⟩
       have hS70 : St _ _ w69 [rowE .u8 5 A72 c73 l71] := hS62.give 0 rfl _ hT75
       refine gx_k (.tuple #[.slice A72 l71.length c73, .bool b74]) w69 (gx_k (.slice A72 l71.length c73) w69 (gx_k (.bool b74) w69 (gx_k (.slice A72 l71.length c73) w69 (gx_k (.bool b74) w69 ?_))))
       refine gx_nil ?_
       refine gx_thenN ?_
       refine hK56 _ _ ?_
       refine gx_seq (fun K76 hK77 => ?_)
       refine gx_region ?_
       refine gx_k (.bool b74) w69 ?_
       cases b74 with
       | true =>
        try dsimp only at hL41
        refine gx_k (.bool false) w69 ?_
        refine gx_nil ?_
        refine gx_thenN ?_
        refine hK77 _ _ ?_
        refine gx_no (by kernel_rfl) ?_
        refine gx_pass ?_
        refine gx_blkN ?_
        refine gx_thenN ?_
        refine hK48 _ _ ?_
        refine gx_region ?_
        refine gx_k (.int .i64 (IntKind.i64.wrap (x39 + 1))) w69 (gx_k (.int .i64 (IntKind.i64.wrap (x39 + 1))) w69 ?_)
        refine gx_nil ?_
        refine gx_thenN ?_
        exact ⟨k40, Nat.lt_succ_self k40, l71, (IntKind.i64.wrap (x39 + 1)), A72, c73, (fun i => List.getD ((u35 0) :: (u35 1) :: (.int .i64 x39) :: (.int .i64 x51) :: (.bool true) :: (.bool true) :: (.int .i64 x39) :: (.pointer (Option.map (fun p => p.add (Int.toNat x39 * 1)) A0)) :: (.int .i64 x51) :: (.tuple #[.slice A72 l71.length c73, .bool true]) :: (.string p1) :: (.int .i64 x39) :: (.int .u8 x57) :: (.agg #[.int .i64 x63, .int .i64 x64, .int .i64 x65]) :: (.slice A36 l38.length c37) :: (.int .i64 x51) :: (.tuple #[.slice A72 l71.length c73, .bool true]) :: (.slice A72 l71.length c73) :: (.bool true) :: (.bool true) :: (.bool false) :: (.int .i64 (IntKind.i64.wrap (x39 + 1))) :: []) i undef), by kernel_rfl, hL41, hS70⟩
       | false =>
        try dsimp only at hL41
        refine gx_k (.bool true) w69 ?_
        refine gx_nil ?_
        refine gx_thenN ?_
        refine hK77 _ _ ?_
        refine gx_yes (by kernel_rfl) ?_
        refine gx_seq (fun K78 hK79 => ?_)
        refine gx_region ?_
        refine gx_k (.slice none 0 0) w69 (gx_k (.int .i64 2) w69 ?_)
        refine gx_nil ?_
        refine gx_thenN ?_
        refine hK79 _ _ ?_
        refine gx_ret ?_
        refine gx_blkR ?_
        refine gx_thenR ?_
        refine gx_thenR ?_
        refine gx_blkR ?_
        refine gx_thenR ?_
        obtain rfl := Option.some.inj hL41
        try dsimp only at hO29
        have hS80 : St _ _ w69 [rowE .u8 5 A72 c73 l71, rowE .u8 5 none 0 ([])] := hS70.nilrow .u8 5
        obtain rfl := Option.some.inj hO29
        exact gx_fin (.tuple #[.slice none (([] : List Int).length) 0, .int .i64 2]) (by kernel_rfl) (by kernel_rfl) ⟨_, rfl, none, 0, rfl, (hS80.pick [1] rfl rfl)⟩
      ·refine gx_v (.bool false) w33 (run_boolE (decide_eq_false h44) (by kernel_rfl)) ?_
       refine gx_nil ?_
       refine gx_thenN ?_
       refine hK43 _ _ ?_
       refine gx_seq (fun K81 hK82 => ?_)
       refine gx_no (by kernel_rfl) ?_
       refine gx_exit ?_
       refine gx_thenE ?_
       refine gx_thenE ?_
       refine gx_blkE ?_
       refine gx_thenN ?_
       exact ⟨l38, A36, c37, (fun i => List.getD ((u35 0) :: (u35 1) :: (u35 2) :: (u35 3) :: (u35 4) :: (.slice A0 p0.length c0) :: (.int .i64 ((p0.length : Nat) : Int)) :: (.int .i64 x39) :: (.bool false) :: (u35 6) :: (u35 7) :: (u35 8) :: (u35 9) :: (u35 10) :: (u35 11) :: (u35 12) :: (u35 13) :: (u35 14) :: (u35 15) :: (u35 16) :: (u35 17) :: (u35 18) :: (u35 19) :: (u35 20) :: (u35 21) :: []) i undef), by kernel_rfl, (Option.some.inj hL41), hS34⟩
   ·rintro _ w21 ⟨l26, A24, c25, u23, rfl, rfl, hS22⟩
    try dsimp only at hO29
    refine gx_seq (fun K83 hK84 => ?_)
    refine gx_region ?_
    refine gx_k (.slice A24 l26.length c25) w21 (gx_k (.slice A24 l26.length c25) w21 (gx_k (.int .i64 0) w21 ?_))
    refine gx_nil ?_
    refine gx_thenN ?_
    refine hK84 _ _ ?_
    refine gx_ret ?_
    obtain rfl := Option.some.inj hO29
    exact gx_fin (.tuple #[.slice A24 l26.length c25, .int .i64 0]) (by kernel_rfl) (by kernel_rfl) ⟨_, rfl, A24, c25, rfl, hS22⟩

/-- copies of a string -/
def sRepeat (_N : Nat) (p0 : ByteArray) (p1 : Int) : Option ByteArray := if 0 ≤ p1 ∧ (p0.size : Int) * p1 ≤ 140737488355328 ∧ p1 ≤ 9223372036854775807 then some ⟨(Lib.repeatL p0.data.toList p1.toNat).toArray⟩ else none
def sRepeat_R (r : ByteArray) (w0 : World) (v : Value) (w : World) : Prop := v = .string r ∧ St [] w0 w []
theorem sRepeat_ok (N : Nat) (p0 : ByteArray) (p1 : Int) (r : ByteArray) (hF : sRepeat N p0 p1 = some r) (w0 : World) :
  Calls Try.prog 39 #[.string p0, .int .i64 p1] w0 fun e w => ∃ v, e = .returned v ∧ sRepeat_R r w0 v w := by
 unfold sRepeat at hF
 split at hF
 ·rename_i h
  obtain ⟨c, rfl⟩ : ∃ c : Nat, p1 = (c : Int) := ⟨p1.toNat, by omega⟩
  have hm : (p0.size : Int) * (c : Int) = ((p0.size * c : Nat) : Int) := by simp
  rw [hm] at h
  refine (Try.strings_Repeat p0 c w0 (by omega) (by omega)).mono ?_
  rintro e w ⟨rfl, hb⟩
  refine ⟨_, rfl, ?_, (St.start w0).stay hb⟩
  rw [← Option.some.inj hF]
  rfl
 ·cases hF

def cPut (N : Nat) (p0 : List Int) : Option (List Int) :=
 ((sRepeat N (⟨#[72]⟩ : ByteArray) ((p0.length : Nat) : Int)).bind fun s9 => ((bPut N p0 s9).bind fun (l15, _x18) => some l15))

def cPut_R (r : List Int) (w0 : World) (v : Value) (w : World) : Prop := ∃ (A0' : Option Addr) (c0' : Nat), v = .slice A0' r.length c0' ∧ St [] w0 w [rowE .u8 5 A0' c0' r]

set_option maxRecDepth 100000 in
set_option maxHeartbeats 4000000 in
theorem cPut_ok (N : Nat) (p0 : List Int) (A0 : Option Addr) (c0 : Nat) (r : List Int) (hF : cPut N p0 = some r) (w0 : World) (hv0 : Vw [] .i64 w0 A0 c0 p0) :
  Calls Try.prog 26 #[.slice A0 p0.length c0] w0 fun e w => ∃ v, e = .returned v ∧ cPut_R r w0 v w := by
 have hS0 := St.start w0
 unfold cPut at hF
 refine calls_of Try.func26 rfl ⟨((.slice A0 p0.length c0) :: undef :: undef :: undef :: undef :: undef :: undef :: undef :: undef :: undef :: undef :: undef :: undef :: undef :: []).toArray, []⟩ (by kernel_rfl) ?_
 refine gx_seq (fun K1 hK2 => ?_)
 refine gx_region ?_
 refine gx_k (.slice none 0 0) w0 ?_
 refine gx_nil ?_
 refine gx_thenN ?_
 refine hK2 _ _ ?_
 refine gx_seq (fun K3 hK4 => ?_)
 refine gx_region ?_
 refine gx_k (.slice A0 p0.length c0) w0 (gx_k (.slice A0 p0.length c0) w0 (gx_k (.int .i64 ((p0.length : Nat) : Int)) w0 ?_))
 obtain ⟨s9, hc6, hF⟩ := bind_in hF
 try dsimp only at hF
 refine gx_c (sRepeat_R  s9 w0) (sRepeat_ok N (⟨#[72]⟩ : ByteArray) ((p0.length : Nat) : Int) _ hc6 w0 ) ?_
 rintro _ w7 ⟨rfl, hT10⟩
 have hS8 : St _ _ w7 [] := hS0.take _ hT10
 obtain ⟨⟨l15, x18⟩, hc12, hF⟩ := bind_in hF
 try dsimp only at hF
 refine gx_c (bPut_R  (l15, x18) w7) (bPut_ok N p0 s9 A0 c0 _ hc12 w7 (Vw.of (hS8.view hv0) hv0.nn)) ?_
 rintro _ w13 ⟨A16, c17, rfl, hT19⟩
 have hS14 : St _ _ w13 [rowE .u8 5 A16 c17 l15] := hS8.take _ hT19
 refine gx_k (.tuple #[.slice A16 l15.length c17, .int .i64 x18]) w13 (gx_k (.slice A16 l15.length c17) w13 (gx_k (.int .i64 x18) w13 (gx_k (.slice A16 l15.length c17) w13 (gx_k (.int .i64 x18) w13 ?_))))
 refine gx_nil ?_
 refine gx_thenN ?_
 refine hK4 _ _ ?_
 refine gx_seq (fun K20 hK21 => ?_)
 refine gx_region ?_
 refine gx_k (.slice A16 l15.length c17) w13 (gx_k (.slice A16 l15.length c17) w13 ?_)
 refine gx_nil ?_
 refine gx_thenN ?_
 refine hK21 _ _ ?_
 refine gx_ret ?_
 obtain rfl := Option.some.inj hF
 exact gx_fin (.slice A16 l15.length c17) (by kernel_rfl) (by kernel_rfl) ⟨_, rfl, A16, c17, rfl, hS14⟩

end Go.Proofs.Ytcleaepcjbfmhaa

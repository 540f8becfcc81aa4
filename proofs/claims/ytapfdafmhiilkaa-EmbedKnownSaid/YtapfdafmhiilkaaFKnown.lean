/-
  EmbedKnown, walked.
-/
import Derived.Test.YtapfdafmhiilkaaFLevels
import Derived.Test.YtapfdafmhiilkaaFBounds
namespace Go.Proofs.Ytapfdafmhiilkaa
open Go Go.RowKit
set_option linter.unusedVariables false

def kDeep_L1 (N : Nat) (p0 : Int) (p1 : Int) : Nat → (List Int) → Int → Option (List Int)
 | 0, _, _ => none
 | k24+1, l22, x23 => (if x23 < p0 then ((apx l22 ([p1])).bind fun l35 => kDeep_L1 N p0 p1 k24 l35 (IntKind.i64.wrap (x23 + 1))) else some (l22))
def kDeep (N : Nat) (p0 : Int) (p1 : Int) : Option (List Int) :=
 ((kDeep_L1 N p0 p1 N ([]) 0 : Option (List Int)).bind fun l10 => ((apx l10 ([14])).bind fun l47 => some l47))

set_option linter.unusedVariables false in
def kDeep_R (r : List Int) (w0 : World) (v : Value) (w : World) : Prop := ∃ (A0' : Option Addr) (c0' : Nat), v = .slice A0' r.length c0' ∧ St [] w0 w [rowE .u8 26 A0' c0' r]

set_option maxRecDepth 100000 in
set_option maxHeartbeats 4000000 in
theorem kDeep_ok (N : Nat) (p0 : Int) (p1 : Int)  (r : List Int) (hF : kDeep N p0 p1 = some r) (w0 : World)  :
  Calls Try.prog 25 #[.int .i64 p0, .int .u8 p1] w0 fun e w => ∃ v, e = .returned v ∧ kDeep_R r w0 v w := by
 have hS0 := St.start w0
 unfold kDeep at hF
 refine calls_of Try.func25 rfl ⟨((.int .i64 p0) :: (.int .u8 p1) :: un 17 ([])).toArray, []⟩ (by kernel_rfl) ?_
 refine gx_seq (fun K1 hK2 => ?_)
 refine gx_region ?_
 refine gx_k (.slice none 0 0) w0 ?_
 refine gx_nil ?_
 refine gx_thenN ?_
 refine hK2 _ _ ?_
 refine gx_seq (fun K3 hK4 => ?_)
 refine gx_region ?_
 refine gx_k (.slice none 0 0) w0 ?_
 refine gx_nil ?_
 refine gx_thenN ?_
 refine hK4 _ _ ?_
 obtain ⟨c11, hE12, hO13⟩ := bind_in hF
 refine gx_cut (fun a w => ∃ (l10 : List Int) (A8 : Option Addr) (c9 : Nat), selfA (fun u7 => ⟨((.int .i64 p0) :: (.int .u8 p1) :: undef :: undef :: (.slice none 0 0) :: (.slice A8 l10.length c9) :: dd u7 6 10 (un 3 ([]))).toArray, []⟩) a ∧ l10 = c11 ∧ St [] w0 w [rowE .u8 26 A8 c9 l10]) ?_ ?_
 ·refine gx_seq (fun K14 hK15 => ?_)
  refine gx_region ?_
  refine gx_k (.int .i64 0) w0 ?_
  refine gx_nil ?_
  refine gx_thenN ?_
  refine hK15 _ _ ?_
  refine gx_block ?_
  have hS16 : St _ _ w0 [rowE .u8 26 none 0 ([])] := hS0.nilrow .u8 26
  refine gx_loop (fun k a w => ∃ (l22 : List Int) (x23 : Int) (A20 : Option Addr) (c21 : Nat), selfA (fun u19 => ⟨((.int .i64 p0) :: (.int .u8 p1) :: undef :: undef :: (.slice none 0 0) :: (.slice A20 l22.length c21) :: (.int .i64 x23) :: dd u19 7 9 (un 3 ([]))).toArray, []⟩) a ∧ kDeep_L1 N p0 p1 k l22 x23 = some c11 ∧ St [] w0 w [rowE .u8 26 A20 c21 l22]) N ?_ ?_
  ·exact ⟨([]), 0, none, 0, selfA_i (by kernel_rfl), hE12, hS16⟩
  ·rintro k24 _ w17 ⟨l22, x23, A20, c21, hq42, hL25, hS18⟩
   obtain ⟨u19, rfl⟩ := selfA_u hq42
   cases k24 with
   | zero => cases hL25
   | succ k24 =>
    rw [kDeep_L1] at hL25
    refine gx_seq (fun K26 hK27 => ?_)
    refine gx_seq (fun K28 hK29 => ?_)
    refine gx_region ?_
    refine gx_k (.int .i64 x23) w17 (gx_k (.int .i64 p0) w17 ?_)
    rcases if_in hL25 with ⟨h30, hL25⟩ | ⟨h30, hL25⟩
    ·refine gx_v (.bool true) w17 (run_boolE (decide_eq_true h30) (by kernel_rfl)) ?_
     refine gx_nil ?_
     refine gx_thenN ?_
     refine hK29 _ _ ?_
     refine gx_yes (by kernel_rfl) ?_
     refine gx_pass ?_
     refine gx_thenN ?_
     refine hK27 _ _ ?_
     refine gx_seq (fun K31 hK32 => ?_)
     refine gx_block ?_
     refine gx_region ?_
     refine gx_k (.slice A20 l22.length c21) w17 (gx_k (.int .u8 p1) w17 ?_)
     refine gx_r (st_made .u8 26 [p1] hS18 (by show 1 ≤ 1000000000; decide) (by kernel_rfl)) ?_
     rintro _ w33 ⟨rfl, hS34⟩
     have hS34 : St _ _ w33 [rowE .u8 26 A20 c21 l22, rowE .u8 26 (some ⟨w17.heap.size, 0, none⟩) 1 ([p1])] := hS34
     obtain ⟨l35, ha36, hL25⟩ := bind_in hL25
     obtain ⟨ha36, hq37⟩ := apx_in ha36
     refine gx_r (st_append rfl (by kernel_rfl) (by kernel_rfl) hS34 0 rfl (hS34.row 1 rfl).1 (hS34.row 1 rfl).2 ha36 (by kernel_rfl) (by kernel_rfl)) ?_
     rintro _ w40 ⟨A38, c39, rfl, hS41⟩
     rw [← hq37] at hS41 ⊢
     have hS41 : St _ _ w40 [rowE .u8 26 A38 c39 l35, rowE .u8 26 (some ⟨w17.heap.size, 0, none⟩) 1 ([p1])] := hS41
     refine gx_k (.slice A38 l35.length c39) w40 ?_
     refine gx_nil ?_
     refine gx_blkN ?_
     refine gx_thenN ?_
     refine hK32 _ _ ?_
     refine gx_region ?_
     refine gx_k (.int .i64 x23) w40 (gx_k (.int .i64 (IntKind.i64.wrap (x23 + 1))) w40 (gx_k (.int .i64 (IntKind.i64.wrap (x23 + 1))) w40 ?_))
     refine gx_nil ?_
     refine gx_thenN ?_
     exact ⟨k24, Nat.lt_succ_self k24, l35, (IntKind.i64.wrap (x23 + 1)), A38, c39, selfA_i (by kernel_rfl), hL25, (hS41.pick [0] rfl rfl)⟩
    ·refine gx_v (.bool false) w17 (run_boolE (decide_eq_false h30) (by kernel_rfl)) ?_
     refine gx_nil ?_
     refine gx_thenN ?_
     refine hK29 _ _ ?_
     refine gx_no (by kernel_rfl) ?_
     refine gx_exit ?_
     refine gx_thenE ?_
     refine gx_thenE ?_
     refine gx_blkE ?_
     refine gx_thenN ?_
     exact ⟨l22, A20, c21, selfA_i (by kernel_rfl), (Option.some.inj hL25), hS18⟩
 ·rintro _ w5 ⟨l10, A8, c9, hq54, rfl, hS6⟩
  obtain ⟨u7, rfl⟩ := selfA_u hq54
  try dsimp only at hO13
  refine gx_seq (fun K43 hK44 => ?_)
  refine gx_region ?_
  refine gx_k (.slice A8 l10.length c9) w5 ?_
  refine gx_r (st_made .u8 26 [14] hS6 (by show 1 ≤ 1000000000; decide) (by kernel_rfl)) ?_
  rintro _ w45 ⟨rfl, hS46⟩
  have hS46 : St _ _ w45 [rowE .u8 26 A8 c9 l10, rowE .u8 26 (some ⟨w5.heap.size, 0, none⟩) 1 ([14])] := hS46
  obtain ⟨l47, ha48, hO13⟩ := bind_in hO13
  obtain ⟨ha48, hq49⟩ := apx_in ha48
  refine gx_r (st_append rfl (by kernel_rfl) (by kernel_rfl) hS46 0 rfl (hS46.row 1 rfl).1 (hS46.row 1 rfl).2 ha48 (by kernel_rfl) (by kernel_rfl)) ?_
  rintro _ w52 ⟨A50, c51, rfl, hS53⟩
  rw [← hq49] at hS53 ⊢
  have hS53 : St _ _ w52 [rowE .u8 26 A50 c51 l47, rowE .u8 26 (some ⟨w5.heap.size, 0, none⟩) 1 ([14])] := hS53
  refine gx_k (.slice A50 l47.length c51) w52 ?_
  refine gx_nil ?_
  refine gx_thenN ?_
  refine hK44 _ _ ?_
  refine gx_ret ?_
  obtain rfl := Option.some.inj hO13
  exact gx_fin (.slice A50 l47.length c51) (by kernel_rfl) (by kernel_rfl) ⟨_, rfl, A50, c51, rfl, (hS53.pick [0] rfl rfl)⟩

def fKnown_L2 (N : Nat) (x114 : Int) : Nat → Int → Option (Ctl (Unit) (Bool))
 | 0, _ => none
 | k124+1, x123 => (if x123 < ((([16, 15, 21, 20, 17, 22]).length : Nat) : Int) then ((ix ([16, 15, 21, 20, 17, 22]) x123).bind fun x135 => ((kDeep N x114 x135).bind fun l141 => ((((fLevels N l141 (0 : Int)).bind fun b157 => (match b157 with | true => ((fLevels N l141 (1 : Int)).bind fun b163 => (match b163 with | true => ((fBounds N l141 (0 : Int)).bind fun b169 => (match b169 with | true => some (Ctl.go ()) | false => some (Ctl.ret false))) | false => some (Ctl.ret false))) | false => some (Ctl.ret false))) : Option (Ctl (Unit) (Bool))).bind fun | Ctl.go () => ((apx l141 ([21, 2, 19, 23, 19, 14, 23, 19, 1, 11, 2, 16, 14])).bind fun l183 => ((fLevels N l183 (0 : Int)).bind fun b194 => (match b194 with | true => ((fLevels N l183 (2 : Int)).bind fun b200 => (match b200 with | true => fKnown_L2 N x114 k124 (IntKind.i64.wrap (x123 + 1)) | false => some (Ctl.ret false))) | false => some (Ctl.ret false)))) | Ctl.ret r => some (Ctl.ret r)))) else some (Ctl.go ()))
def fKnown_L1 (N : Nat) : Nat → Int → Option (Ctl (Unit) (Bool))
 | 0, _ => none
 | k99+1, x98 => (if x98 < ((([61, 62, 63, 64, 124, 125, 126, 127, 130]).length : Nat) : Int) then ((((ix ([61, 62, 63, 64, 124, 125, 126, 127, 130]) x98).bind fun x114 => fKnown_L2 N x114 N 0) : Option (Ctl (Unit) (Bool))).bind fun | Ctl.go () => fKnown_L1 N k99 (IntKind.i64.wrap (x98 + 1)) | Ctl.ret r => some (Ctl.ret r)) else some (Ctl.go ()))
def fKnown (N : Nat) : Option (Bool) :=
 ((pLevels N ([1, 16, 1, 19, 1]) (0 : Int)).bind fun (l9, _l12, _x15, _x16) => ((pLevels N ([2, 22, 3, 23, 1]) (2 : Int)).bind fun (l26, _l29, x32, _x33) => ((pLevels N ([23, 21, 11, 16, 1]) (2 : Int)).bind fun (l43, _l46, x49, _x50) => ((((((some (((strOfNums l9).toList == (⟨#[0, 0, 1, 1, 0]⟩ : ByteArray).toList))).bind fun b69 => (match b69 with | true => ((some (((strOfNums l26).toList == (⟨#[1, 1, 3, 1, 1]⟩ : ByteArray).toList))).bind fun b71 => some (b71)) | false => some (false))) : Option (Bool)).bind fun b64 => (((match b64 with | true => (if x32 = 1 then some (true) else some (false)) | false => some (false)) : Option (Bool)).bind fun b76 => (match b76 with | true => ((some (((strOfNums l43).toList == (⟨#[0, 0, 0, 0, 1]⟩ : ByteArray).toList))).bind fun b82 => (match b82 with | true => (if x49 = 0 then some (true) else some (false)) | false => some (false))) | false => some (false)))) : Option (Bool)).bind fun b57 => ((fKnown_L1 N N 0 : Option (Ctl (Unit) (Bool))).bind fun | Ctl.go () => ((kDeep N (70 : Int) (16 : Int)).bind fun l220 => ((pLevels N l220 (0 : Int)).bind fun (l228, _l231, _x234, _x235) => ((kDeep N (200 : Int) (21 : Int)).bind fun l243 => ((pLevels N l243 (1 : Int)).bind fun (l251, _l254, _x257, _x258) => ((pLevels N ([0]) (0 : Int)).bind fun (_l268, _l271, _x274, x275) => ((pLevels N ([24]) (0 : Int)).bind fun (_l285, _l288, _x291, x292) => ((pLevels N ([]) (3 : Int)).bind fun (_l301, _l304, _x307, x308) => ((pLevels N ([]) (2 : Int)).bind fun (_l317, _l320, x323, x324) => ((kDeep N (65536 : Int) (1 : Int)).bind fun l332 => ((pLevels N l332 (0 : Int)).bind fun (_l340, _l343, _x346, x347) => ((kDeep N (65535 : Int) (1 : Int)).bind fun l355 => ((pLevels N l355 (0 : Int)).bind fun (_l363, _l366, _x369, x370) => (((((if ((l228.length : Nat) : Int) > 70 then (if ((l251.length : Nat) : Int) > 200 then some (true) else some (false)) else some (false)) : Option (Bool)).bind fun b384 => (((match b384 with | true => ((ix l228 (70 : Int)).bind fun x399 => (if x399 = 125 then some (true) else some (false))) | false => some (false)) : Option (Bool)).bind fun b394 => (((match b394 with | true => ((ix l251 (200 : Int)).bind fun x410 => (if x410 = 125 then some (true) else some (false))) | false => some (false)) : Option (Bool)).bind fun b405 => (((match b405 with | true => (if x275 = 2 then some (true) else some (false)) | false => some (false)) : Option (Bool)).bind fun b416 => (((match b416 with | true => (if x292 = 2 then some (true) else some (false)) | false => some (false)) : Option (Bool)).bind fun b425 => (((match b425 with | true => (if x308 = 2 then some (true) else some (false)) | false => some (false)) : Option (Bool)).bind fun b434 => (((match b434 with | true => (if x323 = 0 then some (true) else some (false)) | false => some (false)) : Option (Bool)).bind fun b443 => (((match b443 with | true => (if x324 = 0 then some (true) else some (false)) | false => some (false)) : Option (Bool)).bind fun b452 => (match b452 with | true => (if x347 = 3 then (if x370 = 0 then some (true) else some (false)) else some (false)) | false => some (false)))))))))) : Option (Bool)).bind fun b377 => ((((pBase N ([21, 2, 23, 1, 2])).bind fun x471 => (((if x471 = 0 then ((pBase N ([21, 2, 1])).bind fun x488 => (if x488 = 0 then some (true) else some (false))) else some (false)) : Option (Bool)).bind fun b478 => (((match b478 with | true => ((pBase N ([23, 3])).bind fun x505 => (if x505 = 1 then some (true) else some (false))) | false => some (false)) : Option (Bool)).bind fun b496 => (((match b496 with | true => ((pBase N ([14, 11, 2])).bind fun x522 => (if x522 = 0 then some (true) else some (false))) | false => some (false)) : Option (Bool)).bind fun b513 => (match b513 with | true => ((pBase N ([16, 4, 9, 2])).bind fun x531 => (if x531 = 1 then ((pBase N ([20, 11, 2])).bind fun x540 => (if x540 = 0 then some (true) else some (false))) else some (false))) | false => some (false)))))) : Option (Bool)).bind fun b463 => (((match b57 with | true => some (b377) | false => some (false)) : Option (Bool)).bind fun b550 => (match b550 with | true => (match b463 with | true => ((kWorks N ).bind fun b557 => some b557) | false => some false) | false => some false)))))))))))))))) | Ctl.ret r => some r)))))

set_option linter.unusedVariables false in
def fKnown_R (r : Bool) (w0 : World) (v : Value) (w : World) : Prop := v = .bool r ∧ St [] w0 w []

set_option maxRecDepth 100000 in
set_option maxHeartbeats 4000000 in
theorem fKnown_ok (N : Nat)  (r : Bool) (hF : fKnown N = some r) (w0 : World)  :
  Calls Try.prog 9 #[] w0 fun e w => ∃ v, e = .returned v ∧ fKnown_R r w0 v w := by
 have hS0 := St.start w0
 unfold fKnown at hF
 refine calls_of Try.func9 rfl ⟨(un 276 ([])).toArray, []⟩ (by as_aux_lemma => kernel_rfl) ?_
 refine gx_seq (fun K1 hK2 => ?_)
 refine gx_region ?_
 refine gx_kA (.bool false) w0 ?_
 refine gx_nil ?_
 refine gx_thenN ?_
 refine hK2 _ _ ?_
 refine gx_seq (fun K3 hK4 => ?_)
 refine gx_region ?_
 refine gx_rA (st_made .u8 26 [1, 16, 1, 19, 1] hS0 (by show 5 ≤ 1000000000; decide) (by as_aux_lemma => kernel_rfl)) ?_
 rintro _ w5 ⟨rfl, hS6⟩
 have hS6 : St _ _ w5 [rowE .u8 26 (some ⟨w0.heap.size, 0, none⟩) 5 ([1, 16, 1, 19, 1])] := hS6
 have hP7 : St _ _ w5 ([] ++ [rowE .u8 26 (some ⟨w0.heap.size, 0, none⟩) 5 ([1, 16, 1, 19, 1])]) := hS6
 obtain ⟨⟨l9, l12, x15, x16⟩, hc8, hF⟩ := bind_in hF
 try dsimp only at hF
 refine gx_cA (pLevels_R (l9, l12, x15, x16) w5) (pLevels_ok N ([1, 16, 1, 19, 1]) (0 : Int) (some ⟨w0.heap.size, 0, none⟩) 5 _ hc8 w5 (hP7.vwB 0 rfl)) ?_
 rintro _ w17 ⟨A10, c11, A13, c14, rfl, hT19⟩
 have hS18 : St _ _ w17 [rowE .u8 26 (some ⟨w0.heap.size, 0, none⟩) 5 ([1, 16, 1, 19, 1]), rowE .u8 5 A10 c11 l9, rowE .u8 26 A13 c14 l12] := hS6.take _ hT19
 refine gx_kA (.tuple #[.slice A10 l9.length c11, .slice A13 l12.length c14, .int .u8 x15, .int .i64 x16]) w17 (gx_kA (.slice A10 l9.length c11) w17 (gx_kA (.slice A13 l12.length c14) w17 (gx_kA (.int .u8 x15) w17 (gx_kA (.int .i64 x16) w17 (gx_kA (.slice A10 l9.length c11) w17 (gx_kA (.slice A13 l12.length c14) w17 (gx_kA (.int .u8 x15) w17 ?_)))))))
 refine gx_kA (.int .i64 x16) w17 ?_
 refine gx_nil ?_
 refine gx_thenN ?_
 refine hK4 _ _ ?_
 refine gx_seq (fun K20 hK21 => ?_)
 refine gx_region ?_
 refine gx_rA (st_made .u8 26 [2, 22, 3, 23, 1] hS18 (by show 5 ≤ 1000000000; decide) (by as_aux_lemma => kernel_rfl)) ?_
 rintro _ w22 ⟨rfl, hS23⟩
 have hS23 : St _ _ w22 [rowE .u8 26 (some ⟨w0.heap.size, 0, none⟩) 5 ([1, 16, 1, 19, 1]), rowE .u8 5 A10 c11 l9, rowE .u8 26 A13 c14 l12, rowE .u8 26 (some ⟨w17.heap.size, 0, none⟩) 5 ([2, 22, 3, 23, 1])] := hS23
 have hP24 : St _ _ w22 ([] ++ [rowE .u8 26 (some ⟨w0.heap.size, 0, none⟩) 5 ([1, 16, 1, 19, 1]), rowE .u8 5 A10 c11 l9, rowE .u8 26 A13 c14 l12, rowE .u8 26 (some ⟨w17.heap.size, 0, none⟩) 5 ([2, 22, 3, 23, 1])]) := hS23
 obtain ⟨⟨l26, l29, x32, x33⟩, hc25, hF⟩ := bind_in hF
 try dsimp only at hF
 refine gx_cA (pLevels_R (l26, l29, x32, x33) w22) (pLevels_ok N ([2, 22, 3, 23, 1]) (2 : Int) (some ⟨w17.heap.size, 0, none⟩) 5 _ hc25 w22 (hP24.vwB 3 rfl)) ?_
 rintro _ w34 ⟨A27, c28, A30, c31, rfl, hT36⟩
 have hS35 : St _ _ w34 [rowE .u8 26 (some ⟨w0.heap.size, 0, none⟩) 5 ([1, 16, 1, 19, 1]), rowE .u8 5 A10 c11 l9, rowE .u8 26 A13 c14 l12, rowE .u8 26 (some ⟨w17.heap.size, 0, none⟩) 5 ([2, 22, 3, 23, 1]), rowE .u8 5 A27 c28 l26, rowE .u8 26 A30 c31 l29] := hS23.take _ hT36
 refine gx_kA (.tuple #[.slice A27 l26.length c28, .slice A30 l29.length c31, .int .u8 x32, .int .i64 x33]) w34 (gx_kA (.slice A27 l26.length c28) w34 (gx_kA (.slice A30 l29.length c31) w34 (gx_kA (.int .u8 x32) w34 (gx_kA (.int .i64 x33) w34 (gx_kA (.slice A27 l26.length c28) w34 (gx_kA (.slice A30 l29.length c31) w34 (gx_kA (.int .u8 x32) w34 ?_)))))))
 refine gx_kA (.int .i64 x33) w34 ?_
 refine gx_nil ?_
 refine gx_thenN ?_
 refine hK21 _ _ ?_
 refine gx_seq (fun K37 hK38 => ?_)
 refine gx_region ?_
 refine gx_rA (st_made .u8 26 [23, 21, 11, 16, 1] hS35 (by show 5 ≤ 1000000000; decide) (by as_aux_lemma => kernel_rfl)) ?_
 rintro _ w39 ⟨rfl, hS40⟩
 have hS40 : St _ _ w39 [rowE .u8 26 (some ⟨w0.heap.size, 0, none⟩) 5 ([1, 16, 1, 19, 1]), rowE .u8 5 A10 c11 l9, rowE .u8 26 A13 c14 l12, rowE .u8 26 (some ⟨w17.heap.size, 0, none⟩) 5 ([2, 22, 3, 23, 1]), rowE .u8 5 A27 c28 l26, rowE .u8 26 A30 c31 l29, rowE .u8 26 (some ⟨w34.heap.size, 0, none⟩) 5 ([23, 21, 11, 16, 1])] := hS40
 have hP41 : St _ _ w39 ([] ++ [rowE .u8 26 (some ⟨w0.heap.size, 0, none⟩) 5 ([1, 16, 1, 19, 1]), rowE .u8 5 A10 c11 l9, rowE .u8 26 A13 c14 l12, rowE .u8 26 (some ⟨w17.heap.size, 0, none⟩) 5 ([2, 22, 3, 23, 1]), rowE .u8 5 A27 c28 l26, rowE .u8 26 A30 c31 l29, rowE .u8 26 (some ⟨w34.heap.size, 0, none⟩) 5 ([23, 21, 11, 16, 1])]) := hS40
 obtain ⟨⟨l43, l46, x49, x50⟩, hc42, hF⟩ := bind_in hF
 try dsimp only at hF
 refine gx_cA (pLevels_R (l43, l46, x49, x50) w39) (pLevels_ok N ([23, 21, 11, 16, 1]) (2 : Int) (some ⟨w34.heap.size, 0, none⟩) 5 _ hc42 w39 (hP41.vwB 6 rfl)) ?_
 rintro _ w51 ⟨A44, c45, A47, c48, rfl, hT53⟩
 have hS52 : St _ _ w51 [rowE .u8 26 (some ⟨w0.heap.size, 0, none⟩) 5 ([1, 16, 1, 19, 1]), rowE .u8 5 A10 c11 l9, rowE .u8 26 A13 c14 l12, rowE .u8 26 (some ⟨w17.heap.size, 0, none⟩) 5 ([2, 22, 3, 23, 1]), rowE .u8 5 A27 c28 l26, rowE .u8 26 A30 c31 l29, rowE .u8 26 (some ⟨w34.heap.size, 0, none⟩) 5 ([23, 21, 11, 16, 1]), rowE .u8 5 A44 c45 l43, rowE .u8 26 A47 c48 l46] := hS40.take _ hT53
 refine gx_kA (.tuple #[.slice A44 l43.length c45, .slice A47 l46.length c48, .int .u8 x49, .int .i64 x50]) w51 (gx_kA (.slice A44 l43.length c45) w51 (gx_kA (.slice A47 l46.length c48) w51 (gx_kA (.int .u8 x49) w51 (gx_kA (.int .i64 x50) w51 (gx_kA (.slice A44 l43.length c45) w51 (gx_kA (.slice A47 l46.length c48) w51 (gx_kA (.int .u8 x49) w51 ?_)))))))
 refine gx_kA (.int .i64 x50) w51 ?_
 refine gx_nil ?_
 refine gx_thenN ?_
 refine hK38 _ _ ?_
 obtain ⟨c58, hE59, hO60⟩ := bind_in hF
 refine gx_cut (fun a w => ∃ (b57 : Bool), selfA (fun u56 => ⟨((.bool false) :: dd u56 1 2 ((.int .u8 x15) :: (.int .i64 x16) :: dd u56 5 2 ((.int .u8 x32) :: (.int .i64 x33) :: dd u56 9 2 ((.int .u8 x49) :: (.int .i64 x50) :: (.bool b57) :: un 39 (dd u56 53 5 ((.int .u8 x15) :: (.int .i64 x16) :: dd u56 60 5 ((.int .u8 x32) :: (.int .i64 x33) :: dd u56 67 5 ((.int .u8 x49) :: (.int .i64 x50) :: dd u56 74 21 (un 181 ([])))))))))).toArray, []⟩) a ∧ b57 = c58 ∧ St [] w0 w []) ?_ ?_
 ·refine gx_region ?_
  refine gx_kA (.slice A10 l9.length c11) w51 ?_
  refine gx_vA (.string (strOfNums l9)) w51 (run_conv rfl (by as_aux_lemma => kernel_rfl) (conv_b _ _ _ (hS52.row 1 rfl).1)) ?_
  obtain ⟨c65, hE66, hO67⟩ := bind_in hE59
  refine gx_part (l1 := [_, _, _, _, _, _]) (fun a w => ∃ (b64 : Bool), selfA (fun u63 => ⟨((.bool false) :: dd u63 1 2 ((.int .u8 x15) :: (.int .i64 x16) :: dd u63 5 2 ((.int .u8 x32) :: (.int .i64 x33) :: (.slice A44 l43.length c45) :: (u63 10) :: (.int .u8 x49) :: (.int .i64 x50) :: un 40 (dd u63 53 5 ((.int .u8 x15) :: (.int .i64 x16) :: dd u63 60 5 ((.int .u8 x32) :: (.int .i64 x33) :: dd u63 67 5 ((.int .u8 x49) :: (.int .i64 x50) :: (u63 74) :: (.string (strOfNums l9)) :: dd u63 76 5 ((.bool b64) :: un 194 ([]))))))))).toArray, []⟩) a ∧ b64 = c65 ∧ St [] w0 w [rowE .u8 5 A44 c45 l43]) rfl ?_ ?_
  ·obtain ⟨b69, h70, hE66⟩ := bind_in hE66
   refine gx_vA (.bool b69) w51 (run_boolE (Option.some.inj h70) (by as_aux_lemma => kernel_rfl)) ?_
   refine gx_kA (.bool b69) w51 ?_
   cases b69 with
   | true =>
    try dsimp only at hE66
    refine gx_kA (.slice A27 l26.length c28) w51 ?_
    refine gx_vA (.string (strOfNums l26)) w51 (run_conv rfl (by as_aux_lemma => kernel_rfl) (conv_b _ _ _ (hS52.row 4 rfl).1)) ?_
    obtain ⟨b71, h72, hE66⟩ := bind_in hE66
    refine gx_vA (.bool b71) w51 (run_boolE (Option.some.inj h72) (by as_aux_lemma => kernel_rfl)) ?_
    refine gx_kA (.bool b71) w51 ?_
    refine gx_nil ?_
    refine gx_thenN ?_
    exact ⟨b71, selfA_i (by as_aux_lemma => kernel_rfl), (Option.some.inj hE66), (hS52.pick [7] rfl rfl)⟩
   | false =>
    try dsimp only at hE66
    refine gx_oA (gx_oA (gx_oA (gx_kA (.bool false) w51 ?_)))
    refine gx_nil ?_
    refine gx_thenN ?_
    exact ⟨false, selfA_i (by as_aux_lemma => kernel_rfl), (Option.some.inj hE66), (hS52.pick [7] rfl rfl)⟩
  ·rintro _ w61 ⟨b64, hq68, rfl, hS62⟩
   obtain ⟨u63, rfl⟩ := selfA_u hq68
   try dsimp only at hO67
   obtain ⟨c77, hE78, hO79⟩ := bind_in hO67
   refine gx_part (l1 := [_, _, _, _]) (fun a w => ∃ (b76 : Bool), selfA (fun u75 => ⟨((.bool false) :: dd u63 1 2 ((.int .u8 x15) :: (.int .i64 x16) :: dd u63 5 2 ((.int .u8 x32) :: (.int .i64 x33) :: (.slice A44 l43.length c45) :: (u63 10) :: (.int .u8 x49) :: (.int .i64 x50) :: un 40 (dd u63 53 5 ((.int .u8 x15) :: (.int .i64 x16) :: dd u63 60 5 ((.int .u8 x32) :: (.int .i64 x33) :: dd u63 67 5 ((.int .u8 x49) :: (.int .i64 x50) :: (u63 74) :: (.string (strOfNums l9)) :: dd u63 76 5 ((.bool b64) :: dd u75 82 3 ((.bool b76) :: un 190 ([])))))))))).toArray, []⟩) a ∧ b76 = c77 ∧ St [] w0 w [rowE .u8 5 A44 c45 l43]) rfl ?_ ?_
   ·refine gx_kA (.bool b64) w61 ?_
    cases b64 with
    | true =>
     try dsimp only at hE78
     refine gx_kA (.int .u8 x32) w61 ?_
     rcases if_in hE78 with ⟨h81, hE78⟩ | ⟨h81, hE78⟩
     ·refine gx_vA (.bool true) w61 (run_boolE (decide_eq_true h81) (by as_aux_lemma => kernel_rfl)) ?_
      refine gx_kA (.bool true) w61 ?_
      refine gx_nil ?_
      refine gx_thenN ?_
      exact ⟨true, selfA_i (by as_aux_lemma => kernel_rfl), (Option.some.inj hE78), hS62⟩
     ·refine gx_vA (.bool false) w61 (run_boolE (decide_eq_false h81) (by as_aux_lemma => kernel_rfl)) ?_
      refine gx_kA (.bool false) w61 ?_
      refine gx_nil ?_
      refine gx_thenN ?_
      exact ⟨false, selfA_i (by as_aux_lemma => kernel_rfl), (Option.some.inj hE78), hS62⟩
    | false =>
     try dsimp only at hE78
     refine gx_oA (gx_oA (gx_kA (.bool false) w61 ?_))
     refine gx_nil ?_
     refine gx_thenN ?_
     exact ⟨false, selfA_i (by as_aux_lemma => kernel_rfl), (Option.some.inj hE78), hS62⟩
   ·rintro _ w73 ⟨b76, hq80, rfl, hS74⟩
    obtain ⟨u75, rfl⟩ := selfA_u hq80
    try dsimp only at hO79
    refine gx_kA (.bool b76) w73 ?_
    cases b76 with
    | true =>
     try dsimp only at hO79
     refine gx_kA (.slice A44 l43.length c45) w73 ?_
     refine gx_vA (.string (strOfNums l43)) w73 (run_conv rfl (by as_aux_lemma => kernel_rfl) (conv_b _ _ _ (hS74.row 0 rfl).1)) ?_
     obtain ⟨b82, h83, hO79⟩ := bind_in hO79
     refine gx_vA (.bool b82) w73 (run_boolE (Option.some.inj h83) (by as_aux_lemma => kernel_rfl)) ?_
     refine gx_kA (.bool b82) w73 (gx_kA (.bool b82) w73 ?_)
     cases b82 with
     | true =>
      try dsimp only at hO79
      refine gx_kA (.int .u8 x49) w73 ?_
      rcases if_in hO79 with ⟨h84, hO79⟩ | ⟨h84, hO79⟩
      ·refine gx_vA (.bool true) w73 (run_boolE (decide_eq_true h84) (by as_aux_lemma => kernel_rfl)) ?_
       refine gx_kA (.bool true) w73 (gx_kA (.bool true) w73 ?_)
       refine gx_nil ?_
       refine gx_thenN ?_
       exact ⟨true, selfA_i (by as_aux_lemma => kernel_rfl), (Option.some.inj hO79), (hS74.pick [] rfl rfl)⟩
      ·refine gx_vA (.bool false) w73 (run_boolE (decide_eq_false h84) (by as_aux_lemma => kernel_rfl)) ?_
       refine gx_kA (.bool false) w73 (gx_kA (.bool false) w73 ?_)
       refine gx_nil ?_
       refine gx_thenN ?_
       exact ⟨false, selfA_i (by as_aux_lemma => kernel_rfl), (Option.some.inj hO79), (hS74.pick [] rfl rfl)⟩
     | false =>
      try dsimp only at hO79
      refine gx_oA (gx_oA (gx_kA (.bool false) w73 (gx_kA (.bool false) w73 ?_)))
      refine gx_nil ?_
      refine gx_thenN ?_
      exact ⟨false, selfA_i (by as_aux_lemma => kernel_rfl), (Option.some.inj hO79), (hS74.pick [] rfl rfl)⟩
    | false =>
     try dsimp only at hO79
     refine gx_oA (gx_oA (gx_oA (gx_kA (.bool false) w73 (gx_kA (.bool false) w73 (gx_oA (gx_oA (gx_kA (.bool false) w73 ?_)))))))
     refine gx_kA (.bool false) w73 ?_
     refine gx_nil ?_
     refine gx_thenN ?_
     exact ⟨false, selfA_i (by as_aux_lemma => kernel_rfl), (Option.some.inj hO79), (hS74.pick [] rfl rfl)⟩
 ·rintro _ w54 ⟨b57, hq564, rfl, hS55⟩
  obtain ⟨u56, rfl⟩ := selfA_u hq564
  try dsimp only at hO60
  obtain ⟨c88, hE89, hO90⟩ := bind_in hO60
  refine gx_cut (fun a w => selfA (fun u87 => ⟨((u87 0) :: dd u56 1 2 ((.int .u8 x15) :: (.int .i64 x16) :: dd u56 5 2 ((.int .u8 x32) :: (.int .i64 x33) :: dd u56 9 2 ((.int .u8 x49) :: (.int .i64 x50) :: (.bool b57) :: undef :: (u87 15) :: undef :: dd u87 17 2 (un 34 (dd u56 53 5 ((.int .u8 x15) :: (.int .i64 x16) :: dd u56 60 5 ((.int .u8 x32) :: (.int .i64 x33) :: dd u56 67 5 ((.int .u8 x49) :: (.int .i64 x50) :: dd u56 74 21 (dd u87 95 41 (un 140 ([])))))))))))).toArray, []⟩) a ∧ Ctl.go () = c88 ∧ St [] w0 w []) ?_ ?_
  ·refine gx_seq (fun K91 hK92 => ?_)
   refine gx_region ?_
   refine gx_rA (st_made .i64 3 [61, 62, 63, 64, 124, 125, 126, 127, 130] hS55 (by show 9 ≤ 1000000000; decide) (by as_aux_lemma => kernel_rfl)) ?_
   rintro _ w93 ⟨rfl, hS94⟩
   have hS94 : St _ _ w93 [rowE .i64 3 (some ⟨w54.heap.size, 0, none⟩) 9 ([61, 62, 63, 64, 124, 125, 126, 127, 130])] := hS94
   refine gx_kA (.int .i64 ((([61, 62, 63, 64, 124, 125, 126, 127, 130]).length : Nat) : Int)) w93 (gx_kA (.int .i64 0) w93 ?_)
   refine gx_nil ?_
   refine gx_thenN ?_
   refine hK92 _ _ ?_
   refine gx_block ?_
   refine gx_loop (fun k a w => ∃ (x98 : Int), selfA (fun u97 => ⟨((u97 0) :: dd u56 1 2 ((.int .u8 x15) :: (.int .i64 x16) :: dd u56 5 2 ((.int .u8 x32) :: (.int .i64 x33) :: dd u56 9 2 ((.int .u8 x49) :: (.int .i64 x50) :: (.bool b57) :: undef :: (u97 15) :: undef :: dd u97 17 2 (un 34 (dd u56 53 5 ((.int .u8 x15) :: (.int .i64 x16) :: dd u56 60 5 ((.int .u8 x32) :: (.int .i64 x33) :: dd u56 67 5 ((.int .u8 x49) :: (.int .i64 x50) :: dd u56 74 21 ((.slice (some ⟨w54.heap.size, 0, none⟩) (([61, 62, 63, 64, 124, 125, 126, 127, 130]).length) 9) :: (.int .i64 ((([61, 62, 63, 64, 124, 125, 126, 127, 130]).length : Nat) : Int)) :: (.int .i64 x98) :: dd u97 98 38 (un 140 ([])))))))))))).toArray, []⟩) a ∧ fKnown_L1 N k x98 = some c88 ∧ St [] w0 w [rowE .i64 3 (some ⟨w54.heap.size, 0, none⟩) 9 ([61, 62, 63, 64, 124, 125, 126, 127, 130])]) N ?_ ?_
   ·exact ⟨0, selfA_i (by as_aux_lemma => kernel_rfl), hE89, hS94⟩
   ·rintro k99 _ w95 ⟨x98, hq215, hL100, hS96⟩
    obtain ⟨u97, rfl⟩ := selfA_u hq215
    cases k99 with
    | zero => cases hL100
    | succ k99 =>
     rw [fKnown_L1] at hL100
     refine gx_seq (fun K101 hK102 => ?_)
     refine gx_region ?_
     rcases if_in hL100 with ⟨h103, hL100⟩ | ⟨h103, hL100⟩
     ·refine gx_vA (.bool true) w95 (run_boolE (decide_eq_true h103) (by as_aux_lemma => kernel_rfl)) ?_
      refine gx_nil ?_
      refine gx_thenN ?_
      refine hK102 _ _ ?_
      refine gx_seq (fun K104 hK105 => ?_)
      refine gx_yes (by as_aux_lemma => kernel_rfl) ?_
      refine gx_pass ?_
      refine gx_thenN ?_
      refine hK105 _ _ ?_
      obtain ⟨c109, hE110, hO111⟩ := bind_in hL100
      refine gx_cut (fun a w => selfA (fun u108 => ⟨((u108 0) :: dd u56 1 2 ((.int .u8 x15) :: (.int .i64 x16) :: dd u56 5 2 ((.int .u8 x32) :: (.int .i64 x33) :: dd u56 9 2 ((.int .u8 x49) :: (.int .i64 x50) :: (.bool b57) :: undef :: (u108 15) :: undef :: dd u108 17 2 (un 34 (dd u56 53 5 ((.int .u8 x15) :: (.int .i64 x16) :: dd u56 60 5 ((.int .u8 x32) :: (.int .i64 x33) :: dd u56 67 5 ((.int .u8 x49) :: (.int .i64 x50) :: dd u56 74 21 ((.slice (some ⟨w54.heap.size, 0, none⟩) (([61, 62, 63, 64, 124, 125, 126, 127, 130]).length) 9) :: (.int .i64 ((([61, 62, 63, 64, 124, 125, 126, 127, 130]).length : Nat) : Int)) :: (.int .i64 x98) :: (.bool true) :: dd u108 99 36 ((u97 135) :: un 140 ([])))))))))))).toArray, []⟩) a ∧ Ctl.go () = c109 ∧ St [] w0 w [rowE .i64 3 (some ⟨w54.heap.size, 0, none⟩) 9 ([61, 62, 63, 64, 124, 125, 126, 127, 130])]) ?_ ?_
      ·refine gx_block ?_
       refine gx_seq (fun K112 hK113 => ?_)
       refine gx_region ?_
       obtain ⟨x114, hx115, hE110⟩ := bind_in hE110
       refine gx_vA (.pointer (Option.map (fun (p : Addr) => p.add (Int.toNat x98 * 1)) (some ⟨w54.heap.size, 0, none⟩))) w95 (run_ixaddr (E := 3) (s := 1) (k := .i64) (c := 9) rfl (by as_aux_lemma => kernel_rfl) (by as_aux_lemma => kernel_rfl) (by as_aux_lemma => kernel_rfl) (fun _ => by kernel_rfl) (ix_in hx115).1 (ix_in hx115).2.1 (num_nil (hS96.row 0 rfl).1)) ?_
       refine gx_vA (.int .i64 x114) w95 (run_loadix rfl (by as_aux_lemma => kernel_rfl) (fun _ => by kernel_rfl) (hS96.row 0 rfl).1 hx115) ?_
       refine gx_kA (.int .i64 x114) w95 ?_
       refine gx_nil ?_
       refine gx_thenN ?_
       refine hK113 _ _ ?_
       refine gx_seq (fun K116 hK117 => ?_)
       refine gx_region ?_
       refine gx_rA (st_made .u8 26 [16, 15, 21, 20, 17, 22] hS96 (by show 6 ≤ 1000000000; decide) (by as_aux_lemma => kernel_rfl)) ?_
       rintro _ w118 ⟨rfl, hS119⟩
       have hS119 : St _ _ w118 [rowE .i64 3 (some ⟨w54.heap.size, 0, none⟩) 9 ([61, 62, 63, 64, 124, 125, 126, 127, 130]), rowE .u8 26 (some ⟨w95.heap.size, 0, none⟩) 6 ([16, 15, 21, 20, 17, 22])] := hS119
       refine gx_kA (.int .i64 ((([16, 15, 21, 20, 17, 22]).length : Nat) : Int)) w118 (gx_kA (.int .i64 0) w118 ?_)
       refine gx_nil ?_
       refine gx_thenN ?_
       refine hK117 _ _ ?_
       refine gx_block ?_
       refine gx_loop (fun k a w => ∃ (x123 : Int), selfA (fun u122 => ⟨((u122 0) :: dd u56 1 2 ((.int .u8 x15) :: (.int .i64 x16) :: dd u56 5 2 ((.int .u8 x32) :: (.int .i64 x33) :: dd u56 9 2 ((.int .u8 x49) :: (.int .i64 x50) :: (.bool b57) :: undef :: (.int .i64 x114) :: undef :: dd u122 17 2 (un 34 (dd u56 53 5 ((.int .u8 x15) :: (.int .i64 x16) :: dd u56 60 5 ((.int .u8 x32) :: (.int .i64 x33) :: dd u56 67 5 ((.int .u8 x49) :: (.int .i64 x50) :: dd u56 74 21 ((.slice (some ⟨w54.heap.size, 0, none⟩) (([61, 62, 63, 64, 124, 125, 126, 127, 130]).length) 9) :: (.int .i64 ((([61, 62, 63, 64, 124, 125, 126, 127, 130]).length : Nat) : Int)) :: (.int .i64 x98) :: (.bool true) :: (.pointer (Option.map (fun (p : Addr) => p.add (Int.toNat x98 * 1)) (some ⟨w54.heap.size, 0, none⟩))) :: (.int .i64 x114) :: (.slice (some ⟨w95.heap.size, 0, none⟩) (([16, 15, 21, 20, 17, 22]).length) 6) :: (.int .i64 ((([16, 15, 21, 20, 17, 22]).length : Nat) : Int)) :: (.int .i64 x123) :: dd u122 104 31 ((u97 135) :: un 140 ([])))))))))))).toArray, []⟩) a ∧ fKnown_L2 N x114 k x123 = some c109 ∧ St [] w0 w [rowE .i64 3 (some ⟨w54.heap.size, 0, none⟩) 9 ([61, 62, 63, 64, 124, 125, 126, 127, 130]), rowE .u8 26 (some ⟨w95.heap.size, 0, none⟩) 6 ([16, 15, 21, 20, 17, 22])]) N ?_ ?_
       ·exact ⟨0, selfA_i (by as_aux_lemma => kernel_rfl), hE110, hS119⟩
       ·rintro k124 _ w120 ⟨x123, hq211, hL125, hS121⟩
        obtain ⟨u122, rfl⟩ := selfA_u hq211
        cases k124 with
        | zero => cases hL125
        | succ k124 =>
         rw [fKnown_L2] at hL125
         refine gx_seq (fun K126 hK127 => ?_)
         refine gx_region ?_
         rcases if_in hL125 with ⟨h128, hL125⟩ | ⟨h128, hL125⟩
         ·refine gx_vA (.bool true) w120 (run_boolE (decide_eq_true h128) (by as_aux_lemma => kernel_rfl)) ?_
          refine gx_nil ?_
          refine gx_thenN ?_
          refine hK127 _ _ ?_
          refine gx_seq (fun K129 hK130 => ?_)
          refine gx_yes (by as_aux_lemma => kernel_rfl) ?_
          refine gx_pass ?_
          refine gx_thenN ?_
          refine hK130 _ _ ?_
          refine gx_seq (fun K131 hK132 => ?_)
          refine gx_block ?_
          refine gx_seq (fun K133 hK134 => ?_)
          refine gx_region ?_
          obtain ⟨x135, hx136, hL125⟩ := bind_in hL125
          refine gx_vA (.pointer (Option.map (fun (p : Addr) => p.add (Int.toNat x123 * 1)) (some ⟨w95.heap.size, 0, none⟩))) w120 (run_ixaddr (E := 26) (s := 1) (k := .i64) (c := 6) rfl (by as_aux_lemma => kernel_rfl) (by as_aux_lemma => kernel_rfl) (by as_aux_lemma => kernel_rfl) (fun _ => by kernel_rfl) (ix_in hx136).1 (ix_in hx136).2.1 (num_nil (hS121.row 1 rfl).1)) ?_
          refine gx_vA (.int .u8 x135) w120 (run_loadix rfl (by as_aux_lemma => kernel_rfl) (fun _ => by kernel_rfl) (hS121.row 1 rfl).1 hx136) ?_
          refine gx_kA (.int .u8 x135) w120 ?_
          refine gx_nil ?_
          refine gx_thenN ?_
          refine hK134 _ _ ?_
          refine gx_seq (fun K137 hK138 => ?_)
          refine gx_region ?_
          refine gx_kA (.int .i64 x114) w120 (gx_kA (.int .u8 x135) w120 ?_)
          have hP139 : St _ _ w120 ([] ++ [rowE .i64 3 (some ⟨w54.heap.size, 0, none⟩) 9 ([61, 62, 63, 64, 124, 125, 126, 127, 130]), rowE .u8 26 (some ⟨w95.heap.size, 0, none⟩) 6 ([16, 15, 21, 20, 17, 22])]) := hS121
          obtain ⟨l141, hc140, hL125⟩ := bind_in hL125
          try dsimp only at hL125
          refine gx_cA (kDeep_R l141 w120) (kDeep_ok N x114 x135 _ hc140 w120 ) ?_
          rintro _ w144 ⟨A142, c143, rfl, hT146⟩
          have hS145 : St _ _ w144 [rowE .i64 3 (some ⟨w54.heap.size, 0, none⟩) 9 ([61, 62, 63, 64, 124, 125, 126, 127, 130]), rowE .u8 26 (some ⟨w95.heap.size, 0, none⟩) 6 ([16, 15, 21, 20, 17, 22]), rowE .u8 26 A142 c143 l141] := hS121.take _ hT146
          refine gx_kA (.slice A142 l141.length c143) w144 ?_
          refine gx_nil ?_
          refine gx_thenN ?_
          refine hK138 _ _ ?_
          obtain ⟨c150, hE151, hO152⟩ := bind_in hL125
          refine gx_cut (fun a w => selfA (fun u149 => ⟨((u149 0) :: dd u56 1 2 ((.int .u8 x15) :: (.int .i64 x16) :: dd u56 5 2 ((.int .u8 x32) :: (.int .i64 x33) :: dd u56 9 2 ((.int .u8 x49) :: (.int .i64 x50) :: (.bool b57) :: undef :: (.int .i64 x114) :: undef :: (.int .u8 x135) :: (.slice A142 l141.length c143) :: un 34 (dd u56 53 5 ((.int .u8 x15) :: (.int .i64 x16) :: dd u56 60 5 ((.int .u8 x32) :: (.int .i64 x33) :: dd u56 67 5 ((.int .u8 x49) :: (.int .i64 x50) :: dd u56 74 21 ((.slice (some ⟨w54.heap.size, 0, none⟩) (([61, 62, 63, 64, 124, 125, 126, 127, 130]).length) 9) :: (.int .i64 ((([61, 62, 63, 64, 124, 125, 126, 127, 130]).length : Nat) : Int)) :: (.int .i64 x98) :: (.bool true) :: (.pointer (Option.map (fun (p : Addr) => p.add (Int.toNat x98 * 1)) (some ⟨w54.heap.size, 0, none⟩))) :: (.int .i64 x114) :: (.slice (some ⟨w95.heap.size, 0, none⟩) (([16, 15, 21, 20, 17, 22]).length) 6) :: (.int .i64 ((([16, 15, 21, 20, 17, 22]).length : Nat) : Int)) :: (.int .i64 x123) :: (.bool true) :: (.pointer (Option.map (fun (p : Addr) => p.add (Int.toNat x123 * 1)) (some ⟨w95.heap.size, 0, none⟩))) :: (.int .u8 x135) :: (.int .i64 x114) :: (.int .u8 x135) :: dd u149 109 14 (dd u122 123 12 ((u97 135) :: un 140 ([])))))))))))).toArray, []⟩) a ∧ Ctl.go () = c150 ∧ St [] w0 w [rowE .u8 26 A142 c143 l141, rowE .i64 3 (some ⟨w54.heap.size, 0, none⟩) 9 ([61, 62, 63, 64, 124, 125, 126, 127, 130]), rowE .u8 26 (some ⟨w95.heap.size, 0, none⟩) 6 ([16, 15, 21, 20, 17, 22])]) ?_ ?_
          ·refine gx_seq (fun K153 hK154 => ?_)
           refine gx_region ?_
           refine gx_kA (.slice A142 l141.length c143) w144 ?_
           have hP155 : St _ _ w144 ([] ++ [rowE .i64 3 (some ⟨w54.heap.size, 0, none⟩) 9 ([61, 62, 63, 64, 124, 125, 126, 127, 130]), rowE .u8 26 (some ⟨w95.heap.size, 0, none⟩) 6 ([16, 15, 21, 20, 17, 22]), rowE .u8 26 A142 c143 l141]) := hS145
           obtain ⟨b157, hc156, hE151⟩ := bind_in hE151
           try dsimp only at hE151
           refine gx_cA (fLevels_R b157 w144) (fLevels_ok N l141 (0 : Int) A142 c143 _ hc156 w144 (hP155.vwB 2 rfl)) ?_
           rintro _ w158 ⟨rfl, hT160⟩
           have hS159 : St _ _ w158 [rowE .i64 3 (some ⟨w54.heap.size, 0, none⟩) 9 ([61, 62, 63, 64, 124, 125, 126, 127, 130]), rowE .u8 26 (some ⟨w95.heap.size, 0, none⟩) 6 ([16, 15, 21, 20, 17, 22]), rowE .u8 26 A142 c143 l141] := hS145.take _ hT160
           cases b157 with
           | true =>
            try dsimp only at hE151
            refine gx_kA (.bool false) w158 (gx_kA (.bool false) w158 (gx_kA (.slice A142 l141.length c143) w158 ?_))
            have hP161 : St _ _ w158 ([] ++ [rowE .i64 3 (some ⟨w54.heap.size, 0, none⟩) 9 ([61, 62, 63, 64, 124, 125, 126, 127, 130]), rowE .u8 26 (some ⟨w95.heap.size, 0, none⟩) 6 ([16, 15, 21, 20, 17, 22]), rowE .u8 26 A142 c143 l141]) := hS159
            obtain ⟨b163, hc162, hE151⟩ := bind_in hE151
            try dsimp only at hE151
            refine gx_cA (fLevels_R b163 w158) (fLevels_ok N l141 (1 : Int) A142 c143 _ hc162 w158 (hP161.vwB 2 rfl)) ?_
            rintro _ w164 ⟨rfl, hT166⟩
            have hS165 : St _ _ w164 [rowE .i64 3 (some ⟨w54.heap.size, 0, none⟩) 9 ([61, 62, 63, 64, 124, 125, 126, 127, 130]), rowE .u8 26 (some ⟨w95.heap.size, 0, none⟩) 6 ([16, 15, 21, 20, 17, 22]), rowE .u8 26 A142 c143 l141] := hS159.take _ hT166
            cases b163 with
            | true =>
             try dsimp only at hE151
             refine gx_kA (.bool false) w164 (gx_kA (.bool false) w164 (gx_kA (.bool false) w164 (gx_kA (.slice A142 l141.length c143) w164 ?_)))
             have hP167 : St _ _ w164 ([] ++ [rowE .i64 3 (some ⟨w54.heap.size, 0, none⟩) 9 ([61, 62, 63, 64, 124, 125, 126, 127, 130]), rowE .u8 26 (some ⟨w95.heap.size, 0, none⟩) 6 ([16, 15, 21, 20, 17, 22]), rowE .u8 26 A142 c143 l141]) := hS165
             obtain ⟨b169, hc168, hE151⟩ := bind_in hE151
             try dsimp only at hE151
             refine gx_cA (fBounds_R b169 w164) (fBounds_ok N l141 (0 : Int) A142 c143 _ hc168 w164 (hP167.vwB 2 rfl)) ?_
             rintro _ w170 ⟨rfl, hT172⟩
             have hS171 : St _ _ w170 [rowE .i64 3 (some ⟨w54.heap.size, 0, none⟩) 9 ([61, 62, 63, 64, 124, 125, 126, 127, 130]), rowE .u8 26 (some ⟨w95.heap.size, 0, none⟩) 6 ([16, 15, 21, 20, 17, 22]), rowE .u8 26 A142 c143 l141] := hS165.take _ hT172
             cases b169 with
             | true =>
              try dsimp only at hE151
              refine gx_kA (.bool false) w170 (gx_kA (.bool false) w170 ?_)
              refine gx_nil ?_
              refine gx_thenN ?_
              refine hK154 _ _ ?_
              refine gx_no (by as_aux_lemma => kernel_rfl) ?_
              refine gx_pass ?_
              refine gx_thenN ?_
              exact ⟨selfA_i (by as_aux_lemma => kernel_rfl), (Option.some.inj hE151), (hS171.pick [2, 0, 1] rfl rfl)⟩
             | false =>
              try dsimp only at hE151
              refine gx_kA (.bool true) w170 (gx_kA (.bool true) w170 ?_)
              refine gx_nil ?_
              refine gx_thenN ?_
              refine hK154 _ _ ?_
              refine gx_yes (by as_aux_lemma => kernel_rfl) ?_
              refine gx_seq (fun K173 hK174 => ?_)
              refine gx_region ?_
              refine gx_kA (.bool false) w170 ?_
              refine gx_nil ?_
              refine gx_thenN ?_
              refine hK174 _ _ ?_
              refine gx_ret ?_
              refine gx_thenR ?_
              obtain rfl := Option.some.inj hE151
              try dsimp only at hO152
              refine gx_blkR ?_
              refine gx_thenR ?_
              refine gx_thenR ?_
              refine gx_blkR ?_
              refine gx_blkR ?_
              refine gx_thenR ?_
              obtain rfl := Option.some.inj hO152
              try dsimp only at hO111
              refine gx_thenR ?_
              refine gx_blkR ?_
              refine gx_thenR ?_
              obtain rfl := Option.some.inj hO111
              try dsimp only at hO90
              obtain rfl := Option.some.inj hO90
              exact gx_fin (.bool false) (by as_aux_lemma => kernel_rfl) (by as_aux_lemma => kernel_rfl) ⟨_, rfl, rfl, (hS171.pick [] rfl rfl)⟩
            | false =>
             try dsimp only at hE151
             refine gx_kA (.bool true) w164 (gx_kA (.bool true) w164 (gx_kA (.bool true) w164 (gx_oA (gx_oA (gx_oA (gx_kA (.bool true) w164 ?_))))))
             refine gx_nil ?_
             refine gx_thenN ?_
             refine hK154 _ _ ?_
             refine gx_yes (by as_aux_lemma => kernel_rfl) ?_
             refine gx_seq (fun K175 hK176 => ?_)
             refine gx_region ?_
             refine gx_kA (.bool false) w164 ?_
             refine gx_nil ?_
             refine gx_thenN ?_
             refine hK176 _ _ ?_
             refine gx_ret ?_
             refine gx_thenR ?_
             obtain rfl := Option.some.inj hE151
             try dsimp only at hO152
             refine gx_blkR ?_
             refine gx_thenR ?_
             refine gx_thenR ?_
             refine gx_blkR ?_
             refine gx_blkR ?_
             refine gx_thenR ?_
             obtain rfl := Option.some.inj hO152
             try dsimp only at hO111
             refine gx_thenR ?_
             refine gx_blkR ?_
             refine gx_thenR ?_
             obtain rfl := Option.some.inj hO111
             try dsimp only at hO90
             obtain rfl := Option.some.inj hO90
             exact gx_fin (.bool false) (by as_aux_lemma => kernel_rfl) (by as_aux_lemma => kernel_rfl) ⟨_, rfl, rfl, (hS165.pick [] rfl rfl)⟩
           | false =>
            try dsimp only at hE151
            refine gx_kA (.bool true) w158 (gx_kA (.bool true) w158 (gx_oA (gx_oA (gx_oA (gx_kA (.bool true) w158 (gx_kA (.bool true) w158 (gx_oA ?_)))))))
            refine gx_oA (gx_oA (gx_kA (.bool true) w158 ?_))
            refine gx_nil ?_
            refine gx_thenN ?_
            refine hK154 _ _ ?_
            refine gx_yes (by as_aux_lemma => kernel_rfl) ?_
            refine gx_seq (fun K177 hK178 => ?_)
            refine gx_region ?_
            refine gx_kA (.bool false) w158 ?_
            refine gx_nil ?_
            refine gx_thenN ?_
            refine hK178 _ _ ?_
            refine gx_ret ?_
            refine gx_thenR ?_
            obtain rfl := Option.some.inj hE151
            try dsimp only at hO152
            refine gx_blkR ?_
            refine gx_thenR ?_
            refine gx_thenR ?_
            refine gx_blkR ?_
            refine gx_blkR ?_
            refine gx_thenR ?_
            obtain rfl := Option.some.inj hO152
            try dsimp only at hO111
            refine gx_thenR ?_
            refine gx_blkR ?_
            refine gx_thenR ?_
            obtain rfl := Option.some.inj hO111
            try dsimp only at hO90
            obtain rfl := Option.some.inj hO90
            exact gx_fin (.bool false) (by as_aux_lemma => kernel_rfl) (by as_aux_lemma => kernel_rfl) ⟨_, rfl, rfl, (hS159.pick [] rfl rfl)⟩
          ·rintro _ w147 ⟨hq208, rfl, hS148⟩
           obtain ⟨u149, rfl⟩ := selfA_u hq208
           try dsimp only at hO152
           refine gx_seq (fun K179 hK180 => ?_)
           refine gx_region ?_
           refine gx_kA (.slice A142 l141.length c143) w147 ?_
           refine gx_rA (st_made .u8 26 [21, 2, 19, 23, 19, 14, 23, 19, 1, 11, 2, 16, 14] hS148 (by show 13 ≤ 1000000000; decide) (by as_aux_lemma => kernel_rfl)) ?_
           rintro _ w181 ⟨rfl, hS182⟩
           have hS182 : St _ _ w181 [rowE .u8 26 A142 c143 l141, rowE .i64 3 (some ⟨w54.heap.size, 0, none⟩) 9 ([61, 62, 63, 64, 124, 125, 126, 127, 130]), rowE .u8 26 (some ⟨w95.heap.size, 0, none⟩) 6 ([16, 15, 21, 20, 17, 22]), rowE .u8 26 (some ⟨w147.heap.size, 0, none⟩) 13 ([21, 2, 19, 23, 19, 14, 23, 19, 1, 11, 2, 16, 14])] := hS182
           obtain ⟨l183, ha184, hO152⟩ := bind_in hO152
           obtain ⟨ha184, hq185⟩ := apx_in ha184
           refine gx_rA (st_append rfl (by as_aux_lemma => kernel_rfl) (by as_aux_lemma => kernel_rfl) hS182 0 rfl (hS182.row 3 rfl).1 (hS182.row 3 rfl).2 ha184 (by as_aux_lemma => kernel_rfl) (by as_aux_lemma => kernel_rfl)) ?_
           rintro _ w188 ⟨A186, c187, rfl, hS189⟩
           rw [← hq185] at hS189 ⊢
           have hS189 : St _ _ w188 [rowE .u8 26 A186 c187 l183, rowE .i64 3 (some ⟨w54.heap.size, 0, none⟩) 9 ([61, 62, 63, 64, 124, 125, 126, 127, 130]), rowE .u8 26 (some ⟨w95.heap.size, 0, none⟩) 6 ([16, 15, 21, 20, 17, 22]), rowE .u8 26 (some ⟨w147.heap.size, 0, none⟩) 13 ([21, 2, 19, 23, 19, 14, 23, 19, 1, 11, 2, 16, 14])] := hS189
           refine gx_kA (.slice A186 l183.length c187) w188 ?_
           refine gx_nil ?_
           refine gx_thenN ?_
           refine hK180 _ _ ?_
           refine gx_seq (fun K190 hK191 => ?_)
           refine gx_region ?_
           refine gx_kA (.slice A186 l183.length c187) w188 ?_
           have hP192 : St _ _ w188 ([] ++ [rowE .u8 26 A186 c187 l183, rowE .i64 3 (some ⟨w54.heap.size, 0, none⟩) 9 ([61, 62, 63, 64, 124, 125, 126, 127, 130]), rowE .u8 26 (some ⟨w95.heap.size, 0, none⟩) 6 ([16, 15, 21, 20, 17, 22]), rowE .u8 26 (some ⟨w147.heap.size, 0, none⟩) 13 ([21, 2, 19, 23, 19, 14, 23, 19, 1, 11, 2, 16, 14])]) := hS189
           obtain ⟨b194, hc193, hO152⟩ := bind_in hO152
           try dsimp only at hO152
           refine gx_cA (fLevels_R b194 w188) (fLevels_ok N l183 (0 : Int) A186 c187 _ hc193 w188 (hP192.vwB 0 rfl)) ?_
           rintro _ w195 ⟨rfl, hT197⟩
           have hS196 : St _ _ w195 [rowE .u8 26 A186 c187 l183, rowE .i64 3 (some ⟨w54.heap.size, 0, none⟩) 9 ([61, 62, 63, 64, 124, 125, 126, 127, 130]), rowE .u8 26 (some ⟨w95.heap.size, 0, none⟩) 6 ([16, 15, 21, 20, 17, 22]), rowE .u8 26 (some ⟨w147.heap.size, 0, none⟩) 13 ([21, 2, 19, 23, 19, 14, 23, 19, 1, 11, 2, 16, 14])] := hS189.take _ hT197
           cases b194 with
           | true =>
            try dsimp only at hO152
            refine gx_kA (.bool false) w195 (gx_kA (.bool false) w195 (gx_kA (.slice A186 l183.length c187) w195 ?_))
            have hP198 : St _ _ w195 ([] ++ [rowE .u8 26 A186 c187 l183, rowE .i64 3 (some ⟨w54.heap.size, 0, none⟩) 9 ([61, 62, 63, 64, 124, 125, 126, 127, 130]), rowE .u8 26 (some ⟨w95.heap.size, 0, none⟩) 6 ([16, 15, 21, 20, 17, 22]), rowE .u8 26 (some ⟨w147.heap.size, 0, none⟩) 13 ([21, 2, 19, 23, 19, 14, 23, 19, 1, 11, 2, 16, 14])]) := hS196
            obtain ⟨b200, hc199, hO152⟩ := bind_in hO152
            try dsimp only at hO152
            refine gx_cA (fLevels_R b200 w195) (fLevels_ok N l183 (2 : Int) A186 c187 _ hc199 w195 (hP198.vwB 0 rfl)) ?_
            rintro _ w201 ⟨rfl, hT203⟩
            have hS202 : St _ _ w201 [rowE .u8 26 A186 c187 l183, rowE .i64 3 (some ⟨w54.heap.size, 0, none⟩) 9 ([61, 62, 63, 64, 124, 125, 126, 127, 130]), rowE .u8 26 (some ⟨w95.heap.size, 0, none⟩) 6 ([16, 15, 21, 20, 17, 22]), rowE .u8 26 (some ⟨w147.heap.size, 0, none⟩) 13 ([21, 2, 19, 23, 19, 14, 23, 19, 1, 11, 2, 16, 14])] := hS196.take _ hT203
            cases b200 with
            | true =>
             try dsimp only at hO152
             refine gx_kA (.bool false) w201 (gx_kA (.bool false) w201 ?_)
             refine gx_nil ?_
             refine gx_thenN ?_
             refine hK191 _ _ ?_
             refine gx_no (by as_aux_lemma => kernel_rfl) ?_
             refine gx_pass ?_
             refine gx_blkN ?_
             refine gx_thenN ?_
             refine hK132 _ _ ?_
             refine gx_region ?_
             refine gx_kA (.int .i64 (IntKind.i64.wrap (x123 + 1))) w201 (gx_kA (.int .i64 (IntKind.i64.wrap (x123 + 1))) w201 ?_)
             refine gx_nil ?_
             refine gx_thenN ?_
             exact ⟨k124, Nat.lt_succ_self k124, (IntKind.i64.wrap (x123 + 1)), selfA_i (by as_aux_lemma => kernel_rfl), hO152, (hS202.pick [1, 2] rfl rfl)⟩
            | false =>
             try dsimp only at hO152
             refine gx_kA (.bool true) w201 (gx_kA (.bool true) w201 ?_)
             refine gx_nil ?_
             refine gx_thenN ?_
             refine hK191 _ _ ?_
             refine gx_yes (by as_aux_lemma => kernel_rfl) ?_
             refine gx_seq (fun K204 hK205 => ?_)
             refine gx_region ?_
             refine gx_kA (.bool false) w201 ?_
             refine gx_nil ?_
             refine gx_thenN ?_
             refine hK205 _ _ ?_
             refine gx_ret ?_
             refine gx_blkR ?_
             refine gx_thenR ?_
             refine gx_thenR ?_
             refine gx_blkR ?_
             refine gx_blkR ?_
             refine gx_thenR ?_
             obtain rfl := Option.some.inj hO152
             try dsimp only at hO111
             refine gx_thenR ?_
             refine gx_blkR ?_
             refine gx_thenR ?_
             obtain rfl := Option.some.inj hO111
             try dsimp only at hO90
             obtain rfl := Option.some.inj hO90
             exact gx_fin (.bool false) (by as_aux_lemma => kernel_rfl) (by as_aux_lemma => kernel_rfl) ⟨_, rfl, rfl, (hS202.pick [] rfl rfl)⟩
           | false =>
            try dsimp only at hO152
            refine gx_kA (.bool true) w195 (gx_kA (.bool true) w195 (gx_oA (gx_oA (gx_oA (gx_kA (.bool true) w195 ?_)))))
            refine gx_nil ?_
            refine gx_thenN ?_
            refine hK191 _ _ ?_
            refine gx_yes (by as_aux_lemma => kernel_rfl) ?_
            refine gx_seq (fun K206 hK207 => ?_)
            refine gx_region ?_
            refine gx_kA (.bool false) w195 ?_
            refine gx_nil ?_
            refine gx_thenN ?_
            refine hK207 _ _ ?_
            refine gx_ret ?_
            refine gx_blkR ?_
            refine gx_thenR ?_
            refine gx_thenR ?_
            refine gx_blkR ?_
            refine gx_blkR ?_
            refine gx_thenR ?_
            obtain rfl := Option.some.inj hO152
            try dsimp only at hO111
            refine gx_thenR ?_
            refine gx_blkR ?_
            refine gx_thenR ?_
            obtain rfl := Option.some.inj hO111
            try dsimp only at hO90
            obtain rfl := Option.some.inj hO90
            exact gx_fin (.bool false) (by as_aux_lemma => kernel_rfl) (by as_aux_lemma => kernel_rfl) ⟨_, rfl, rfl, (hS196.pick [] rfl rfl)⟩
         ·refine gx_vA (.bool false) w120 (run_boolE (decide_eq_false h128) (by as_aux_lemma => kernel_rfl)) ?_
          refine gx_nil ?_
          refine gx_thenN ?_
          refine hK127 _ _ ?_
          refine gx_seq (fun K209 hK210 => ?_)
          refine gx_no (by as_aux_lemma => kernel_rfl) ?_
          refine gx_exit ?_
          refine gx_thenE ?_
          refine gx_thenE ?_
          refine gx_blkE ?_
          refine gx_blkN ?_
          refine gx_thenN ?_
          exact ⟨selfA_i (by as_aux_lemma => kernel_rfl), (Option.some.inj hL125), (hS121.pick [0] rfl rfl)⟩
      ·rintro _ w106 ⟨hq212, rfl, hS107⟩
       obtain ⟨u108, rfl⟩ := selfA_u hq212
       try dsimp only at hO111
       refine gx_region ?_
       refine gx_kA (.int .i64 (IntKind.i64.wrap (x98 + 1))) w106 (gx_kA (.int .i64 (IntKind.i64.wrap (x98 + 1))) w106 ?_)
       refine gx_nil ?_
       refine gx_thenN ?_
       exact ⟨k99, Nat.lt_succ_self k99, (IntKind.i64.wrap (x98 + 1)), selfA_i (by as_aux_lemma => kernel_rfl), hO111, hS107⟩
     ·refine gx_vA (.bool false) w95 (run_boolE (decide_eq_false h103) (by as_aux_lemma => kernel_rfl)) ?_
      refine gx_nil ?_
      refine gx_thenN ?_
      refine hK102 _ _ ?_
      refine gx_seq (fun K213 hK214 => ?_)
      refine gx_no (by as_aux_lemma => kernel_rfl) ?_
      refine gx_exit ?_
      refine gx_thenE ?_
      refine gx_thenE ?_
      refine gx_blkE ?_
      refine gx_thenN ?_
      exact ⟨selfA_i (by as_aux_lemma => kernel_rfl), (Option.some.inj hL100), (hS96.pick [] rfl rfl)⟩
  ·rintro _ w85 ⟨hq563, rfl, hS86⟩
   obtain ⟨u87, rfl⟩ := selfA_u hq563
   try dsimp only at hO90
   refine gx_seq (fun K216 hK217 => ?_)
   refine gx_region ?_
   have hP218 : St _ _ w85 ([] ++ []) := hS86
   obtain ⟨l220, hc219, hO90⟩ := bind_in hO90
   try dsimp only at hO90
   refine gx_cA (kDeep_R l220 w85) (kDeep_ok N (70 : Int) (16 : Int) _ hc219 w85 ) ?_
   rintro _ w223 ⟨A221, c222, rfl, hT225⟩
   have hS224 : St _ _ w223 [rowE .u8 26 A221 c222 l220] := hS86.take _ hT225
   have hP226 : St _ _ w223 ([] ++ [rowE .u8 26 A221 c222 l220]) := hS224
   obtain ⟨⟨l228, l231, x234, x235⟩, hc227, hO90⟩ := bind_in hO90
   try dsimp only at hO90
   refine gx_cA (pLevels_R (l228, l231, x234, x235) w223) (pLevels_ok N l220 (0 : Int) A221 c222 _ hc227 w223 (hP226.vwB 0 rfl)) ?_
   rintro _ w236 ⟨A229, c230, A232, c233, rfl, hT238⟩
   have hS237 : St _ _ w236 [rowE .u8 26 A221 c222 l220, rowE .u8 5 A229 c230 l228, rowE .u8 26 A232 c233 l231] := hS224.take _ hT238
   refine gx_kA (.tuple #[.slice A229 l228.length c230, .slice A232 l231.length c233, .int .u8 x234, .int .i64 x235]) w236 (gx_kA (.slice A229 l228.length c230) w236 (gx_kA (.slice A232 l231.length c233) w236 (gx_kA (.int .u8 x234) w236 (gx_kA (.int .i64 x235) w236 (gx_kA (.slice A229 l228.length c230) w236 (gx_kA (.slice A232 l231.length c233) w236 (gx_kA (.int .u8 x234) w236 ?_)))))))
   refine gx_kA (.int .i64 x235) w236 ?_
   refine gx_nil ?_
   refine gx_thenN ?_
   refine hK217 _ _ ?_
   refine gx_seq (fun K239 hK240 => ?_)
   refine gx_region ?_
   have hP241 : St _ _ w236 ([] ++ [rowE .u8 26 A221 c222 l220, rowE .u8 5 A229 c230 l228, rowE .u8 26 A232 c233 l231]) := hS237
   obtain ⟨l243, hc242, hO90⟩ := bind_in hO90
   try dsimp only at hO90
   refine gx_cA (kDeep_R l243 w236) (kDeep_ok N (200 : Int) (21 : Int) _ hc242 w236 ) ?_
   rintro _ w246 ⟨A244, c245, rfl, hT248⟩
   have hS247 : St _ _ w246 [rowE .u8 26 A221 c222 l220, rowE .u8 5 A229 c230 l228, rowE .u8 26 A232 c233 l231, rowE .u8 26 A244 c245 l243] := hS237.take _ hT248
   have hP249 : St _ _ w246 ([] ++ [rowE .u8 26 A221 c222 l220, rowE .u8 5 A229 c230 l228, rowE .u8 26 A232 c233 l231, rowE .u8 26 A244 c245 l243]) := hS247
   obtain ⟨⟨l251, l254, x257, x258⟩, hc250, hO90⟩ := bind_in hO90
   try dsimp only at hO90
   refine gx_cA (pLevels_R (l251, l254, x257, x258) w246) (pLevels_ok N l243 (1 : Int) A244 c245 _ hc250 w246 (hP249.vwB 3 rfl)) ?_
   rintro _ w259 ⟨A252, c253, A255, c256, rfl, hT261⟩
   have hS260 : St _ _ w259 [rowE .u8 26 A221 c222 l220, rowE .u8 5 A229 c230 l228, rowE .u8 26 A232 c233 l231, rowE .u8 26 A244 c245 l243, rowE .u8 5 A252 c253 l251, rowE .u8 26 A255 c256 l254] := hS247.take _ hT261
   refine gx_kA (.tuple #[.slice A252 l251.length c253, .slice A255 l254.length c256, .int .u8 x257, .int .i64 x258]) w259 (gx_kA (.slice A252 l251.length c253) w259 (gx_kA (.slice A255 l254.length c256) w259 (gx_kA (.int .u8 x257) w259 (gx_kA (.int .i64 x258) w259 (gx_kA (.slice A252 l251.length c253) w259 (gx_kA (.slice A255 l254.length c256) w259 (gx_kA (.int .u8 x257) w259 ?_)))))))
   refine gx_kA (.int .i64 x258) w259 ?_
   refine gx_nil ?_
   refine gx_thenN ?_
   refine hK240 _ _ ?_
   refine gx_seq (fun K262 hK263 => ?_)
   refine gx_region ?_
   refine gx_rA (st_made .u8 26 [0] hS260 (by show 1 ≤ 1000000000; decide) (by as_aux_lemma => kernel_rfl)) ?_
   rintro _ w264 ⟨rfl, hS265⟩
   have hS265 : St _ _ w264 [rowE .u8 26 A221 c222 l220, rowE .u8 5 A229 c230 l228, rowE .u8 26 A232 c233 l231, rowE .u8 26 A244 c245 l243, rowE .u8 5 A252 c253 l251, rowE .u8 26 A255 c256 l254, rowE .u8 26 (some ⟨w259.heap.size, 0, none⟩) 1 ([0])] := hS265
   have hP266 : St _ _ w264 ([] ++ [rowE .u8 26 A221 c222 l220, rowE .u8 5 A229 c230 l228, rowE .u8 26 A232 c233 l231, rowE .u8 26 A244 c245 l243, rowE .u8 5 A252 c253 l251, rowE .u8 26 A255 c256 l254, rowE .u8 26 (some ⟨w259.heap.size, 0, none⟩) 1 ([0])]) := hS265
   obtain ⟨⟨l268, l271, x274, x275⟩, hc267, hO90⟩ := bind_in hO90
   try dsimp only at hO90
   refine gx_cA (pLevels_R (l268, l271, x274, x275) w264) (pLevels_ok N ([0]) (0 : Int) (some ⟨w259.heap.size, 0, none⟩) 1 _ hc267 w264 (hP266.vwB 6 rfl)) ?_
   rintro _ w276 ⟨A269, c270, A272, c273, rfl, hT278⟩
   have hS277 : St _ _ w276 [rowE .u8 26 A221 c222 l220, rowE .u8 5 A229 c230 l228, rowE .u8 26 A232 c233 l231, rowE .u8 26 A244 c245 l243, rowE .u8 5 A252 c253 l251, rowE .u8 26 A255 c256 l254, rowE .u8 26 (some ⟨w259.heap.size, 0, none⟩) 1 ([0]), rowE .u8 5 A269 c270 l268, rowE .u8 26 A272 c273 l271] := hS265.take _ hT278
   refine gx_kA (.tuple #[.slice A269 l268.length c270, .slice A272 l271.length c273, .int .u8 x274, .int .i64 x275]) w276 (gx_kA (.slice A269 l268.length c270) w276 (gx_kA (.slice A272 l271.length c273) w276 (gx_kA (.int .u8 x274) w276 (gx_kA (.int .i64 x275) w276 (gx_kA (.slice A269 l268.length c270) w276 (gx_kA (.slice A272 l271.length c273) w276 (gx_kA (.int .u8 x274) w276 ?_)))))))
   refine gx_kA (.int .i64 x275) w276 ?_
   refine gx_nil ?_
   refine gx_thenN ?_
   refine hK263 _ _ ?_
   refine gx_seq (fun K279 hK280 => ?_)
   refine gx_region ?_
   refine gx_rA (st_made .u8 26 [24] hS277 (by show 1 ≤ 1000000000; decide) (by as_aux_lemma => kernel_rfl)) ?_
   rintro _ w281 ⟨rfl, hS282⟩
   have hS282 : St _ _ w281 [rowE .u8 26 A221 c222 l220, rowE .u8 5 A229 c230 l228, rowE .u8 26 A232 c233 l231, rowE .u8 26 A244 c245 l243, rowE .u8 5 A252 c253 l251, rowE .u8 26 A255 c256 l254, rowE .u8 26 (some ⟨w259.heap.size, 0, none⟩) 1 ([0]), rowE .u8 5 A269 c270 l268, rowE .u8 26 A272 c273 l271, rowE .u8 26 (some ⟨w276.heap.size, 0, none⟩) 1 ([24])] := hS282
   have hP283 : St _ _ w281 ([] ++ [rowE .u8 26 A221 c222 l220, rowE .u8 5 A229 c230 l228, rowE .u8 26 A232 c233 l231, rowE .u8 26 A244 c245 l243, rowE .u8 5 A252 c253 l251, rowE .u8 26 A255 c256 l254, rowE .u8 26 (some ⟨w259.heap.size, 0, none⟩) 1 ([0]), rowE .u8 5 A269 c270 l268, rowE .u8 26 A272 c273 l271, rowE .u8 26 (some ⟨w276.heap.size, 0, none⟩) 1 ([24])]) := hS282
   obtain ⟨⟨l285, l288, x291, x292⟩, hc284, hO90⟩ := bind_in hO90
   try dsimp only at hO90
   refine gx_cA (pLevels_R (l285, l288, x291, x292) w281) (pLevels_ok N ([24]) (0 : Int) (some ⟨w276.heap.size, 0, none⟩) 1 _ hc284 w281 (hP283.vwB 9 rfl)) ?_
   rintro _ w293 ⟨A286, c287, A289, c290, rfl, hT295⟩
   have hS294 : St _ _ w293 [rowE .u8 26 A221 c222 l220, rowE .u8 5 A229 c230 l228, rowE .u8 26 A232 c233 l231, rowE .u8 26 A244 c245 l243, rowE .u8 5 A252 c253 l251, rowE .u8 26 A255 c256 l254, rowE .u8 26 (some ⟨w259.heap.size, 0, none⟩) 1 ([0]), rowE .u8 5 A269 c270 l268, rowE .u8 26 A272 c273 l271, rowE .u8 26 (some ⟨w276.heap.size, 0, none⟩) 1 ([24]), rowE .u8 5 A286 c287 l285, rowE .u8 26 A289 c290 l288] := hS282.take _ hT295
   refine gx_kA (.tuple #[.slice A286 l285.length c287, .slice A289 l288.length c290, .int .u8 x291, .int .i64 x292]) w293 (gx_kA (.slice A286 l285.length c287) w293 (gx_kA (.slice A289 l288.length c290) w293 (gx_kA (.int .u8 x291) w293 (gx_kA (.int .i64 x292) w293 (gx_kA (.slice A286 l285.length c287) w293 (gx_kA (.slice A289 l288.length c290) w293 (gx_kA (.int .u8 x291) w293 ?_)))))))
   refine gx_kA (.int .i64 x292) w293 ?_
   refine gx_nil ?_
   refine gx_thenN ?_
   refine hK280 _ _ ?_
   refine gx_seq (fun K296 hK297 => ?_)
   refine gx_region ?_
   have hS298 : St _ _ w293 [rowE .u8 26 A221 c222 l220, rowE .u8 5 A229 c230 l228, rowE .u8 26 A232 c233 l231, rowE .u8 26 A244 c245 l243, rowE .u8 5 A252 c253 l251, rowE .u8 26 A255 c256 l254, rowE .u8 26 (some ⟨w259.heap.size, 0, none⟩) 1 ([0]), rowE .u8 5 A269 c270 l268, rowE .u8 26 A272 c273 l271, rowE .u8 26 (some ⟨w276.heap.size, 0, none⟩) 1 ([24]), rowE .u8 5 A286 c287 l285, rowE .u8 26 A289 c290 l288, rowE .u8 26 none 0 ([])] := hS294.nilrow .u8 26
   have hP299 : St _ _ w293 ([] ++ [rowE .u8 26 A221 c222 l220, rowE .u8 5 A229 c230 l228, rowE .u8 26 A232 c233 l231, rowE .u8 26 A244 c245 l243, rowE .u8 5 A252 c253 l251, rowE .u8 26 A255 c256 l254, rowE .u8 26 (some ⟨w259.heap.size, 0, none⟩) 1 ([0]), rowE .u8 5 A269 c270 l268, rowE .u8 26 A272 c273 l271, rowE .u8 26 (some ⟨w276.heap.size, 0, none⟩) 1 ([24]), rowE .u8 5 A286 c287 l285, rowE .u8 26 A289 c290 l288, rowE .u8 26 none 0 ([])]) := hS298
   obtain ⟨⟨l301, l304, x307, x308⟩, hc300, hO90⟩ := bind_in hO90
   try dsimp only at hO90
   refine gx_cA (pLevels_R (l301, l304, x307, x308) w293) (pLevels_ok N ([]) (3 : Int) none 0 _ hc300 w293 (hP299.vwB 12 rfl)) ?_
   rintro _ w309 ⟨A302, c303, A305, c306, rfl, hT311⟩
   have hS310 : St _ _ w309 [rowE .u8 26 A221 c222 l220, rowE .u8 5 A229 c230 l228, rowE .u8 26 A232 c233 l231, rowE .u8 26 A244 c245 l243, rowE .u8 5 A252 c253 l251, rowE .u8 26 A255 c256 l254, rowE .u8 26 (some ⟨w259.heap.size, 0, none⟩) 1 ([0]), rowE .u8 5 A269 c270 l268, rowE .u8 26 A272 c273 l271, rowE .u8 26 (some ⟨w276.heap.size, 0, none⟩) 1 ([24]), rowE .u8 5 A286 c287 l285, rowE .u8 26 A289 c290 l288, rowE .u8 26 none 0 ([]), rowE .u8 5 A302 c303 l301, rowE .u8 26 A305 c306 l304] := hS298.take _ hT311
   refine gx_kA (.tuple #[.slice A302 l301.length c303, .slice A305 l304.length c306, .int .u8 x307, .int .i64 x308]) w309 (gx_kA (.slice A302 l301.length c303) w309 (gx_kA (.slice A305 l304.length c306) w309 (gx_kA (.int .u8 x307) w309 (gx_kA (.int .i64 x308) w309 (gx_kA (.slice A302 l301.length c303) w309 (gx_kA (.slice A305 l304.length c306) w309 (gx_kA (.int .u8 x307) w309 ?_)))))))
   refine gx_kA (.int .i64 x308) w309 ?_
   refine gx_nil ?_
   refine gx_thenN ?_
   refine hK297 _ _ ?_
   refine gx_seq (fun K312 hK313 => ?_)
   refine gx_region ?_
   have hS314 : St _ _ w309 [rowE .u8 26 A221 c222 l220, rowE .u8 5 A229 c230 l228, rowE .u8 26 A232 c233 l231, rowE .u8 26 A244 c245 l243, rowE .u8 5 A252 c253 l251, rowE .u8 26 A255 c256 l254, rowE .u8 26 (some ⟨w259.heap.size, 0, none⟩) 1 ([0]), rowE .u8 5 A269 c270 l268, rowE .u8 26 A272 c273 l271, rowE .u8 26 (some ⟨w276.heap.size, 0, none⟩) 1 ([24]), rowE .u8 5 A286 c287 l285, rowE .u8 26 A289 c290 l288, rowE .u8 26 none 0 ([]), rowE .u8 5 A302 c303 l301, rowE .u8 26 A305 c306 l304, rowE .u8 26 none 0 ([])] := hS310.nilrow .u8 26
   have hP315 : St _ _ w309 ([] ++ [rowE .u8 26 A221 c222 l220, rowE .u8 5 A229 c230 l228, rowE .u8 26 A232 c233 l231, rowE .u8 26 A244 c245 l243, rowE .u8 5 A252 c253 l251, rowE .u8 26 A255 c256 l254, rowE .u8 26 (some ⟨w259.heap.size, 0, none⟩) 1 ([0]), rowE .u8 5 A269 c270 l268, rowE .u8 26 A272 c273 l271, rowE .u8 26 (some ⟨w276.heap.size, 0, none⟩) 1 ([24]), rowE .u8 5 A286 c287 l285, rowE .u8 26 A289 c290 l288, rowE .u8 26 none 0 ([]), rowE .u8 5 A302 c303 l301, rowE .u8 26 A305 c306 l304, rowE .u8 26 none 0 ([])]) := hS314
   obtain ⟨⟨l317, l320, x323, x324⟩, hc316, hO90⟩ := bind_in hO90
   try dsimp only at hO90
   refine gx_cA (pLevels_R (l317, l320, x323, x324) w309) (pLevels_ok N ([]) (2 : Int) none 0 _ hc316 w309 (hP315.vwB 15 rfl)) ?_
   rintro _ w325 ⟨A318, c319, A321, c322, rfl, hT327⟩
   have hS326 : St _ _ w325 [rowE .u8 26 A221 c222 l220, rowE .u8 5 A229 c230 l228, rowE .u8 26 A232 c233 l231, rowE .u8 26 A244 c245 l243, rowE .u8 5 A252 c253 l251, rowE .u8 26 A255 c256 l254, rowE .u8 26 (some ⟨w259.heap.size, 0, none⟩) 1 ([0]), rowE .u8 5 A269 c270 l268, rowE .u8 26 A272 c273 l271, rowE .u8 26 (some ⟨w276.heap.size, 0, none⟩) 1 ([24]), rowE .u8 5 A286 c287 l285, rowE .u8 26 A289 c290 l288, rowE .u8 26 none 0 ([]), rowE .u8 5 A302 c303 l301, rowE .u8 26 A305 c306 l304, rowE .u8 26 none 0 ([]), rowE .u8 5 A318 c319 l317, rowE .u8 26 A321 c322 l320] := hS314.take _ hT327
   refine gx_kA (.tuple #[.slice A318 l317.length c319, .slice A321 l320.length c322, .int .u8 x323, .int .i64 x324]) w325 (gx_kA (.slice A318 l317.length c319) w325 (gx_kA (.slice A321 l320.length c322) w325 (gx_kA (.int .u8 x323) w325 (gx_kA (.int .i64 x324) w325 (gx_kA (.slice A318 l317.length c319) w325 (gx_kA (.slice A321 l320.length c322) w325 (gx_kA (.int .u8 x323) w325 ?_)))))))
   refine gx_kA (.int .i64 x324) w325 ?_
   refine gx_nil ?_
   refine gx_thenN ?_
   refine hK313 _ _ ?_
   refine gx_seq (fun K328 hK329 => ?_)
   refine gx_region ?_
   have hP330 : St _ _ w325 ([] ++ [rowE .u8 26 A221 c222 l220, rowE .u8 5 A229 c230 l228, rowE .u8 26 A232 c233 l231, rowE .u8 26 A244 c245 l243, rowE .u8 5 A252 c253 l251, rowE .u8 26 A255 c256 l254, rowE .u8 26 (some ⟨w259.heap.size, 0, none⟩) 1 ([0]), rowE .u8 5 A269 c270 l268, rowE .u8 26 A272 c273 l271, rowE .u8 26 (some ⟨w276.heap.size, 0, none⟩) 1 ([24]), rowE .u8 5 A286 c287 l285, rowE .u8 26 A289 c290 l288, rowE .u8 26 none 0 ([]), rowE .u8 5 A302 c303 l301, rowE .u8 26 A305 c306 l304, rowE .u8 26 none 0 ([]), rowE .u8 5 A318 c319 l317, rowE .u8 26 A321 c322 l320]) := hS326
   obtain ⟨l332, hc331, hO90⟩ := bind_in hO90
   try dsimp only at hO90
   refine gx_cA (kDeep_R l332 w325) (kDeep_ok N (65536 : Int) (1 : Int) _ hc331 w325 ) ?_
   rintro _ w335 ⟨A333, c334, rfl, hT337⟩
   have hS336 : St _ _ w335 [rowE .u8 26 A221 c222 l220, rowE .u8 5 A229 c230 l228, rowE .u8 26 A232 c233 l231, rowE .u8 26 A244 c245 l243, rowE .u8 5 A252 c253 l251, rowE .u8 26 A255 c256 l254, rowE .u8 26 (some ⟨w259.heap.size, 0, none⟩) 1 ([0]), rowE .u8 5 A269 c270 l268, rowE .u8 26 A272 c273 l271, rowE .u8 26 (some ⟨w276.heap.size, 0, none⟩) 1 ([24]), rowE .u8 5 A286 c287 l285, rowE .u8 26 A289 c290 l288, rowE .u8 26 none 0 ([]), rowE .u8 5 A302 c303 l301, rowE .u8 26 A305 c306 l304, rowE .u8 26 none 0 ([]), rowE .u8 5 A318 c319 l317, rowE .u8 26 A321 c322 l320, rowE .u8 26 A333 c334 l332] := hS326.take _ hT337
   have hP338 : St _ _ w335 ([] ++ [rowE .u8 26 A221 c222 l220, rowE .u8 5 A229 c230 l228, rowE .u8 26 A232 c233 l231, rowE .u8 26 A244 c245 l243, rowE .u8 5 A252 c253 l251, rowE .u8 26 A255 c256 l254, rowE .u8 26 (some ⟨w259.heap.size, 0, none⟩) 1 ([0]), rowE .u8 5 A269 c270 l268, rowE .u8 26 A272 c273 l271, rowE .u8 26 (some ⟨w276.heap.size, 0, none⟩) 1 ([24]), rowE .u8 5 A286 c287 l285, rowE .u8 26 A289 c290 l288, rowE .u8 26 none 0 ([]), rowE .u8 5 A302 c303 l301, rowE .u8 26 A305 c306 l304, rowE .u8 26 none 0 ([]), rowE .u8 5 A318 c319 l317, rowE .u8 26 A321 c322 l320, rowE .u8 26 A333 c334 l332]) := hS336
   obtain ⟨⟨l340, l343, x346, x347⟩, hc339, hO90⟩ := bind_in hO90
   try dsimp only at hO90
   refine gx_cA (pLevels_R (l340, l343, x346, x347) w335) (pLevels_ok N l332 (0 : Int) A333 c334 _ hc339 w335 (hP338.vwB 18 rfl)) ?_
   rintro _ w348 ⟨A341, c342, A344, c345, rfl, hT350⟩
   have hS349 : St _ _ w348 [rowE .u8 26 A221 c222 l220, rowE .u8 5 A229 c230 l228, rowE .u8 26 A232 c233 l231, rowE .u8 26 A244 c245 l243, rowE .u8 5 A252 c253 l251, rowE .u8 26 A255 c256 l254, rowE .u8 26 (some ⟨w259.heap.size, 0, none⟩) 1 ([0]), rowE .u8 5 A269 c270 l268, rowE .u8 26 A272 c273 l271, rowE .u8 26 (some ⟨w276.heap.size, 0, none⟩) 1 ([24]), rowE .u8 5 A286 c287 l285, rowE .u8 26 A289 c290 l288, rowE .u8 26 none 0 ([]), rowE .u8 5 A302 c303 l301, rowE .u8 26 A305 c306 l304, rowE .u8 26 none 0 ([]), rowE .u8 5 A318 c319 l317, rowE .u8 26 A321 c322 l320, rowE .u8 26 A333 c334 l332, rowE .u8 5 A341 c342 l340, rowE .u8 26 A344 c345 l343] := hS336.take _ hT350
   refine gx_kA (.tuple #[.slice A341 l340.length c342, .slice A344 l343.length c345, .int .u8 x346, .int .i64 x347]) w348 (gx_kA (.slice A341 l340.length c342) w348 (gx_kA (.slice A344 l343.length c345) w348 (gx_kA (.int .u8 x346) w348 (gx_kA (.int .i64 x347) w348 (gx_kA (.slice A341 l340.length c342) w348 (gx_kA (.slice A344 l343.length c345) w348 (gx_kA (.int .u8 x346) w348 ?_)))))))
   refine gx_kA (.int .i64 x347) w348 ?_
   refine gx_nil ?_
   refine gx_thenN ?_
   refine hK329 _ _ ?_
   refine gx_seq (fun K351 hK352 => ?_)
   refine gx_region ?_
   have hP353 : St _ _ w348 ([] ++ [rowE .u8 26 A221 c222 l220, rowE .u8 5 A229 c230 l228, rowE .u8 26 A232 c233 l231, rowE .u8 26 A244 c245 l243, rowE .u8 5 A252 c253 l251, rowE .u8 26 A255 c256 l254, rowE .u8 26 (some ⟨w259.heap.size, 0, none⟩) 1 ([0]), rowE .u8 5 A269 c270 l268, rowE .u8 26 A272 c273 l271, rowE .u8 26 (some ⟨w276.heap.size, 0, none⟩) 1 ([24]), rowE .u8 5 A286 c287 l285, rowE .u8 26 A289 c290 l288, rowE .u8 26 none 0 ([]), rowE .u8 5 A302 c303 l301, rowE .u8 26 A305 c306 l304, rowE .u8 26 none 0 ([]), rowE .u8 5 A318 c319 l317, rowE .u8 26 A321 c322 l320, rowE .u8 26 A333 c334 l332, rowE .u8 5 A341 c342 l340, rowE .u8 26 A344 c345 l343]) := hS349
   obtain ⟨l355, hc354, hO90⟩ := bind_in hO90
   try dsimp only at hO90
   refine gx_cA (kDeep_R l355 w348) (kDeep_ok N (65535 : Int) (1 : Int) _ hc354 w348 ) ?_
   rintro _ w358 ⟨A356, c357, rfl, hT360⟩
   have hS359 : St _ _ w358 [rowE .u8 26 A221 c222 l220, rowE .u8 5 A229 c230 l228, rowE .u8 26 A232 c233 l231, rowE .u8 26 A244 c245 l243, rowE .u8 5 A252 c253 l251, rowE .u8 26 A255 c256 l254, rowE .u8 26 (some ⟨w259.heap.size, 0, none⟩) 1 ([0]), rowE .u8 5 A269 c270 l268, rowE .u8 26 A272 c273 l271, rowE .u8 26 (some ⟨w276.heap.size, 0, none⟩) 1 ([24]), rowE .u8 5 A286 c287 l285, rowE .u8 26 A289 c290 l288, rowE .u8 26 none 0 ([]), rowE .u8 5 A302 c303 l301, rowE .u8 26 A305 c306 l304, rowE .u8 26 none 0 ([]), rowE .u8 5 A318 c319 l317, rowE .u8 26 A321 c322 l320, rowE .u8 26 A333 c334 l332, rowE .u8 5 A341 c342 l340, rowE .u8 26 A344 c345 l343, rowE .u8 26 A356 c357 l355] := hS349.take _ hT360
   have hP361 : St _ _ w358 ([] ++ [rowE .u8 26 A221 c222 l220, rowE .u8 5 A229 c230 l228, rowE .u8 26 A232 c233 l231, rowE .u8 26 A244 c245 l243, rowE .u8 5 A252 c253 l251, rowE .u8 26 A255 c256 l254, rowE .u8 26 (some ⟨w259.heap.size, 0, none⟩) 1 ([0]), rowE .u8 5 A269 c270 l268, rowE .u8 26 A272 c273 l271, rowE .u8 26 (some ⟨w276.heap.size, 0, none⟩) 1 ([24]), rowE .u8 5 A286 c287 l285, rowE .u8 26 A289 c290 l288, rowE .u8 26 none 0 ([]), rowE .u8 5 A302 c303 l301, rowE .u8 26 A305 c306 l304, rowE .u8 26 none 0 ([]), rowE .u8 5 A318 c319 l317, rowE .u8 26 A321 c322 l320, rowE .u8 26 A333 c334 l332, rowE .u8 5 A341 c342 l340, rowE .u8 26 A344 c345 l343, rowE .u8 26 A356 c357 l355]) := hS359
   obtain ⟨⟨l363, l366, x369, x370⟩, hc362, hO90⟩ := bind_in hO90
   try dsimp only at hO90
   refine gx_cA (pLevels_R (l363, l366, x369, x370) w358) (pLevels_ok N l355 (0 : Int) A356 c357 _ hc362 w358 (hP361.vwB 21 rfl)) ?_
   rintro _ w371 ⟨A364, c365, A367, c368, rfl, hT373⟩
   have hS372 : St _ _ w371 [rowE .u8 26 A221 c222 l220, rowE .u8 5 A229 c230 l228, rowE .u8 26 A232 c233 l231, rowE .u8 26 A244 c245 l243, rowE .u8 5 A252 c253 l251, rowE .u8 26 A255 c256 l254, rowE .u8 26 (some ⟨w259.heap.size, 0, none⟩) 1 ([0]), rowE .u8 5 A269 c270 l268, rowE .u8 26 A272 c273 l271, rowE .u8 26 (some ⟨w276.heap.size, 0, none⟩) 1 ([24]), rowE .u8 5 A286 c287 l285, rowE .u8 26 A289 c290 l288, rowE .u8 26 none 0 ([]), rowE .u8 5 A302 c303 l301, rowE .u8 26 A305 c306 l304, rowE .u8 26 none 0 ([]), rowE .u8 5 A318 c319 l317, rowE .u8 26 A321 c322 l320, rowE .u8 26 A333 c334 l332, rowE .u8 5 A341 c342 l340, rowE .u8 26 A344 c345 l343, rowE .u8 26 A356 c357 l355, rowE .u8 5 A364 c365 l363, rowE .u8 26 A367 c368 l366] := hS359.take _ hT373
   refine gx_kA (.tuple #[.slice A364 l363.length c365, .slice A367 l366.length c368, .int .u8 x369, .int .i64 x370]) w371 (gx_kA (.slice A364 l363.length c365) w371 (gx_kA (.slice A367 l366.length c368) w371 (gx_kA (.int .u8 x369) w371 (gx_kA (.int .i64 x370) w371 (gx_kA (.slice A364 l363.length c365) w371 (gx_kA (.slice A367 l366.length c368) w371 (gx_kA (.int .u8 x369) w371 ?_)))))))
   refine gx_kA (.int .i64 x370) w371 ?_
   refine gx_nil ?_
   refine gx_thenN ?_
   refine hK352 _ _ ?_
   obtain ⟨c378, hE379, hO380⟩ := bind_in hO90
   refine gx_cut (fun a w => ∃ (b377 : Bool), selfA (fun u376 => ⟨((u87 0) :: dd u56 1 2 ((.int .u8 x15) :: (.int .i64 x16) :: dd u56 5 2 ((.int .u8 x32) :: (.int .i64 x33) :: dd u56 9 2 ((.int .u8 x49) :: (.int .i64 x50) :: (.bool b57) :: undef :: (u87 15) :: undef :: dd u87 17 2 (dd u376 19 2 ((.int .u8 x234) :: (.int .i64 x235) :: dd u376 23 2 ((.int .u8 x257) :: (.int .i64 x258) :: dd u376 27 2 ((.int .u8 x274) :: (.int .i64 x275) :: dd u376 31 2 ((.int .u8 x291) :: (.int .i64 x292) :: dd u376 35 2 ((.int .u8 x307) :: (.int .i64 x308) :: dd u376 39 2 ((.int .u8 x323) :: (.int .i64 x324) :: dd u376 43 2 ((.int .u8 x346) :: (.int .i64 x347) :: dd u376 47 2 ((.int .u8 x369) :: (.int .i64 x370) :: (.bool b377) :: undef :: dd u56 53 5 ((.int .u8 x15) :: (.int .i64 x16) :: dd u56 60 5 ((.int .u8 x32) :: (.int .i64 x33) :: dd u56 67 5 ((.int .u8 x49) :: (.int .i64 x50) :: dd u56 74 21 (dd u87 95 41 (dd u376 136 5 ((.int .u8 x234) :: (.int .i64 x235) :: dd u376 143 5 ((.int .u8 x257) :: (.int .i64 x258) :: dd u376 150 5 ((.int .u8 x274) :: (.int .i64 x275) :: dd u376 157 5 ((.int .u8 x291) :: (.int .i64 x292) :: dd u376 164 4 ((.int .u8 x307) :: (.int .i64 x308) :: dd u376 170 4 ((.int .u8 x323) :: (.int .i64 x324) :: dd u376 176 5 ((.int .u8 x346) :: (.int .i64 x347) :: dd u376 183 5 ((.int .u8 x369) :: (.int .i64 x370) :: dd u376 190 48 (un 38 ([])))))))))))))))))))))))))))).toArray, []⟩) a ∧ b377 = c378 ∧ St [] w0 w []) ?_ ?_
   ·refine gx_region ?_
    refine gx_kA (.slice A229 l228.length c230) w371 (gx_kA (.int .i64 ((l228.length : Nat) : Int)) w371 ?_)
    obtain ⟨c385, hE386, hO387⟩ := bind_in hE379
    refine gx_part (l1 := [_, _, _, _, _, _]) (fun a w => ∃ (b384 : Bool), selfA (fun u383 => ⟨((u87 0) :: dd u56 1 2 ((.int .u8 x15) :: (.int .i64 x16) :: dd u56 5 2 ((.int .u8 x32) :: (.int .i64 x33) :: dd u56 9 2 ((.int .u8 x49) :: (.int .i64 x50) :: (.bool b57) :: undef :: (u87 15) :: undef :: dd u87 17 2 ((.slice A229 l228.length c230) :: (u383 20) :: (.int .u8 x234) :: (.int .i64 x235) :: (.slice A252 l251.length c253) :: (u383 24) :: (.int .u8 x257) :: (.int .i64 x258) :: dd u383 27 2 ((.int .u8 x274) :: (.int .i64 x275) :: dd u383 31 2 ((.int .u8 x291) :: (.int .i64 x292) :: dd u383 35 2 ((.int .u8 x307) :: (.int .i64 x308) :: dd u383 39 2 ((.int .u8 x323) :: (.int .i64 x324) :: dd u383 43 2 ((.int .u8 x346) :: (.int .i64 x347) :: dd u383 47 2 ((.int .u8 x369) :: (.int .i64 x370) :: undef :: undef :: dd u56 53 5 ((.int .u8 x15) :: (.int .i64 x16) :: dd u56 60 5 ((.int .u8 x32) :: (.int .i64 x33) :: dd u56 67 5 ((.int .u8 x49) :: (.int .i64 x50) :: dd u56 74 21 (dd u87 95 41 (dd u383 136 5 ((.int .u8 x234) :: (.int .i64 x235) :: dd u383 143 5 ((.int .u8 x257) :: (.int .i64 x258) :: dd u383 150 5 ((.int .u8 x274) :: (.int .i64 x275) :: dd u383 157 5 ((.int .u8 x291) :: (.int .i64 x292) :: dd u383 164 4 ((.int .u8 x307) :: (.int .i64 x308) :: dd u383 170 4 ((.int .u8 x323) :: (.int .i64 x324) :: dd u383 176 5 ((.int .u8 x346) :: (.int .i64 x347) :: dd u383 183 5 ((.int .u8 x369) :: (.int .i64 x370) :: (u383 190) :: (.int .i64 ((l228.length : Nat) : Int)) :: dd u383 192 5 ((.bool b384) :: un 78 ([])))))))))))))))))))))))))).toArray, []⟩) a ∧ b384 = c385 ∧ St [] w0 w [rowE .u8 5 A229 c230 l228, rowE .u8 5 A252 c253 l251]) rfl ?_ ?_
    ·rcases if_in hE386 with ⟨h389, hE386⟩ | ⟨h389, hE386⟩
     ·refine gx_vA (.bool true) w371 (run_boolE (decide_eq_true h389) (by as_aux_lemma => kernel_rfl)) ?_
      refine gx_kA (.bool true) w371 (gx_kA (.slice A252 l251.length c253) w371 (gx_kA (.int .i64 ((l251.length : Nat) : Int)) w371 ?_))
      rcases if_in hE386 with ⟨h390, hE386⟩ | ⟨h390, hE386⟩
      ·refine gx_vA (.bool true) w371 (run_boolE (decide_eq_true h390) (by as_aux_lemma => kernel_rfl)) ?_
       refine gx_kA (.bool true) w371 ?_
       refine gx_nil ?_
       refine gx_thenN ?_
       exact ⟨true, selfA_i (by as_aux_lemma => kernel_rfl), (Option.some.inj hE386), (hS372.pick [1, 4] rfl rfl)⟩
      ·refine gx_vA (.bool false) w371 (run_boolE (decide_eq_false h390) (by as_aux_lemma => kernel_rfl)) ?_
       refine gx_kA (.bool false) w371 ?_
       refine gx_nil ?_
       refine gx_thenN ?_
       exact ⟨false, selfA_i (by as_aux_lemma => kernel_rfl), (Option.some.inj hE386), (hS372.pick [1, 4] rfl rfl)⟩
     ·refine gx_vA (.bool false) w371 (run_boolE (decide_eq_false h389) (by as_aux_lemma => kernel_rfl)) ?_
      refine gx_kA (.bool false) w371 (gx_oA (gx_oA (gx_oA (gx_kA (.bool false) w371 ?_))))
      refine gx_nil ?_
      refine gx_thenN ?_
      exact ⟨false, selfA_i (by as_aux_lemma => kernel_rfl), (Option.some.inj hE386), (hS372.pick [1, 4] rfl rfl)⟩
    ·rintro _ w381 ⟨b384, hq388, rfl, hS382⟩
     obtain ⟨u383, rfl⟩ := selfA_u hq388
     try dsimp only at hO387
     obtain ⟨c395, hE396, hO397⟩ := bind_in hO387
     refine gx_part (l1 := [_, _, _, _, _, _]) (fun a w => ∃ (b394 : Bool), selfA (fun u393 => ⟨((u87 0) :: dd u56 1 2 ((.int .u8 x15) :: (.int .i64 x16) :: dd u56 5 2 ((.int .u8 x32) :: (.int .i64 x33) :: dd u56 9 2 ((.int .u8 x49) :: (.int .i64 x50) :: (.bool b57) :: undef :: (u87 15) :: undef :: dd u87 17 2 ((u393 19) :: (u383 20) :: (.int .u8 x234) :: (.int .i64 x235) :: (.slice A252 l251.length c253) :: (u383 24) :: (.int .u8 x257) :: (.int .i64 x258) :: dd u383 27 2 ((.int .u8 x274) :: (.int .i64 x275) :: dd u383 31 2 ((.int .u8 x291) :: (.int .i64 x292) :: dd u383 35 2 ((.int .u8 x307) :: (.int .i64 x308) :: dd u383 39 2 ((.int .u8 x323) :: (.int .i64 x324) :: dd u383 43 2 ((.int .u8 x346) :: (.int .i64 x347) :: dd u383 47 2 ((.int .u8 x369) :: (.int .i64 x370) :: undef :: undef :: dd u56 53 5 ((.int .u8 x15) :: (.int .i64 x16) :: dd u56 60 5 ((.int .u8 x32) :: (.int .i64 x33) :: dd u56 67 5 ((.int .u8 x49) :: (.int .i64 x50) :: dd u56 74 21 (dd u87 95 41 (dd u383 136 5 ((.int .u8 x234) :: (.int .i64 x235) :: dd u383 143 5 ((.int .u8 x257) :: (.int .i64 x258) :: dd u383 150 5 ((.int .u8 x274) :: (.int .i64 x275) :: dd u383 157 5 ((.int .u8 x291) :: (.int .i64 x292) :: dd u383 164 4 ((.int .u8 x307) :: (.int .i64 x308) :: dd u383 170 4 ((.int .u8 x323) :: (.int .i64 x324) :: dd u383 176 5 ((.int .u8 x346) :: (.int .i64 x347) :: dd u383 183 5 ((.int .u8 x369) :: (.int .i64 x370) :: (u383 190) :: (.int .i64 ((l228.length : Nat) : Int)) :: dd u383 192 5 ((.bool b384) :: dd u393 198 5 ((.bool b394) :: un 72 ([]))))))))))))))))))))))))))).toArray, []⟩) a ∧ b394 = c395 ∧ St [] w0 w [rowE .u8 5 A252 c253 l251]) rfl ?_ ?_
     ·refine gx_kA (.bool b384) w381 ?_
      cases b384 with
      | true =>
       try dsimp only at hE396
       refine gx_kA (.slice A229 l228.length c230) w381 ?_
       obtain ⟨x399, hx400, hE396⟩ := bind_in hE396
       refine gx_vA (.pointer (Option.map (fun (p : Addr) => p.add (Int.toNat 70 * 1)) A229)) w381 (run_ixaddr (E := 5) (s := 1) (k := .i64) (c := c230) rfl (by as_aux_lemma => kernel_rfl) (by as_aux_lemma => kernel_rfl) (by as_aux_lemma => kernel_rfl) (fun _ => by kernel_rfl) (ix_in hx400).1 (ix_in hx400).2.1 (num_nil (hS382.row 0 rfl).1)) ?_
       refine gx_vA (.int .u8 x399) w381 (run_loadix rfl (by as_aux_lemma => kernel_rfl) (fun _ => by kernel_rfl) (hS382.row 0 rfl).1 hx400) ?_
       rcases if_in hE396 with ⟨h401, hE396⟩ | ⟨h401, hE396⟩
       ·refine gx_vA (.bool true) w381 (run_boolE (decide_eq_true h401) (by as_aux_lemma => kernel_rfl)) ?_
        refine gx_kA (.bool true) w381 ?_
        refine gx_nil ?_
        refine gx_thenN ?_
        exact ⟨true, selfA_i (by as_aux_lemma => kernel_rfl), (Option.some.inj hE396), (hS382.pick [1] rfl rfl)⟩
       ·refine gx_vA (.bool false) w381 (run_boolE (decide_eq_false h401) (by as_aux_lemma => kernel_rfl)) ?_
        refine gx_kA (.bool false) w381 ?_
        refine gx_nil ?_
        refine gx_thenN ?_
        exact ⟨false, selfA_i (by as_aux_lemma => kernel_rfl), (Option.some.inj hE396), (hS382.pick [1] rfl rfl)⟩
      | false =>
       try dsimp only at hE396
       refine gx_oA (gx_oA (gx_oA (gx_oA (gx_kA (.bool false) w381 ?_))))
       refine gx_nil ?_
       refine gx_thenN ?_
       exact ⟨false, selfA_i (by as_aux_lemma => kernel_rfl), (Option.some.inj hE396), (hS382.pick [1] rfl rfl)⟩
     ·rintro _ w391 ⟨b394, hq398, rfl, hS392⟩
      obtain ⟨u393, rfl⟩ := selfA_u hq398
      try dsimp only at hO397
      obtain ⟨c406, hE407, hO408⟩ := bind_in hO397
      refine gx_part (l1 := [_, _, _, _, _, _]) (fun a w => ∃ (b405 : Bool), selfA (fun u404 => ⟨((u87 0) :: dd u56 1 2 ((.int .u8 x15) :: (.int .i64 x16) :: dd u56 5 2 ((.int .u8 x32) :: (.int .i64 x33) :: dd u56 9 2 ((.int .u8 x49) :: (.int .i64 x50) :: (.bool b57) :: undef :: (u87 15) :: undef :: dd u87 17 2 ((u393 19) :: (u383 20) :: (.int .u8 x234) :: (.int .i64 x235) :: (u404 23) :: (u383 24) :: (.int .u8 x257) :: (.int .i64 x258) :: dd u383 27 2 ((.int .u8 x274) :: (.int .i64 x275) :: dd u383 31 2 ((.int .u8 x291) :: (.int .i64 x292) :: dd u383 35 2 ((.int .u8 x307) :: (.int .i64 x308) :: dd u383 39 2 ((.int .u8 x323) :: (.int .i64 x324) :: dd u383 43 2 ((.int .u8 x346) :: (.int .i64 x347) :: dd u383 47 2 ((.int .u8 x369) :: (.int .i64 x370) :: undef :: undef :: dd u56 53 5 ((.int .u8 x15) :: (.int .i64 x16) :: dd u56 60 5 ((.int .u8 x32) :: (.int .i64 x33) :: dd u56 67 5 ((.int .u8 x49) :: (.int .i64 x50) :: dd u56 74 21 (dd u87 95 41 (dd u383 136 5 ((.int .u8 x234) :: (.int .i64 x235) :: dd u383 143 5 ((.int .u8 x257) :: (.int .i64 x258) :: dd u383 150 5 ((.int .u8 x274) :: (.int .i64 x275) :: dd u383 157 5 ((.int .u8 x291) :: (.int .i64 x292) :: dd u383 164 4 ((.int .u8 x307) :: (.int .i64 x308) :: dd u383 170 4 ((.int .u8 x323) :: (.int .i64 x324) :: dd u383 176 5 ((.int .u8 x346) :: (.int .i64 x347) :: dd u383 183 5 ((.int .u8 x369) :: (.int .i64 x370) :: (u383 190) :: (.int .i64 ((l228.length : Nat) : Int)) :: dd u383 192 5 ((.bool b384) :: dd u393 198 5 ((.bool b394) :: dd u404 204 5 ((.bool b405) :: un 66 ([])))))))))))))))))))))))))))).toArray, []⟩) a ∧ b405 = c406 ∧ St [] w0 w []) rfl ?_ ?_
      ·refine gx_kA (.bool b394) w391 ?_
       cases b394 with
       | true =>
        try dsimp only at hE407
        refine gx_kA (.slice A252 l251.length c253) w391 ?_
        obtain ⟨x410, hx411, hE407⟩ := bind_in hE407
        refine gx_vA (.pointer (Option.map (fun (p : Addr) => p.add (Int.toNat 200 * 1)) A252)) w391 (run_ixaddr (E := 5) (s := 1) (k := .i64) (c := c253) rfl (by as_aux_lemma => kernel_rfl) (by as_aux_lemma => kernel_rfl) (by as_aux_lemma => kernel_rfl) (fun _ => by kernel_rfl) (ix_in hx411).1 (ix_in hx411).2.1 (num_nil (hS392.row 0 rfl).1)) ?_
        refine gx_vA (.int .u8 x410) w391 (run_loadix rfl (by as_aux_lemma => kernel_rfl) (fun _ => by kernel_rfl) (hS392.row 0 rfl).1 hx411) ?_
        rcases if_in hE407 with ⟨h412, hE407⟩ | ⟨h412, hE407⟩
        ·refine gx_vA (.bool true) w391 (run_boolE (decide_eq_true h412) (by as_aux_lemma => kernel_rfl)) ?_
         refine gx_kA (.bool true) w391 ?_
         refine gx_nil ?_
         refine gx_thenN ?_
         exact ⟨true, selfA_i (by as_aux_lemma => kernel_rfl), (Option.some.inj hE407), (hS392.pick [] rfl rfl)⟩
        ·refine gx_vA (.bool false) w391 (run_boolE (decide_eq_false h412) (by as_aux_lemma => kernel_rfl)) ?_
         refine gx_kA (.bool false) w391 ?_
         refine gx_nil ?_
         refine gx_thenN ?_
         exact ⟨false, selfA_i (by as_aux_lemma => kernel_rfl), (Option.some.inj hE407), (hS392.pick [] rfl rfl)⟩
       | false =>
        try dsimp only at hE407
        refine gx_oA (gx_oA (gx_oA (gx_oA (gx_kA (.bool false) w391 ?_))))
        refine gx_nil ?_
        refine gx_thenN ?_
        exact ⟨false, selfA_i (by as_aux_lemma => kernel_rfl), (Option.some.inj hE407), (hS392.pick [] rfl rfl)⟩
      ·rintro _ w402 ⟨b405, hq409, rfl, hS403⟩
       obtain ⟨u404, rfl⟩ := selfA_u hq409
       try dsimp only at hO408
       obtain ⟨c417, hE418, hO419⟩ := bind_in hO408
       refine gx_part (l1 := [_, _, _, _]) (fun a w => ∃ (b416 : Bool), selfA (fun u415 => ⟨((u87 0) :: dd u56 1 2 ((.int .u8 x15) :: (.int .i64 x16) :: dd u56 5 2 ((.int .u8 x32) :: (.int .i64 x33) :: dd u56 9 2 ((.int .u8 x49) :: (.int .i64 x50) :: (.bool b57) :: undef :: (u87 15) :: undef :: dd u87 17 2 ((u393 19) :: (u383 20) :: (.int .u8 x234) :: (.int .i64 x235) :: (u404 23) :: (u383 24) :: (.int .u8 x257) :: (.int .i64 x258) :: dd u383 27 2 ((.int .u8 x274) :: (.int .i64 x275) :: dd u383 31 2 ((.int .u8 x291) :: (.int .i64 x292) :: dd u383 35 2 ((.int .u8 x307) :: (.int .i64 x308) :: dd u383 39 2 ((.int .u8 x323) :: (.int .i64 x324) :: dd u383 43 2 ((.int .u8 x346) :: (.int .i64 x347) :: dd u383 47 2 ((.int .u8 x369) :: (.int .i64 x370) :: undef :: undef :: dd u56 53 5 ((.int .u8 x15) :: (.int .i64 x16) :: dd u56 60 5 ((.int .u8 x32) :: (.int .i64 x33) :: dd u56 67 5 ((.int .u8 x49) :: (.int .i64 x50) :: dd u56 74 21 (dd u87 95 41 (dd u383 136 5 ((.int .u8 x234) :: (.int .i64 x235) :: dd u383 143 5 ((.int .u8 x257) :: (.int .i64 x258) :: dd u383 150 5 ((.int .u8 x274) :: (.int .i64 x275) :: dd u383 157 5 ((.int .u8 x291) :: (.int .i64 x292) :: dd u383 164 4 ((.int .u8 x307) :: (.int .i64 x308) :: dd u383 170 4 ((.int .u8 x323) :: (.int .i64 x324) :: dd u383 176 5 ((.int .u8 x346) :: (.int .i64 x347) :: dd u383 183 5 ((.int .u8 x369) :: (.int .i64 x370) :: (u383 190) :: (.int .i64 ((l228.length : Nat) : Int)) :: dd u383 192 5 ((.bool b384) :: dd u393 198 5 ((.bool b394) :: dd u404 204 5 ((.bool b405) :: dd u415 210 3 ((.bool b416) :: un 62 ([]))))))))))))))))))))))))))))).toArray, []⟩) a ∧ b416 = c417 ∧ St [] w0 w []) rfl ?_ ?_
       ·refine gx_kA (.bool b405) w402 ?_
        cases b405 with
        | true =>
         try dsimp only at hE418
         refine gx_kA (.int .i64 x275) w402 ?_
         rcases if_in hE418 with ⟨h421, hE418⟩ | ⟨h421, hE418⟩
         ·refine gx_vA (.bool true) w402 (run_boolE (decide_eq_true h421) (by as_aux_lemma => kernel_rfl)) ?_
          refine gx_kA (.bool true) w402 ?_
          refine gx_nil ?_
          refine gx_thenN ?_
          exact ⟨true, selfA_i (by as_aux_lemma => kernel_rfl), (Option.some.inj hE418), hS403⟩
         ·refine gx_vA (.bool false) w402 (run_boolE (decide_eq_false h421) (by as_aux_lemma => kernel_rfl)) ?_
          refine gx_kA (.bool false) w402 ?_
          refine gx_nil ?_
          refine gx_thenN ?_
          exact ⟨false, selfA_i (by as_aux_lemma => kernel_rfl), (Option.some.inj hE418), hS403⟩
        | false =>
         try dsimp only at hE418
         refine gx_oA (gx_oA (gx_kA (.bool false) w402 ?_))
         refine gx_nil ?_
         refine gx_thenN ?_
         exact ⟨false, selfA_i (by as_aux_lemma => kernel_rfl), (Option.some.inj hE418), hS403⟩
       ·rintro _ w413 ⟨b416, hq420, rfl, hS414⟩
        obtain ⟨u415, rfl⟩ := selfA_u hq420
        try dsimp only at hO419
        obtain ⟨c426, hE427, hO428⟩ := bind_in hO419
        refine gx_part (l1 := [_, _, _, _]) (fun a w => ∃ (b425 : Bool), selfA (fun u424 => ⟨((u87 0) :: dd u56 1 2 ((.int .u8 x15) :: (.int .i64 x16) :: dd u56 5 2 ((.int .u8 x32) :: (.int .i64 x33) :: dd u56 9 2 ((.int .u8 x49) :: (.int .i64 x50) :: (.bool b57) :: undef :: (u87 15) :: undef :: dd u87 17 2 ((u393 19) :: (u383 20) :: (.int .u8 x234) :: (.int .i64 x235) :: (u404 23) :: (u383 24) :: (.int .u8 x257) :: (.int .i64 x258) :: dd u383 27 2 ((.int .u8 x274) :: (.int .i64 x275) :: dd u383 31 2 ((.int .u8 x291) :: (.int .i64 x292) :: dd u383 35 2 ((.int .u8 x307) :: (.int .i64 x308) :: dd u383 39 2 ((.int .u8 x323) :: (.int .i64 x324) :: dd u383 43 2 ((.int .u8 x346) :: (.int .i64 x347) :: dd u383 47 2 ((.int .u8 x369) :: (.int .i64 x370) :: undef :: undef :: dd u56 53 5 ((.int .u8 x15) :: (.int .i64 x16) :: dd u56 60 5 ((.int .u8 x32) :: (.int .i64 x33) :: dd u56 67 5 ((.int .u8 x49) :: (.int .i64 x50) :: dd u56 74 21 (dd u87 95 41 (dd u383 136 5 ((.int .u8 x234) :: (.int .i64 x235) :: dd u383 143 5 ((.int .u8 x257) :: (.int .i64 x258) :: dd u383 150 5 ((.int .u8 x274) :: (.int .i64 x275) :: dd u383 157 5 ((.int .u8 x291) :: (.int .i64 x292) :: dd u383 164 4 ((.int .u8 x307) :: (.int .i64 x308) :: dd u383 170 4 ((.int .u8 x323) :: (.int .i64 x324) :: dd u383 176 5 ((.int .u8 x346) :: (.int .i64 x347) :: dd u383 183 5 ((.int .u8 x369) :: (.int .i64 x370) :: (u383 190) :: (.int .i64 ((l228.length : Nat) : Int)) :: dd u383 192 5 ((.bool b384) :: dd u393 198 5 ((.bool b394) :: dd u404 204 5 ((.bool b405) :: dd u415 210 3 ((.bool b416) :: dd u424 214 3 ((.bool b425) :: un 58 ([])))))))))))))))))))))))))))))).toArray, []⟩) a ∧ b425 = c426 ∧ St [] w0 w []) rfl ?_ ?_
        ·refine gx_kA (.bool b416) w413 ?_
         cases b416 with
         | true =>
          try dsimp only at hE427
          refine gx_kA (.int .i64 x292) w413 ?_
          rcases if_in hE427 with ⟨h430, hE427⟩ | ⟨h430, hE427⟩
          ·refine gx_vA (.bool true) w413 (run_boolE (decide_eq_true h430) (by as_aux_lemma => kernel_rfl)) ?_
           refine gx_kA (.bool true) w413 ?_
           refine gx_nil ?_
           refine gx_thenN ?_
           exact ⟨true, selfA_i (by as_aux_lemma => kernel_rfl), (Option.some.inj hE427), hS414⟩
          ·refine gx_vA (.bool false) w413 (run_boolE (decide_eq_false h430) (by as_aux_lemma => kernel_rfl)) ?_
           refine gx_kA (.bool false) w413 ?_
           refine gx_nil ?_
           refine gx_thenN ?_
           exact ⟨false, selfA_i (by as_aux_lemma => kernel_rfl), (Option.some.inj hE427), hS414⟩
         | false =>
          try dsimp only at hE427
          refine gx_oA (gx_oA (gx_kA (.bool false) w413 ?_))
          refine gx_nil ?_
          refine gx_thenN ?_
          exact ⟨false, selfA_i (by as_aux_lemma => kernel_rfl), (Option.some.inj hE427), hS414⟩
        ·rintro _ w422 ⟨b425, hq429, rfl, hS423⟩
         obtain ⟨u424, rfl⟩ := selfA_u hq429
         try dsimp only at hO428
         obtain ⟨c435, hE436, hO437⟩ := bind_in hO428
         refine gx_part (l1 := [_, _, _, _]) (fun a w => ∃ (b434 : Bool), selfA (fun u433 => ⟨((u87 0) :: dd u56 1 2 ((.int .u8 x15) :: (.int .i64 x16) :: dd u56 5 2 ((.int .u8 x32) :: (.int .i64 x33) :: dd u56 9 2 ((.int .u8 x49) :: (.int .i64 x50) :: (.bool b57) :: undef :: (u87 15) :: undef :: dd u87 17 2 ((u393 19) :: (u383 20) :: (.int .u8 x234) :: (.int .i64 x235) :: (u404 23) :: (u383 24) :: (.int .u8 x257) :: (.int .i64 x258) :: dd u383 27 2 ((.int .u8 x274) :: (.int .i64 x275) :: dd u383 31 2 ((.int .u8 x291) :: (.int .i64 x292) :: dd u383 35 2 ((.int .u8 x307) :: (.int .i64 x308) :: dd u383 39 2 ((.int .u8 x323) :: (.int .i64 x324) :: dd u383 43 2 ((.int .u8 x346) :: (.int .i64 x347) :: dd u383 47 2 ((.int .u8 x369) :: (.int .i64 x370) :: undef :: undef :: dd u56 53 5 ((.int .u8 x15) :: (.int .i64 x16) :: dd u56 60 5 ((.int .u8 x32) :: (.int .i64 x33) :: dd u56 67 5 ((.int .u8 x49) :: (.int .i64 x50) :: dd u56 74 21 (dd u87 95 41 (dd u383 136 5 ((.int .u8 x234) :: (.int .i64 x235) :: dd u383 143 5 ((.int .u8 x257) :: (.int .i64 x258) :: dd u383 150 5 ((.int .u8 x274) :: (.int .i64 x275) :: dd u383 157 5 ((.int .u8 x291) :: (.int .i64 x292) :: dd u383 164 4 ((.int .u8 x307) :: (.int .i64 x308) :: dd u383 170 4 ((.int .u8 x323) :: (.int .i64 x324) :: dd u383 176 5 ((.int .u8 x346) :: (.int .i64 x347) :: dd u383 183 5 ((.int .u8 x369) :: (.int .i64 x370) :: (u383 190) :: (.int .i64 ((l228.length : Nat) : Int)) :: dd u383 192 5 ((.bool b384) :: dd u393 198 5 ((.bool b394) :: dd u404 204 5 ((.bool b405) :: dd u415 210 3 ((.bool b416) :: dd u424 214 3 ((.bool b425) :: dd u433 218 3 ((.bool b434) :: un 54 ([]))))))))))))))))))))))))))))))).toArray, []⟩) a ∧ b434 = c435 ∧ St [] w0 w []) rfl ?_ ?_
         ·refine gx_kA (.bool b425) w422 ?_
          cases b425 with
          | true =>
           try dsimp only at hE436
           refine gx_kA (.int .i64 x308) w422 ?_
           rcases if_in hE436 with ⟨h439, hE436⟩ | ⟨h439, hE436⟩
           ·refine gx_vA (.bool true) w422 (run_boolE (decide_eq_true h439) (by as_aux_lemma => kernel_rfl)) ?_
            refine gx_kA (.bool true) w422 ?_
            refine gx_nil ?_
            refine gx_thenN ?_
            exact ⟨true, selfA_i (by as_aux_lemma => kernel_rfl), (Option.some.inj hE436), hS423⟩
           ·refine gx_vA (.bool false) w422 (run_boolE (decide_eq_false h439) (by as_aux_lemma => kernel_rfl)) ?_
            refine gx_kA (.bool false) w422 ?_
            refine gx_nil ?_
            refine gx_thenN ?_
            exact ⟨false, selfA_i (by as_aux_lemma => kernel_rfl), (Option.some.inj hE436), hS423⟩
          | false =>
           try dsimp only at hE436
           refine gx_oA (gx_oA (gx_kA (.bool false) w422 ?_))
           refine gx_nil ?_
           refine gx_thenN ?_
           exact ⟨false, selfA_i (by as_aux_lemma => kernel_rfl), (Option.some.inj hE436), hS423⟩
         ·rintro _ w431 ⟨b434, hq438, rfl, hS432⟩
          obtain ⟨u433, rfl⟩ := selfA_u hq438
          try dsimp only at hO437
          obtain ⟨c444, hE445, hO446⟩ := bind_in hO437
          refine gx_part (l1 := [_, _, _, _]) (fun a w => ∃ (b443 : Bool), selfA (fun u442 => ⟨((u87 0) :: dd u56 1 2 ((.int .u8 x15) :: (.int .i64 x16) :: dd u56 5 2 ((.int .u8 x32) :: (.int .i64 x33) :: dd u56 9 2 ((.int .u8 x49) :: (.int .i64 x50) :: (.bool b57) :: undef :: (u87 15) :: undef :: dd u87 17 2 ((u393 19) :: (u383 20) :: (.int .u8 x234) :: (.int .i64 x235) :: (u404 23) :: (u383 24) :: (.int .u8 x257) :: (.int .i64 x258) :: dd u383 27 2 ((.int .u8 x274) :: (.int .i64 x275) :: dd u383 31 2 ((.int .u8 x291) :: (.int .i64 x292) :: dd u383 35 2 ((.int .u8 x307) :: (.int .i64 x308) :: dd u383 39 2 ((.int .u8 x323) :: (.int .i64 x324) :: dd u383 43 2 ((.int .u8 x346) :: (.int .i64 x347) :: dd u383 47 2 ((.int .u8 x369) :: (.int .i64 x370) :: undef :: undef :: dd u56 53 5 ((.int .u8 x15) :: (.int .i64 x16) :: dd u56 60 5 ((.int .u8 x32) :: (.int .i64 x33) :: dd u56 67 5 ((.int .u8 x49) :: (.int .i64 x50) :: dd u56 74 21 (dd u87 95 41 (dd u383 136 5 ((.int .u8 x234) :: (.int .i64 x235) :: dd u383 143 5 ((.int .u8 x257) :: (.int .i64 x258) :: dd u383 150 5 ((.int .u8 x274) :: (.int .i64 x275) :: dd u383 157 5 ((.int .u8 x291) :: (.int .i64 x292) :: dd u383 164 4 ((.int .u8 x307) :: (.int .i64 x308) :: dd u383 170 4 ((.int .u8 x323) :: (.int .i64 x324) :: dd u383 176 5 ((.int .u8 x346) :: (.int .i64 x347) :: dd u383 183 5 ((.int .u8 x369) :: (.int .i64 x370) :: (u383 190) :: (.int .i64 ((l228.length : Nat) : Int)) :: dd u383 192 5 ((.bool b384) :: dd u393 198 5 ((.bool b394) :: dd u404 204 5 ((.bool b405) :: dd u415 210 3 ((.bool b416) :: dd u424 214 3 ((.bool b425) :: dd u433 218 3 ((.bool b434) :: dd u442 222 3 ((.bool b443) :: un 50 ([])))))))))))))))))))))))))))))))).toArray, []⟩) a ∧ b443 = c444 ∧ St [] w0 w []) rfl ?_ ?_
          ·refine gx_kA (.bool b434) w431 ?_
           cases b434 with
           | true =>
            try dsimp only at hE445
            refine gx_kA (.int .u8 x323) w431 ?_
            rcases if_in hE445 with ⟨h448, hE445⟩ | ⟨h448, hE445⟩
            ·refine gx_vA (.bool true) w431 (run_boolE (decide_eq_true h448) (by as_aux_lemma => kernel_rfl)) ?_
             refine gx_kA (.bool true) w431 ?_
             refine gx_nil ?_
             refine gx_thenN ?_
             exact ⟨true, selfA_i (by as_aux_lemma => kernel_rfl), (Option.some.inj hE445), hS432⟩
            ·refine gx_vA (.bool false) w431 (run_boolE (decide_eq_false h448) (by as_aux_lemma => kernel_rfl)) ?_
             refine gx_kA (.bool false) w431 ?_
             refine gx_nil ?_
             refine gx_thenN ?_
             exact ⟨false, selfA_i (by as_aux_lemma => kernel_rfl), (Option.some.inj hE445), hS432⟩
           | false =>
            try dsimp only at hE445
            refine gx_oA (gx_oA (gx_kA (.bool false) w431 ?_))
            refine gx_nil ?_
            refine gx_thenN ?_
            exact ⟨false, selfA_i (by as_aux_lemma => kernel_rfl), (Option.some.inj hE445), hS432⟩
          ·rintro _ w440 ⟨b443, hq447, rfl, hS441⟩
           obtain ⟨u442, rfl⟩ := selfA_u hq447
           try dsimp only at hO446
           obtain ⟨c453, hE454, hO455⟩ := bind_in hO446
           refine gx_part (l1 := [_, _, _, _]) (fun a w => ∃ (b452 : Bool), selfA (fun u451 => ⟨((u87 0) :: dd u56 1 2 ((.int .u8 x15) :: (.int .i64 x16) :: dd u56 5 2 ((.int .u8 x32) :: (.int .i64 x33) :: dd u56 9 2 ((.int .u8 x49) :: (.int .i64 x50) :: (.bool b57) :: undef :: (u87 15) :: undef :: dd u87 17 2 ((u393 19) :: (u383 20) :: (.int .u8 x234) :: (.int .i64 x235) :: (u404 23) :: (u383 24) :: (.int .u8 x257) :: (.int .i64 x258) :: dd u383 27 2 ((.int .u8 x274) :: (.int .i64 x275) :: dd u383 31 2 ((.int .u8 x291) :: (.int .i64 x292) :: dd u383 35 2 ((.int .u8 x307) :: (.int .i64 x308) :: dd u383 39 2 ((.int .u8 x323) :: (.int .i64 x324) :: dd u383 43 2 ((.int .u8 x346) :: (.int .i64 x347) :: dd u383 47 2 ((.int .u8 x369) :: (.int .i64 x370) :: undef :: undef :: dd u56 53 5 ((.int .u8 x15) :: (.int .i64 x16) :: dd u56 60 5 ((.int .u8 x32) :: (.int .i64 x33) :: dd u56 67 5 ((.int .u8 x49) :: (.int .i64 x50) :: dd u56 74 21 (dd u87 95 41 (dd u383 136 5 ((.int .u8 x234) :: (.int .i64 x235) :: dd u383 143 5 ((.int .u8 x257) :: (.int .i64 x258) :: dd u383 150 5 ((.int .u8 x274) :: (.int .i64 x275) :: dd u383 157 5 ((.int .u8 x291) :: (.int .i64 x292) :: dd u383 164 4 ((.int .u8 x307) :: (.int .i64 x308) :: dd u383 170 4 ((.int .u8 x323) :: (.int .i64 x324) :: dd u383 176 5 ((.int .u8 x346) :: (.int .i64 x347) :: dd u383 183 5 ((.int .u8 x369) :: (.int .i64 x370) :: (u383 190) :: (.int .i64 ((l228.length : Nat) : Int)) :: dd u383 192 5 ((.bool b384) :: dd u393 198 5 ((.bool b394) :: dd u404 204 5 ((.bool b405) :: dd u415 210 3 ((.bool b416) :: dd u424 214 3 ((.bool b425) :: dd u433 218 3 ((.bool b434) :: dd u442 222 3 ((.bool b443) :: dd u451 226 3 ((.bool b452) :: un 46 ([]))))))))))))))))))))))))))))))))).toArray, []⟩) a ∧ b452 = c453 ∧ St [] w0 w []) rfl ?_ ?_
           ·refine gx_kA (.bool b443) w440 ?_
            cases b443 with
            | true =>
             try dsimp only at hE454
             refine gx_kA (.int .i64 x324) w440 ?_
             rcases if_in hE454 with ⟨h457, hE454⟩ | ⟨h457, hE454⟩
             ·refine gx_vA (.bool true) w440 (run_boolE (decide_eq_true h457) (by as_aux_lemma => kernel_rfl)) ?_
              refine gx_kA (.bool true) w440 ?_
              refine gx_nil ?_
              refine gx_thenN ?_
              exact ⟨true, selfA_i (by as_aux_lemma => kernel_rfl), (Option.some.inj hE454), hS441⟩
             ·refine gx_vA (.bool false) w440 (run_boolE (decide_eq_false h457) (by as_aux_lemma => kernel_rfl)) ?_
              refine gx_kA (.bool false) w440 ?_
              refine gx_nil ?_
              refine gx_thenN ?_
              exact ⟨false, selfA_i (by as_aux_lemma => kernel_rfl), (Option.some.inj hE454), hS441⟩
            | false =>
             try dsimp only at hE454
             refine gx_oA (gx_oA (gx_kA (.bool false) w440 ?_))
             refine gx_nil ?_
             refine gx_thenN ?_
             exact ⟨false, selfA_i (by as_aux_lemma => kernel_rfl), (Option.some.inj hE454), hS441⟩
           ·rintro _ w449 ⟨b452, hq456, rfl, hS450⟩
            obtain ⟨u451, rfl⟩ := selfA_u hq456
            try dsimp only at hO455
            refine gx_kA (.bool b452) w449 ?_
            cases b452 with
            | true =>
             try dsimp only at hO455
             refine gx_kA (.int .i64 x347) w449 ?_
             rcases if_in hO455 with ⟨h458, hO455⟩ | ⟨h458, hO455⟩
             ·refine gx_vA (.bool true) w449 (run_boolE (decide_eq_true h458) (by as_aux_lemma => kernel_rfl)) ?_
              refine gx_kA (.bool true) w449 (gx_kA (.bool true) w449 (gx_kA (.int .i64 x370) w449 ?_))
              rcases if_in hO455 with ⟨h459, hO455⟩ | ⟨h459, hO455⟩
              ·refine gx_vA (.bool true) w449 (run_boolE (decide_eq_true h459) (by as_aux_lemma => kernel_rfl)) ?_
               refine gx_kA (.bool true) w449 (gx_kA (.bool true) w449 ?_)
               refine gx_nil ?_
               refine gx_thenN ?_
               exact ⟨true, selfA_i (by as_aux_lemma => kernel_rfl), (Option.some.inj hO455), hS450⟩
              ·refine gx_vA (.bool false) w449 (run_boolE (decide_eq_false h459) (by as_aux_lemma => kernel_rfl)) ?_
               refine gx_kA (.bool false) w449 (gx_kA (.bool false) w449 ?_)
               refine gx_nil ?_
               refine gx_thenN ?_
               exact ⟨false, selfA_i (by as_aux_lemma => kernel_rfl), (Option.some.inj hO455), hS450⟩
             ·refine gx_vA (.bool false) w449 (run_boolE (decide_eq_false h458) (by as_aux_lemma => kernel_rfl)) ?_
              refine gx_kA (.bool false) w449 (gx_kA (.bool false) w449 (gx_oA (gx_oA (gx_kA (.bool false) w449 (gx_kA (.bool false) w449 ?_)))))
              refine gx_nil ?_
              refine gx_thenN ?_
              exact ⟨false, selfA_i (by as_aux_lemma => kernel_rfl), (Option.some.inj hO455), hS450⟩
            | false =>
             try dsimp only at hO455
             refine gx_oA (gx_oA (gx_kA (.bool false) w449 (gx_kA (.bool false) w449 (gx_oA (gx_oA (gx_kA (.bool false) w449 (gx_kA (.bool false) w449 ?_)))))))
             refine gx_nil ?_
             refine gx_thenN ?_
             exact ⟨false, selfA_i (by as_aux_lemma => kernel_rfl), (Option.some.inj hO455), hS450⟩
   ·rintro _ w374 ⟨b377, hq562, rfl, hS375⟩
    obtain ⟨u376, rfl⟩ := selfA_u hq562
    try dsimp only at hO380
    obtain ⟨c464, hE465, hO466⟩ := bind_in hO380
    refine gx_cut (fun a w => ∃ (b463 : Bool), selfA (fun u462 => ⟨((u87 0) :: dd u56 1 2 ((.int .u8 x15) :: (.int .i64 x16) :: dd u56 5 2 ((.int .u8 x32) :: (.int .i64 x33) :: dd u56 9 2 ((.int .u8 x49) :: (.int .i64 x50) :: (.bool b57) :: undef :: (u87 15) :: undef :: dd u87 17 2 (dd u376 19 2 ((.int .u8 x234) :: (.int .i64 x235) :: dd u376 23 2 ((.int .u8 x257) :: (.int .i64 x258) :: dd u376 27 2 ((.int .u8 x274) :: (.int .i64 x275) :: dd u376 31 2 ((.int .u8 x291) :: (.int .i64 x292) :: dd u376 35 2 ((.int .u8 x307) :: (.int .i64 x308) :: dd u376 39 2 ((.int .u8 x323) :: (.int .i64 x324) :: dd u376 43 2 ((.int .u8 x346) :: (.int .i64 x347) :: dd u376 47 2 ((.int .u8 x369) :: (.int .i64 x370) :: (.bool b377) :: (.bool b463) :: dd u56 53 5 ((.int .u8 x15) :: (.int .i64 x16) :: dd u56 60 5 ((.int .u8 x32) :: (.int .i64 x33) :: dd u56 67 5 ((.int .u8 x49) :: (.int .i64 x50) :: dd u56 74 21 (dd u87 95 41 (dd u376 136 5 ((.int .u8 x234) :: (.int .i64 x235) :: dd u376 143 5 ((.int .u8 x257) :: (.int .i64 x258) :: dd u376 150 5 ((.int .u8 x274) :: (.int .i64 x275) :: dd u376 157 5 ((.int .u8 x291) :: (.int .i64 x292) :: dd u376 164 4 ((.int .u8 x307) :: (.int .i64 x308) :: dd u376 170 4 ((.int .u8 x323) :: (.int .i64 x324) :: dd u376 176 5 ((.int .u8 x346) :: (.int .i64 x347) :: dd u376 183 5 ((.int .u8 x369) :: (.int .i64 x370) :: dd u376 190 48 (dd u462 238 28 (un 10 ([]))))))))))))))))))))))))))))).toArray, []⟩) a ∧ b463 = c464 ∧ St [] w0 w []) ?_ ?_
    ·refine gx_region ?_
     refine gx_rA (st_made .u8 26 [21, 2, 23, 1, 2] hS375 (by show 5 ≤ 1000000000; decide) (by as_aux_lemma => kernel_rfl)) ?_
     rintro _ w467 ⟨rfl, hS468⟩
     have hS468 : St _ _ w467 [rowE .u8 26 (some ⟨w374.heap.size, 0, none⟩) 5 ([21, 2, 23, 1, 2])] := hS468
     have hP469 : St _ _ w467 ([] ++ [rowE .u8 26 (some ⟨w374.heap.size, 0, none⟩) 5 ([21, 2, 23, 1, 2])]) := hS468
     obtain ⟨x471, hc470, hE465⟩ := bind_in hE465
     try dsimp only at hE465
     refine gx_cA (pBase_R x471 w467) (pBase_ok N ([21, 2, 23, 1, 2]) (some ⟨w374.heap.size, 0, none⟩) 5 _ hc470 w467 (hP469.vwB 0 rfl)) ?_
     rintro _ w472 ⟨rfl, hT474⟩
     have hS473 : St _ _ w472 [rowE .u8 26 (some ⟨w374.heap.size, 0, none⟩) 5 ([21, 2, 23, 1, 2])] := hS468.take _ hT474
     obtain ⟨c479, hE480, hO481⟩ := bind_in hE465
     refine gx_part (l1 := [_, _, _, _, _, _]) (fun a w => ∃ (b478 : Bool), selfA (fun u477 => ⟨((u87 0) :: dd u56 1 2 ((.int .u8 x15) :: (.int .i64 x16) :: dd u56 5 2 ((.int .u8 x32) :: (.int .i64 x33) :: dd u56 9 2 ((.int .u8 x49) :: (.int .i64 x50) :: (.bool b57) :: undef :: (u87 15) :: undef :: dd u87 17 2 (dd u376 19 2 ((.int .u8 x234) :: (.int .i64 x235) :: dd u376 23 2 ((.int .u8 x257) :: (.int .i64 x258) :: dd u376 27 2 ((.int .u8 x274) :: (.int .i64 x275) :: dd u376 31 2 ((.int .u8 x291) :: (.int .i64 x292) :: dd u376 35 2 ((.int .u8 x307) :: (.int .i64 x308) :: dd u376 39 2 ((.int .u8 x323) :: (.int .i64 x324) :: dd u376 43 2 ((.int .u8 x346) :: (.int .i64 x347) :: dd u376 47 2 ((.int .u8 x369) :: (.int .i64 x370) :: (.bool b377) :: undef :: dd u56 53 5 ((.int .u8 x15) :: (.int .i64 x16) :: dd u56 60 5 ((.int .u8 x32) :: (.int .i64 x33) :: dd u56 67 5 ((.int .u8 x49) :: (.int .i64 x50) :: dd u56 74 21 (dd u87 95 41 (dd u376 136 5 ((.int .u8 x234) :: (.int .i64 x235) :: dd u376 143 5 ((.int .u8 x257) :: (.int .i64 x258) :: dd u376 150 5 ((.int .u8 x274) :: (.int .i64 x275) :: dd u376 157 5 ((.int .u8 x291) :: (.int .i64 x292) :: dd u376 164 4 ((.int .u8 x307) :: (.int .i64 x308) :: dd u376 170 4 ((.int .u8 x323) :: (.int .i64 x324) :: dd u376 176 5 ((.int .u8 x346) :: (.int .i64 x347) :: dd u376 183 5 ((.int .u8 x369) :: (.int .i64 x370) :: dd u376 190 48 ((u477 238) :: (.int .u8 x471) :: dd u477 240 5 ((.bool b478) :: un 30 ([]))))))))))))))))))))))))))))).toArray, []⟩) a ∧ b478 = c479 ∧ St [] w0 w []) rfl ?_ ?_
     ·rcases if_in hE480 with ⟨h483, hE480⟩ | ⟨h483, hE480⟩
      ·refine gx_vA (.bool true) w472 (run_boolE (decide_eq_true h483) (by as_aux_lemma => kernel_rfl)) ?_
       refine gx_kA (.bool true) w472 ?_
       refine gx_rA (st_made .u8 26 [21, 2, 1] hS473 (by show 3 ≤ 1000000000; decide) (by as_aux_lemma => kernel_rfl)) ?_
       rintro _ w484 ⟨rfl, hS485⟩
       have hS485 : St _ _ w484 [rowE .u8 26 (some ⟨w374.heap.size, 0, none⟩) 5 ([21, 2, 23, 1, 2]), rowE .u8 26 (some ⟨w472.heap.size, 0, none⟩) 3 ([21, 2, 1])] := hS485
       have hP486 : St _ _ w484 ([] ++ [rowE .u8 26 (some ⟨w374.heap.size, 0, none⟩) 5 ([21, 2, 23, 1, 2]), rowE .u8 26 (some ⟨w472.heap.size, 0, none⟩) 3 ([21, 2, 1])]) := hS485
       obtain ⟨x488, hc487, hE480⟩ := bind_in hE480
       try dsimp only at hE480
       refine gx_cA (pBase_R x488 w484) (pBase_ok N ([21, 2, 1]) (some ⟨w472.heap.size, 0, none⟩) 3 _ hc487 w484 (hP486.vwB 1 rfl)) ?_
       rintro _ w489 ⟨rfl, hT491⟩
       have hS490 : St _ _ w489 [rowE .u8 26 (some ⟨w374.heap.size, 0, none⟩) 5 ([21, 2, 23, 1, 2]), rowE .u8 26 (some ⟨w472.heap.size, 0, none⟩) 3 ([21, 2, 1])] := hS485.take _ hT491
       rcases if_in hE480 with ⟨h492, hE480⟩ | ⟨h492, hE480⟩
       ·refine gx_vA (.bool true) w489 (run_boolE (decide_eq_true h492) (by as_aux_lemma => kernel_rfl)) ?_
        refine gx_kA (.bool true) w489 ?_
        refine gx_nil ?_
        refine gx_thenN ?_
        exact ⟨true, selfA_i (by as_aux_lemma => kernel_rfl), (Option.some.inj hE480), (hS490.pick [] rfl rfl)⟩
       ·refine gx_vA (.bool false) w489 (run_boolE (decide_eq_false h492) (by as_aux_lemma => kernel_rfl)) ?_
        refine gx_kA (.bool false) w489 ?_
        refine gx_nil ?_
        refine gx_thenN ?_
        exact ⟨false, selfA_i (by as_aux_lemma => kernel_rfl), (Option.some.inj hE480), (hS490.pick [] rfl rfl)⟩
      ·refine gx_vA (.bool false) w472 (run_boolE (decide_eq_false h483) (by as_aux_lemma => kernel_rfl)) ?_
       refine gx_kA (.bool false) w472 (gx_oA (gx_oA (gx_oA (gx_kA (.bool false) w472 ?_))))
       refine gx_nil ?_
       refine gx_thenN ?_
       exact ⟨false, selfA_i (by as_aux_lemma => kernel_rfl), (Option.some.inj hE480), (hS473.pick [] rfl rfl)⟩
     ·rintro _ w475 ⟨b478, hq482, rfl, hS476⟩
      obtain ⟨u477, rfl⟩ := selfA_u hq482
      try dsimp only at hO481
      obtain ⟨c497, hE498, hO499⟩ := bind_in hO481
      refine gx_part (l1 := [_, _, _, _, _]) (fun a w => ∃ (b496 : Bool), selfA (fun u495 => ⟨((u87 0) :: dd u56 1 2 ((.int .u8 x15) :: (.int .i64 x16) :: dd u56 5 2 ((.int .u8 x32) :: (.int .i64 x33) :: dd u56 9 2 ((.int .u8 x49) :: (.int .i64 x50) :: (.bool b57) :: undef :: (u87 15) :: undef :: dd u87 17 2 (dd u376 19 2 ((.int .u8 x234) :: (.int .i64 x235) :: dd u376 23 2 ((.int .u8 x257) :: (.int .i64 x258) :: dd u376 27 2 ((.int .u8 x274) :: (.int .i64 x275) :: dd u376 31 2 ((.int .u8 x291) :: (.int .i64 x292) :: dd u376 35 2 ((.int .u8 x307) :: (.int .i64 x308) :: dd u376 39 2 ((.int .u8 x323) :: (.int .i64 x324) :: dd u376 43 2 ((.int .u8 x346) :: (.int .i64 x347) :: dd u376 47 2 ((.int .u8 x369) :: (.int .i64 x370) :: (.bool b377) :: undef :: dd u56 53 5 ((.int .u8 x15) :: (.int .i64 x16) :: dd u56 60 5 ((.int .u8 x32) :: (.int .i64 x33) :: dd u56 67 5 ((.int .u8 x49) :: (.int .i64 x50) :: dd u56 74 21 (dd u87 95 41 (dd u376 136 5 ((.int .u8 x234) :: (.int .i64 x235) :: dd u376 143 5 ((.int .u8 x257) :: (.int .i64 x258) :: dd u376 150 5 ((.int .u8 x274) :: (.int .i64 x275) :: dd u376 157 5 ((.int .u8 x291) :: (.int .i64 x292) :: dd u376 164 4 ((.int .u8 x307) :: (.int .i64 x308) :: dd u376 170 4 ((.int .u8 x323) :: (.int .i64 x324) :: dd u376 176 5 ((.int .u8 x346) :: (.int .i64 x347) :: dd u376 183 5 ((.int .u8 x369) :: (.int .i64 x370) :: dd u376 190 48 ((u477 238) :: (.int .u8 x471) :: dd u477 240 5 ((.bool b478) :: dd u495 246 4 ((.bool b496) :: un 25 ([])))))))))))))))))))))))))))))).toArray, []⟩) a ∧ b496 = c497 ∧ St [] w0 w []) rfl ?_ ?_
      ·refine gx_kA (.bool b478) w475 ?_
       cases b478 with
       | true =>
        try dsimp only at hE498
        refine gx_rA (st_made .u8 26 [23, 3] hS476 (by show 2 ≤ 1000000000; decide) (by as_aux_lemma => kernel_rfl)) ?_
        rintro _ w501 ⟨rfl, hS502⟩
        have hS502 : St _ _ w501 [rowE .u8 26 (some ⟨w475.heap.size, 0, none⟩) 2 ([23, 3])] := hS502
        have hP503 : St _ _ w501 ([] ++ [rowE .u8 26 (some ⟨w475.heap.size, 0, none⟩) 2 ([23, 3])]) := hS502
        obtain ⟨x505, hc504, hE498⟩ := bind_in hE498
        try dsimp only at hE498
        refine gx_cA (pBase_R x505 w501) (pBase_ok N ([23, 3]) (some ⟨w475.heap.size, 0, none⟩) 2 _ hc504 w501 (hP503.vwB 0 rfl)) ?_
        rintro _ w506 ⟨rfl, hT508⟩
        have hS507 : St _ _ w506 [rowE .u8 26 (some ⟨w475.heap.size, 0, none⟩) 2 ([23, 3])] := hS502.take _ hT508
        rcases if_in hE498 with ⟨h509, hE498⟩ | ⟨h509, hE498⟩
        ·refine gx_vA (.bool true) w506 (run_boolE (decide_eq_true h509) (by as_aux_lemma => kernel_rfl)) ?_
         refine gx_kA (.bool true) w506 ?_
         refine gx_nil ?_
         refine gx_thenN ?_
         exact ⟨true, selfA_i (by as_aux_lemma => kernel_rfl), (Option.some.inj hE498), (hS507.pick [] rfl rfl)⟩
        ·refine gx_vA (.bool false) w506 (run_boolE (decide_eq_false h509) (by as_aux_lemma => kernel_rfl)) ?_
         refine gx_kA (.bool false) w506 ?_
         refine gx_nil ?_
         refine gx_thenN ?_
         exact ⟨false, selfA_i (by as_aux_lemma => kernel_rfl), (Option.some.inj hE498), (hS507.pick [] rfl rfl)⟩
       | false =>
        try dsimp only at hE498
        refine gx_oA (gx_oA (gx_oA (gx_kA (.bool false) w475 ?_)))
        refine gx_nil ?_
        refine gx_thenN ?_
        exact ⟨false, selfA_i (by as_aux_lemma => kernel_rfl), (Option.some.inj hE498), hS476⟩
      ·rintro _ w493 ⟨b496, hq500, rfl, hS494⟩
       obtain ⟨u495, rfl⟩ := selfA_u hq500
       try dsimp only at hO499
       obtain ⟨c514, hE515, hO516⟩ := bind_in hO499
       refine gx_part (l1 := [_, _, _, _, _]) (fun a w => ∃ (b513 : Bool), selfA (fun u512 => ⟨((u87 0) :: dd u56 1 2 ((.int .u8 x15) :: (.int .i64 x16) :: dd u56 5 2 ((.int .u8 x32) :: (.int .i64 x33) :: dd u56 9 2 ((.int .u8 x49) :: (.int .i64 x50) :: (.bool b57) :: undef :: (u87 15) :: undef :: dd u87 17 2 (dd u376 19 2 ((.int .u8 x234) :: (.int .i64 x235) :: dd u376 23 2 ((.int .u8 x257) :: (.int .i64 x258) :: dd u376 27 2 ((.int .u8 x274) :: (.int .i64 x275) :: dd u376 31 2 ((.int .u8 x291) :: (.int .i64 x292) :: dd u376 35 2 ((.int .u8 x307) :: (.int .i64 x308) :: dd u376 39 2 ((.int .u8 x323) :: (.int .i64 x324) :: dd u376 43 2 ((.int .u8 x346) :: (.int .i64 x347) :: dd u376 47 2 ((.int .u8 x369) :: (.int .i64 x370) :: (.bool b377) :: undef :: dd u56 53 5 ((.int .u8 x15) :: (.int .i64 x16) :: dd u56 60 5 ((.int .u8 x32) :: (.int .i64 x33) :: dd u56 67 5 ((.int .u8 x49) :: (.int .i64 x50) :: dd u56 74 21 (dd u87 95 41 (dd u376 136 5 ((.int .u8 x234) :: (.int .i64 x235) :: dd u376 143 5 ((.int .u8 x257) :: (.int .i64 x258) :: dd u376 150 5 ((.int .u8 x274) :: (.int .i64 x275) :: dd u376 157 5 ((.int .u8 x291) :: (.int .i64 x292) :: dd u376 164 4 ((.int .u8 x307) :: (.int .i64 x308) :: dd u376 170 4 ((.int .u8 x323) :: (.int .i64 x324) :: dd u376 176 5 ((.int .u8 x346) :: (.int .i64 x347) :: dd u376 183 5 ((.int .u8 x369) :: (.int .i64 x370) :: dd u376 190 48 ((u477 238) :: (.int .u8 x471) :: dd u477 240 5 ((.bool b478) :: dd u495 246 4 ((.bool b496) :: dd u512 251 4 ((.bool b513) :: un 20 ([]))))))))))))))))))))))))))))))).toArray, []⟩) a ∧ b513 = c514 ∧ St [] w0 w []) rfl ?_ ?_
       ·refine gx_kA (.bool b496) w493 ?_
        cases b496 with
        | true =>
         try dsimp only at hE515
         refine gx_rA (st_made .u8 26 [14, 11, 2] hS494 (by show 3 ≤ 1000000000; decide) (by as_aux_lemma => kernel_rfl)) ?_
         rintro _ w518 ⟨rfl, hS519⟩
         have hS519 : St _ _ w518 [rowE .u8 26 (some ⟨w493.heap.size, 0, none⟩) 3 ([14, 11, 2])] := hS519
         have hP520 : St _ _ w518 ([] ++ [rowE .u8 26 (some ⟨w493.heap.size, 0, none⟩) 3 ([14, 11, 2])]) := hS519
         obtain ⟨x522, hc521, hE515⟩ := bind_in hE515
         try dsimp only at hE515
         refine gx_cA (pBase_R x522 w518) (pBase_ok N ([14, 11, 2]) (some ⟨w493.heap.size, 0, none⟩) 3 _ hc521 w518 (hP520.vwB 0 rfl)) ?_
         rintro _ w523 ⟨rfl, hT525⟩
         have hS524 : St _ _ w523 [rowE .u8 26 (some ⟨w493.heap.size, 0, none⟩) 3 ([14, 11, 2])] := hS519.take _ hT525
         rcases if_in hE515 with ⟨h526, hE515⟩ | ⟨h526, hE515⟩
         ·refine gx_vA (.bool true) w523 (run_boolE (decide_eq_true h526) (by as_aux_lemma => kernel_rfl)) ?_
          refine gx_kA (.bool true) w523 ?_
          refine gx_nil ?_
          refine gx_thenN ?_
          exact ⟨true, selfA_i (by as_aux_lemma => kernel_rfl), (Option.some.inj hE515), (hS524.pick [] rfl rfl)⟩
         ·refine gx_vA (.bool false) w523 (run_boolE (decide_eq_false h526) (by as_aux_lemma => kernel_rfl)) ?_
          refine gx_kA (.bool false) w523 ?_
          refine gx_nil ?_
          refine gx_thenN ?_
          exact ⟨false, selfA_i (by as_aux_lemma => kernel_rfl), (Option.some.inj hE515), (hS524.pick [] rfl rfl)⟩
        | false =>
         try dsimp only at hE515
         refine gx_oA (gx_oA (gx_oA (gx_kA (.bool false) w493 ?_)))
         refine gx_nil ?_
         refine gx_thenN ?_
         exact ⟨false, selfA_i (by as_aux_lemma => kernel_rfl), (Option.some.inj hE515), hS494⟩
       ·rintro _ w510 ⟨b513, hq517, rfl, hS511⟩
        obtain ⟨u512, rfl⟩ := selfA_u hq517
        try dsimp only at hO516
        refine gx_kA (.bool b513) w510 ?_
        cases b513 with
        | true =>
         try dsimp only at hO516
         refine gx_rA (st_made .u8 26 [16, 4, 9, 2] hS511 (by show 4 ≤ 1000000000; decide) (by as_aux_lemma => kernel_rfl)) ?_
         rintro _ w527 ⟨rfl, hS528⟩
         have hS528 : St _ _ w527 [rowE .u8 26 (some ⟨w510.heap.size, 0, none⟩) 4 ([16, 4, 9, 2])] := hS528
         have hP529 : St _ _ w527 ([] ++ [rowE .u8 26 (some ⟨w510.heap.size, 0, none⟩) 4 ([16, 4, 9, 2])]) := hS528
         obtain ⟨x531, hc530, hO516⟩ := bind_in hO516
         try dsimp only at hO516
         refine gx_cA (pBase_R x531 w527) (pBase_ok N ([16, 4, 9, 2]) (some ⟨w510.heap.size, 0, none⟩) 4 _ hc530 w527 (hP529.vwB 0 rfl)) ?_
         rintro _ w532 ⟨rfl, hT534⟩
         have hS533 : St _ _ w532 [rowE .u8 26 (some ⟨w510.heap.size, 0, none⟩) 4 ([16, 4, 9, 2])] := hS528.take _ hT534
         rcases if_in hO516 with ⟨h535, hO516⟩ | ⟨h535, hO516⟩
         ·refine gx_vA (.bool true) w532 (run_boolE (decide_eq_true h535) (by as_aux_lemma => kernel_rfl)) ?_
          refine gx_kA (.bool true) w532 (gx_kA (.bool true) w532 ?_)
          refine gx_rA (st_made .u8 26 [20, 11, 2] hS533 (by show 3 ≤ 1000000000; decide) (by as_aux_lemma => kernel_rfl)) ?_
          rintro _ w536 ⟨rfl, hS537⟩
          have hS537 : St _ _ w536 [rowE .u8 26 (some ⟨w510.heap.size, 0, none⟩) 4 ([16, 4, 9, 2]), rowE .u8 26 (some ⟨w532.heap.size, 0, none⟩) 3 ([20, 11, 2])] := hS537
          have hP538 : St _ _ w536 ([] ++ [rowE .u8 26 (some ⟨w510.heap.size, 0, none⟩) 4 ([16, 4, 9, 2]), rowE .u8 26 (some ⟨w532.heap.size, 0, none⟩) 3 ([20, 11, 2])]) := hS537
          obtain ⟨x540, hc539, hO516⟩ := bind_in hO516
          try dsimp only at hO516
          refine gx_cA (pBase_R x540 w536) (pBase_ok N ([20, 11, 2]) (some ⟨w532.heap.size, 0, none⟩) 3 _ hc539 w536 (hP538.vwB 1 rfl)) ?_
          rintro _ w541 ⟨rfl, hT543⟩
          have hS542 : St _ _ w541 [rowE .u8 26 (some ⟨w510.heap.size, 0, none⟩) 4 ([16, 4, 9, 2]), rowE .u8 26 (some ⟨w532.heap.size, 0, none⟩) 3 ([20, 11, 2])] := hS537.take _ hT543
          rcases if_in hO516 with ⟨h544, hO516⟩ | ⟨h544, hO516⟩
          ·refine gx_vA (.bool true) w541 (run_boolE (decide_eq_true h544) (by as_aux_lemma => kernel_rfl)) ?_
           refine gx_kA (.bool true) w541 (gx_kA (.bool true) w541 ?_)
           refine gx_nil ?_
           refine gx_thenN ?_
           exact ⟨true, selfA_i (by as_aux_lemma => kernel_rfl), (Option.some.inj hO516), (hS542.pick [] rfl rfl)⟩
          ·refine gx_vA (.bool false) w541 (run_boolE (decide_eq_false h544) (by as_aux_lemma => kernel_rfl)) ?_
           refine gx_kA (.bool false) w541 (gx_kA (.bool false) w541 ?_)
           refine gx_nil ?_
           refine gx_thenN ?_
           exact ⟨false, selfA_i (by as_aux_lemma => kernel_rfl), (Option.some.inj hO516), (hS542.pick [] rfl rfl)⟩
         ·refine gx_vA (.bool false) w532 (run_boolE (decide_eq_false h535) (by as_aux_lemma => kernel_rfl)) ?_
          refine gx_kA (.bool false) w532 (gx_kA (.bool false) w532 (gx_oA (gx_oA (gx_oA (gx_kA (.bool false) w532 (gx_kA (.bool false) w532 ?_))))))
          refine gx_nil ?_
          refine gx_thenN ?_
          exact ⟨false, selfA_i (by as_aux_lemma => kernel_rfl), (Option.some.inj hO516), (hS533.pick [] rfl rfl)⟩
        | false =>
         try dsimp only at hO516
         refine gx_oA (gx_oA (gx_oA (gx_kA (.bool false) w510 (gx_kA (.bool false) w510 (gx_oA (gx_oA (gx_oA ?_)))))))
         refine gx_kA (.bool false) w510 (gx_kA (.bool false) w510 ?_)
         refine gx_nil ?_
         refine gx_thenN ?_
         exact ⟨false, selfA_i (by as_aux_lemma => kernel_rfl), (Option.some.inj hO516), hS511⟩
    ·rintro _ w460 ⟨b463, hq561, rfl, hS461⟩
     obtain ⟨u462, rfl⟩ := selfA_u hq561
     try dsimp only at hO466
     refine gx_seq (fun K545 hK546 => ?_)
     refine gx_region ?_
     obtain ⟨c551, hE552, hO553⟩ := bind_in hO466
     refine gx_part (l1 := [_, _, _, _]) (fun a w => ∃ (b550 : Bool), selfA (fun u549 => ⟨((u87 0) :: dd u56 1 2 ((.int .u8 x15) :: (.int .i64 x16) :: dd u56 5 2 ((.int .u8 x32) :: (.int .i64 x33) :: dd u56 9 2 ((.int .u8 x49) :: (.int .i64 x50) :: (.bool b57) :: undef :: (u87 15) :: undef :: dd u87 17 2 (dd u376 19 2 ((.int .u8 x234) :: (.int .i64 x235) :: dd u376 23 2 ((.int .u8 x257) :: (.int .i64 x258) :: dd u376 27 2 ((.int .u8 x274) :: (.int .i64 x275) :: dd u376 31 2 ((.int .u8 x291) :: (.int .i64 x292) :: dd u376 35 2 ((.int .u8 x307) :: (.int .i64 x308) :: dd u376 39 2 ((.int .u8 x323) :: (.int .i64 x324) :: dd u376 43 2 ((.int .u8 x346) :: (.int .i64 x347) :: dd u376 47 2 ((.int .u8 x369) :: (.int .i64 x370) :: (.bool b377) :: (.bool b463) :: dd u56 53 5 ((.int .u8 x15) :: (.int .i64 x16) :: dd u56 60 5 ((.int .u8 x32) :: (.int .i64 x33) :: dd u56 67 5 ((.int .u8 x49) :: (.int .i64 x50) :: dd u56 74 21 (dd u87 95 41 (dd u376 136 5 ((.int .u8 x234) :: (.int .i64 x235) :: dd u376 143 5 ((.int .u8 x257) :: (.int .i64 x258) :: dd u376 150 5 ((.int .u8 x274) :: (.int .i64 x275) :: dd u376 157 5 ((.int .u8 x291) :: (.int .i64 x292) :: dd u376 164 4 ((.int .u8 x307) :: (.int .i64 x308) :: dd u376 170 4 ((.int .u8 x323) :: (.int .i64 x324) :: dd u376 176 5 ((.int .u8 x346) :: (.int .i64 x347) :: dd u376 183 5 ((.int .u8 x369) :: (.int .i64 x370) :: dd u376 190 48 (dd u462 238 28 (dd u549 266 3 ((.bool b550) :: un 6 ([])))))))))))))))))))))))))))))).toArray, []⟩) a ∧ b550 = c551 ∧ St [] w0 w []) rfl ?_ ?_
     ·refine gx_kA (.bool b57) w460 (gx_kA (.bool b57) w460 ?_)
      cases b57 with
      | true =>
       try dsimp only at hE552
       refine gx_kA (.bool b377) w460 (gx_kA (.bool b377) w460 ?_)
       refine gx_nil ?_
       refine gx_thenN ?_
       exact ⟨b377, selfA_i (by as_aux_lemma => kernel_rfl), (Option.some.inj hE552), hS461⟩
      | false =>
       try dsimp only at hE552
       refine gx_oA (gx_kA (.bool false) w460 ?_)
       refine gx_nil ?_
       refine gx_thenN ?_
       exact ⟨false, selfA_i (by as_aux_lemma => kernel_rfl), (Option.some.inj hE552), hS461⟩
     ·rintro _ w547 ⟨b550, hq554, rfl, hS548⟩
      obtain ⟨u549, rfl⟩ := selfA_u hq554
      try dsimp only at hO553
      refine gx_kA (.bool b550) w547 ?_
      cases b550 with
      | true =>
       try dsimp only at hO553
       refine gx_kA (.bool b463) w547 (gx_kA (.bool b463) w547 (gx_kA (.bool b463) w547 ?_))
       cases b463 with
       | true =>
        try dsimp only at hO553
        have hP555 : St _ _ w547 ([] ++ []) := hS548
        obtain ⟨b557, hc556, hO553⟩ := bind_in hO553
        try dsimp only at hO553
        refine gx_cA (kWorks_R b557 w547) (kWorks_ok N  _ hc556 w547 ) ?_
        rintro _ w558 ⟨rfl, hT560⟩
        have hS559 : St _ _ w558 [] := hS548.take _ hT560
        refine gx_kA (.bool b557) w558 (gx_kA (.bool b557) w558 ?_)
        refine gx_nil ?_
        refine gx_thenN ?_
        refine hK546 _ _ ?_
        refine gx_ret ?_
        obtain rfl := Option.some.inj hO553
        exact gx_fin (.bool b557) (by as_aux_lemma => kernel_rfl) (by as_aux_lemma => kernel_rfl) ⟨_, rfl, rfl, hS559⟩
       | false =>
        try dsimp only at hO553
        refine gx_oA (gx_kA (.bool false) w547 (gx_kA (.bool false) w547 ?_))
        refine gx_nil ?_
        refine gx_thenN ?_
        refine hK546 _ _ ?_
        refine gx_ret ?_
        obtain rfl := Option.some.inj hO553
        exact gx_fin (.bool false) (by as_aux_lemma => kernel_rfl) (by as_aux_lemma => kernel_rfl) ⟨_, rfl, rfl, hS548⟩
      | false =>
       try dsimp only at hO553
       refine gx_oA (gx_kA (.bool false) w547 (gx_kA (.bool false) w547 (gx_oA (gx_kA (.bool false) w547 (gx_kA (.bool false) w547 ?_)))))
       refine gx_nil ?_
       refine gx_thenN ?_
       refine hK546 _ _ ?_
       refine gx_ret ?_
       obtain rfl := Option.some.inj hO553
       exact gx_fin (.bool false) (by as_aux_lemma => kernel_rfl) (by as_aux_lemma => kernel_rfl) ⟨_, rfl, rfl, hS548⟩

end Go.Proofs.Ytapfdafmhiilkaa

/-
  EmbedParagraphs, walked.
-/
import Derived.Test.YtapfdafmhiilkaaF0
namespace Go.Proofs.Ytapfdafmhiilkaa
open Go Go.RowKit
set_option linter.unusedVariables false

def fParagraphs (N : Nat) (p0 : List Int) (p1 : List Int) (p2 : Int) : Option (Bool) :=
 (((if ((p0.length : Nat) : Int) > 1000 then ((kWorks N ).bind fun b16 => some (Ctl.ret b16)) else (if ((p1.length : Nat) : Int) > 1000 then ((kWorks N ).bind fun b25 => some (Ctl.ret b25)) else some (Ctl.go ()))) : Option (Ctl (Unit) (Bool))).bind fun | Ctl.go () => ((apx ([]) p0).bind fun l34 => ((apx l34 ([11])).bind fun l45 => ((apx l45 p1).bind fun l54 => ((pLevels N l54 p2).bind fun (l65, l68, x71, x72) => (if x72 ≠ 0 then ((kWorks N ).bind fun b85 => some b85) else ((pLevels N p0 x71).bind fun (l93, l96, x99, x100) => ((pLevels N p1 x71).bind fun (l108, l111, x114, x115) => ((apx l93 ([x71])).bind fun l123 => ((apx l96 ([11])).bind fun l134 => ((apx l123 l108).bind fun l143 => ((apx l134 l111).bind fun l152 => (((if x100 = 0 then (if x115 = 0 then some (true) else some (false)) else some (false)) : Option (Bool)).bind fun b164 => (((match b164 with | true => (if x99 = x71 then some (true) else some (false)) | false => some (false)) : Option (Bool)).bind fun b174 => (((match b174 with | true => (if x114 = x71 then some (true) else some (false)) | false => some (false)) : Option (Bool)).bind fun b183 => (match b183 with | true => ((kSame N l65 l68 l143 l152).bind fun b191 => (match b191 with | true => ((kWorks N ).bind fun b197 => some b197) | false => some false)) | false => some false))))))))))))))) | Ctl.ret r => some r)

set_option linter.unusedVariables false in
def fParagraphs_R (r : Bool) (w0 : World) (v : Value) (w : World) : Prop := v = .bool r ∧ St [] w0 w []

set_option maxRecDepth 100000 in
set_option maxHeartbeats 4000000 in
theorem fParagraphs_ok (N : Nat) (p0 : List Int) (p1 : List Int) (p2 : Int) (A0 : Option Addr) (c0 : Nat) (A1 : Option Addr) (c1 : Nat) (r : Bool) (hF : fParagraphs N p0 p1 p2 = some r) (w0 : World) (hv0 : Vw [] .u8 w0 A0 c0 p0) (hv1 : Vw [] .u8 w0 A1 c1 p1) :
  Calls Try.prog 7 #[.slice A0 p0.length c0, .slice A1 p1.length c1, .int .u8 p2] w0 fun e w => ∃ v, e = .returned v ∧ fParagraphs_R r w0 v w := by
 have hS0 := St.start w0
 unfold fParagraphs at hF
 refine calls_of Try.func7 rfl ⟨((.slice A0 p0.length c0) :: (.slice A1 p1.length c1) :: (.int .u8 p2) :: un 101 ([])).toArray, []⟩ (by kernel_rfl) ?_
 refine gx_seq (fun K1 hK2 => ?_)
 refine gx_region ?_
 refine gx_k (.bool false) w0 ?_
 refine gx_nil ?_
 refine gx_thenN ?_
 refine hK2 _ _ ?_
 obtain ⟨c6, hE7, hO8⟩ := bind_in hF
 refine gx_cut (fun a w => selfA (fun u5 => ⟨((.slice A0 p0.length c0) :: (.slice A1 p1.length c1) :: (.int .u8 p2) :: un 3 ((u5 6) :: un 13 (dd u5 20 9 (un 75 ([]))))).toArray, []⟩) a ∧ Ctl.go () = c6 ∧ St [] w0 w []) ?_ ?_
 ·refine gx_seq (fun K9 hK10 => ?_)
  refine gx_region ?_
  refine gx_k (.slice A0 p0.length c0) w0 (gx_k (.int .i64 ((p0.length : Nat) : Int)) w0 ?_)
  rcases if_in hE7 with ⟨h11, hE7⟩ | ⟨h11, hE7⟩
  ·refine gx_v (.bool true) w0 (run_boolE (decide_eq_true h11) (by kernel_rfl)) ?_
   refine gx_k (.bool true) w0 (gx_o (gx_o (gx_o (gx_k (.bool true) w0 ?_))))
   refine gx_nil ?_
   refine gx_thenN ?_
   refine hK10 _ _ ?_
   refine gx_yes (by kernel_rfl) ?_
   refine gx_seq (fun K12 hK13 => ?_)
   refine gx_region ?_
   have hP14 : St _ _ w0 ([] ++ []) := hS0
   obtain ⟨b16, hc15, hE7⟩ := bind_in hE7
   try dsimp only at hE7
   refine gx_c (kWorks_R b16 w0) (kWorks_ok N  _ hc15 w0 ) ?_
   rintro _ w17 ⟨rfl, hT19⟩
   have hS18 : St _ _ w17 [] := hS0.take _ hT19
   refine gx_k (.bool b16) w17 ?_
   refine gx_nil ?_
   refine gx_thenN ?_
   refine hK13 _ _ ?_
   refine gx_ret ?_
   refine gx_thenR ?_
   obtain rfl := Option.some.inj hE7
   try dsimp only at hO8
   obtain rfl := Option.some.inj hO8
   exact gx_fin (.bool b16) (by kernel_rfl) (by kernel_rfl) ⟨_, rfl, rfl, hS18⟩
  ·refine gx_v (.bool false) w0 (run_boolE (decide_eq_false h11) (by kernel_rfl)) ?_
   refine gx_k (.bool false) w0 (gx_k (.slice A1 p1.length c1) w0 (gx_k (.int .i64 ((p1.length : Nat) : Int)) w0 ?_))
   rcases if_in hE7 with ⟨h20, hE7⟩ | ⟨h20, hE7⟩
   ·refine gx_v (.bool true) w0 (run_boolE (decide_eq_true h20) (by kernel_rfl)) ?_
    refine gx_k (.bool true) w0 ?_
    refine gx_nil ?_
    refine gx_thenN ?_
    refine hK10 _ _ ?_
    refine gx_yes (by kernel_rfl) ?_
    refine gx_seq (fun K21 hK22 => ?_)
    refine gx_region ?_
    have hP23 : St _ _ w0 ([] ++ []) := hS0
    obtain ⟨b25, hc24, hE7⟩ := bind_in hE7
    try dsimp only at hE7
    refine gx_c (kWorks_R b25 w0) (kWorks_ok N  _ hc24 w0 ) ?_
    rintro _ w26 ⟨rfl, hT28⟩
    have hS27 : St _ _ w26 [] := hS0.take _ hT28
    refine gx_k (.bool b25) w26 ?_
    refine gx_nil ?_
    refine gx_thenN ?_
    refine hK22 _ _ ?_
    refine gx_ret ?_
    refine gx_thenR ?_
    obtain rfl := Option.some.inj hE7
    try dsimp only at hO8
    obtain rfl := Option.some.inj hO8
    exact gx_fin (.bool b25) (by kernel_rfl) (by kernel_rfl) ⟨_, rfl, rfl, hS27⟩
   ·refine gx_v (.bool false) w0 (run_boolE (decide_eq_false h20) (by kernel_rfl)) ?_
    refine gx_k (.bool false) w0 ?_
    refine gx_nil ?_
    refine gx_thenN ?_
    refine hK10 _ _ ?_
    refine gx_no (by kernel_rfl) ?_
    refine gx_pass ?_
    refine gx_thenN ?_
    exact ⟨selfA_i (by kernel_rfl), (Option.some.inj hE7), hS0⟩
 ·rintro _ w3 ⟨hq201, rfl, hS4⟩
  obtain ⟨u5, rfl⟩ := selfA_u hq201
  try dsimp only at hO8
  refine gx_seq (fun K29 hK30 => ?_)
  refine gx_region ?_
  refine gx_k (.slice none 0 0) w3 ?_
  refine gx_nil ?_
  refine gx_thenN ?_
  refine hK30 _ _ ?_
  refine gx_seq (fun K31 hK32 => ?_)
  refine gx_region ?_
  refine gx_k (.slice none 0 0) w3 (gx_k (.slice A0 p0.length c0) w3 ?_)
  have hS33 : St _ _ w3 [rowE .u8 26 none 0 ([])] := hS4.nilrow .u8 26
  obtain ⟨l34, ha35, hO8⟩ := bind_in hO8
  obtain ⟨ha35, hq36⟩ := apx_in ha35
  refine gx_r (st_append rfl (by kernel_rfl) (by kernel_rfl) hS33 0 rfl (hS33.view hv0) hv0.nn ha35 (by kernel_rfl) (by kernel_rfl)) ?_
  rintro _ w39 ⟨A37, c38, rfl, hS40⟩
  rw [← hq36] at hS40 ⊢
  have hS40 : St _ _ w39 [rowE .u8 26 A37 c38 l34] := hS40
  refine gx_k (.slice A37 l34.length c38) w39 ?_
  refine gx_nil ?_
  refine gx_thenN ?_
  refine hK32 _ _ ?_
  refine gx_seq (fun K41 hK42 => ?_)
  refine gx_region ?_
  refine gx_k (.slice A37 l34.length c38) w39 ?_
  refine gx_r (st_made .u8 26 [11] hS40 (by show 1 ≤ 1000000000; decide) (by kernel_rfl)) ?_
  rintro _ w43 ⟨rfl, hS44⟩
  have hS44 : St _ _ w43 [rowE .u8 26 A37 c38 l34, rowE .u8 26 (some ⟨w39.heap.size, 0, none⟩) 1 ([11])] := hS44
  obtain ⟨l45, ha46, hO8⟩ := bind_in hO8
  obtain ⟨ha46, hq47⟩ := apx_in ha46
  refine gx_r (st_append rfl (by kernel_rfl) (by kernel_rfl) hS44 0 rfl (hS44.row 1 rfl).1 (hS44.row 1 rfl).2 ha46 (by kernel_rfl) (by kernel_rfl)) ?_
  rintro _ w50 ⟨A48, c49, rfl, hS51⟩
  rw [← hq47] at hS51 ⊢
  have hS51 : St _ _ w50 [rowE .u8 26 A48 c49 l45, rowE .u8 26 (some ⟨w39.heap.size, 0, none⟩) 1 ([11])] := hS51
  refine gx_k (.slice A48 l45.length c49) w50 ?_
  refine gx_nil ?_
  refine gx_thenN ?_
  refine hK42 _ _ ?_
  refine gx_seq (fun K52 hK53 => ?_)
  refine gx_region ?_
  refine gx_k (.slice A48 l45.length c49) w50 (gx_k (.slice A1 p1.length c1) w50 ?_)
  obtain ⟨l54, ha55, hO8⟩ := bind_in hO8
  obtain ⟨ha55, hq56⟩ := apx_in ha55
  refine gx_r (st_append rfl (by kernel_rfl) (by kernel_rfl) hS51 0 rfl (hS51.view hv1) hv1.nn ha55 (by kernel_rfl) (by kernel_rfl)) ?_
  rintro _ w59 ⟨A57, c58, rfl, hS60⟩
  rw [← hq56] at hS60 ⊢
  have hS60 : St _ _ w59 [rowE .u8 26 A57 c58 l54, rowE .u8 26 (some ⟨w39.heap.size, 0, none⟩) 1 ([11])] := hS60
  refine gx_k (.slice A57 l54.length c58) w59 ?_
  refine gx_nil ?_
  refine gx_thenN ?_
  refine hK53 _ _ ?_
  refine gx_seq (fun K61 hK62 => ?_)
  refine gx_region ?_
  refine gx_k (.slice A57 l54.length c58) w59 (gx_k (.int .u8 p2) w59 ?_)
  have hP63 : St _ _ w59 ([] ++ [rowE .u8 26 A57 c58 l54, rowE .u8 26 (some ⟨w39.heap.size, 0, none⟩) 1 ([11])]) := hS60
  obtain ⟨⟨l65, l68, x71, x72⟩, hc64, hO8⟩ := bind_in hO8
  try dsimp only at hO8
  refine gx_c (pLevels_R (l65, l68, x71, x72) w59) (pLevels_ok N l54 p2 A57 c58 _ hc64 w59 (hP63.vwB 0 rfl)) ?_
  rintro _ w73 ⟨A66, c67, A69, c70, rfl, hT75⟩
  have hS74 : St _ _ w73 [rowE .u8 26 A57 c58 l54, rowE .u8 26 (some ⟨w39.heap.size, 0, none⟩) 1 ([11]), rowE .u8 5 A66 c67 l65, rowE .u8 26 A69 c70 l68] := hS60.take _ hT75
  refine gx_k (.tuple #[.slice A66 l65.length c67, .slice A69 l68.length c70, .int .u8 x71, .int .i64 x72]) w73 (gx_k (.slice A66 l65.length c67) w73 (gx_k (.slice A69 l68.length c70) w73 (gx_k (.int .u8 x71) w73 (gx_k (.int .i64 x72) w73 (gx_k (.slice A66 l65.length c67) w73 (gx_k (.slice A69 l68.length c70) w73 (gx_k (.int .u8 x71) w73 ?_)))))))
  refine gx_k (.int .i64 x72) w73 ?_
  refine gx_nil ?_
  refine gx_thenN ?_
  refine hK62 _ _ ?_
  refine gx_seq (fun K76 hK77 => ?_)
  refine gx_seq (fun K78 hK79 => ?_)
  refine gx_region ?_
  refine gx_k (.int .i64 x72) w73 ?_
  rcases if_in hO8 with ⟨h80, hO8⟩ | ⟨h80, hO8⟩
  ·refine gx_v (.bool true) w73 (run_boolE (ne_yes h80) (by kernel_rfl)) ?_
   refine gx_nil ?_
   refine gx_thenN ?_
   refine hK79 _ _ ?_
   refine gx_yes (by kernel_rfl) ?_
   refine gx_seq (fun K81 hK82 => ?_)
   refine gx_region ?_
   have hP83 : St _ _ w73 ([] ++ [rowE .u8 26 A57 c58 l54, rowE .u8 26 (some ⟨w39.heap.size, 0, none⟩) 1 ([11]), rowE .u8 5 A66 c67 l65, rowE .u8 26 A69 c70 l68]) := hS74
   obtain ⟨b85, hc84, hO8⟩ := bind_in hO8
   try dsimp only at hO8
   refine gx_c (kWorks_R b85 w73) (kWorks_ok N  _ hc84 w73 ) ?_
   rintro _ w86 ⟨rfl, hT88⟩
   have hS87 : St _ _ w86 [rowE .u8 26 A57 c58 l54, rowE .u8 26 (some ⟨w39.heap.size, 0, none⟩) 1 ([11]), rowE .u8 5 A66 c67 l65, rowE .u8 26 A69 c70 l68] := hS74.take _ hT88
   refine gx_k (.bool b85) w86 ?_
   refine gx_nil ?_
   refine gx_thenN ?_
   refine hK82 _ _ ?_
   refine gx_ret ?_
   refine gx_thenR ?_
   obtain rfl := Option.some.inj hO8
   exact gx_fin (.bool b85) (by kernel_rfl) (by kernel_rfl) ⟨_, rfl, rfl, (hS87.pick [] rfl rfl)⟩
  ·refine gx_v (.bool false) w73 (run_boolE (ne_no h80) (by kernel_rfl)) ?_
   refine gx_nil ?_
   refine gx_thenN ?_
   refine hK79 _ _ ?_
   refine gx_no (by kernel_rfl) ?_
   refine gx_pass ?_
   refine gx_thenN ?_
   refine hK77 _ _ ?_
   refine gx_seq (fun K89 hK90 => ?_)
   refine gx_region ?_
   refine gx_k (.slice A0 p0.length c0) w73 (gx_k (.int .u8 x71) w73 ?_)
   have hP91 : St _ _ w73 ([] ++ [rowE .u8 26 A57 c58 l54, rowE .u8 26 (some ⟨w39.heap.size, 0, none⟩) 1 ([11]), rowE .u8 5 A66 c67 l65, rowE .u8 26 A69 c70 l68]) := hS74
   obtain ⟨⟨l93, l96, x99, x100⟩, hc92, hO8⟩ := bind_in hO8
   try dsimp only at hO8
   refine gx_c (pLevels_R (l93, l96, x99, x100) w73) (pLevels_ok N p0 x71 A0 c0 _ hc92 w73 (hP91.vwA hv0)) ?_
   rintro _ w101 ⟨A94, c95, A97, c98, rfl, hT103⟩
   have hS102 : St _ _ w101 [rowE .u8 26 A57 c58 l54, rowE .u8 26 (some ⟨w39.heap.size, 0, none⟩) 1 ([11]), rowE .u8 5 A66 c67 l65, rowE .u8 26 A69 c70 l68, rowE .u8 5 A94 c95 l93, rowE .u8 26 A97 c98 l96] := hS74.take _ hT103
   refine gx_k (.tuple #[.slice A94 l93.length c95, .slice A97 l96.length c98, .int .u8 x99, .int .i64 x100]) w101 (gx_k (.slice A94 l93.length c95) w101 (gx_k (.slice A97 l96.length c98) w101 (gx_k (.int .u8 x99) w101 (gx_k (.int .i64 x100) w101 (gx_k (.slice A94 l93.length c95) w101 (gx_k (.slice A97 l96.length c98) w101 (gx_k (.int .u8 x99) w101 ?_)))))))
   refine gx_k (.int .i64 x100) w101 ?_
   refine gx_nil ?_
   refine gx_thenN ?_
   refine hK90 _ _ ?_
   refine gx_seq (fun K104 hK105 => ?_)
   refine gx_region ?_
   refine gx_k (.slice A1 p1.length c1) w101 (gx_k (.int .u8 x71) w101 ?_)
   have hP106 : St _ _ w101 ([] ++ [rowE .u8 26 A57 c58 l54, rowE .u8 26 (some ⟨w39.heap.size, 0, none⟩) 1 ([11]), rowE .u8 5 A66 c67 l65, rowE .u8 26 A69 c70 l68, rowE .u8 5 A94 c95 l93, rowE .u8 26 A97 c98 l96]) := hS102
   obtain ⟨⟨l108, l111, x114, x115⟩, hc107, hO8⟩ := bind_in hO8
   try dsimp only at hO8
   refine gx_c (pLevels_R (l108, l111, x114, x115) w101) (pLevels_ok N p1 x71 A1 c1 _ hc107 w101 (hP106.vwA hv1)) ?_
   rintro _ w116 ⟨A109, c110, A112, c113, rfl, hT118⟩
   have hS117 : St _ _ w116 [rowE .u8 26 A57 c58 l54, rowE .u8 26 (some ⟨w39.heap.size, 0, none⟩) 1 ([11]), rowE .u8 5 A66 c67 l65, rowE .u8 26 A69 c70 l68, rowE .u8 5 A94 c95 l93, rowE .u8 26 A97 c98 l96, rowE .u8 5 A109 c110 l108, rowE .u8 26 A112 c113 l111] := hS102.take _ hT118
   refine gx_k (.tuple #[.slice A109 l108.length c110, .slice A112 l111.length c113, .int .u8 x114, .int .i64 x115]) w116 (gx_k (.slice A109 l108.length c110) w116 (gx_k (.slice A112 l111.length c113) w116 (gx_k (.int .u8 x114) w116 (gx_k (.int .i64 x115) w116 (gx_k (.slice A109 l108.length c110) w116 (gx_k (.slice A112 l111.length c113) w116 (gx_k (.int .u8 x114) w116 ?_)))))))
   refine gx_k (.int .i64 x115) w116 ?_
   refine gx_nil ?_
   refine gx_thenN ?_
   refine hK105 _ _ ?_
   refine gx_seq (fun K119 hK120 => ?_)
   refine gx_region ?_
   refine gx_k (.slice A94 l93.length c95) w116 (gx_k (.int .u8 x71) w116 ?_)
   refine gx_r (st_made .u8 5 [x71] hS117 (by show 1 ≤ 1000000000; decide) (by kernel_rfl)) ?_
   rintro _ w121 ⟨rfl, hS122⟩
   have hS122 : St _ _ w121 [rowE .u8 26 A57 c58 l54, rowE .u8 26 (some ⟨w39.heap.size, 0, none⟩) 1 ([11]), rowE .u8 5 A66 c67 l65, rowE .u8 26 A69 c70 l68, rowE .u8 5 A94 c95 l93, rowE .u8 26 A97 c98 l96, rowE .u8 5 A109 c110 l108, rowE .u8 26 A112 c113 l111, rowE .u8 5 (some ⟨w116.heap.size, 0, none⟩) 1 ([x71])] := hS122
   obtain ⟨l123, ha124, hO8⟩ := bind_in hO8
   obtain ⟨ha124, hq125⟩ := apx_in ha124
   refine gx_r (st_append rfl (by kernel_rfl) (by kernel_rfl) hS122 4 rfl (hS122.row 8 rfl).1 (hS122.row 8 rfl).2 ha124 (by kernel_rfl) (by kernel_rfl)) ?_
   rintro _ w128 ⟨A126, c127, rfl, hS129⟩
   rw [← hq125] at hS129 ⊢
   have hS129 : St _ _ w128 [rowE .u8 26 A57 c58 l54, rowE .u8 26 (some ⟨w39.heap.size, 0, none⟩) 1 ([11]), rowE .u8 5 A66 c67 l65, rowE .u8 26 A69 c70 l68, rowE .u8 5 A126 c127 l123, rowE .u8 26 A97 c98 l96, rowE .u8 5 A109 c110 l108, rowE .u8 26 A112 c113 l111, rowE .u8 5 (some ⟨w116.heap.size, 0, none⟩) 1 ([x71])] := hS129
   refine gx_k (.slice A126 l123.length c127) w128 ?_
   refine gx_nil ?_
   refine gx_thenN ?_
   refine hK120 _ _ ?_
   refine gx_seq (fun K130 hK131 => ?_)
   refine gx_region ?_
   refine gx_k (.slice A97 l96.length c98) w128 ?_
   refine gx_r (st_made .u8 26 [11] hS129 (by show 1 ≤ 1000000000; decide) (by kernel_rfl)) ?_
   rintro _ w132 ⟨rfl, hS133⟩
   have hS133 : St _ _ w132 [rowE .u8 26 A57 c58 l54, rowE .u8 26 (some ⟨w39.heap.size, 0, none⟩) 1 ([11]), rowE .u8 5 A66 c67 l65, rowE .u8 26 A69 c70 l68, rowE .u8 5 A126 c127 l123, rowE .u8 26 A97 c98 l96, rowE .u8 5 A109 c110 l108, rowE .u8 26 A112 c113 l111, rowE .u8 5 (some ⟨w116.heap.size, 0, none⟩) 1 ([x71]), rowE .u8 26 (some ⟨w128.heap.size, 0, none⟩) 1 ([11])] := hS133
   obtain ⟨l134, ha135, hO8⟩ := bind_in hO8
   obtain ⟨ha135, hq136⟩ := apx_in ha135
   refine gx_r (st_append rfl (by kernel_rfl) (by kernel_rfl) hS133 5 rfl (hS133.row 9 rfl).1 (hS133.row 9 rfl).2 ha135 (by kernel_rfl) (by kernel_rfl)) ?_
   rintro _ w139 ⟨A137, c138, rfl, hS140⟩
   rw [← hq136] at hS140 ⊢
   have hS140 : St _ _ w139 [rowE .u8 26 A57 c58 l54, rowE .u8 26 (some ⟨w39.heap.size, 0, none⟩) 1 ([11]), rowE .u8 5 A66 c67 l65, rowE .u8 26 A69 c70 l68, rowE .u8 5 A126 c127 l123, rowE .u8 26 A137 c138 l134, rowE .u8 5 A109 c110 l108, rowE .u8 26 A112 c113 l111, rowE .u8 5 (some ⟨w116.heap.size, 0, none⟩) 1 ([x71]), rowE .u8 26 (some ⟨w128.heap.size, 0, none⟩) 1 ([11])] := hS140
   refine gx_k (.slice A137 l134.length c138) w139 ?_
   refine gx_nil ?_
   refine gx_thenN ?_
   refine hK131 _ _ ?_
   refine gx_seq (fun K141 hK142 => ?_)
   refine gx_region ?_
   refine gx_k (.slice A126 l123.length c127) w139 (gx_k (.slice A109 l108.length c110) w139 ?_)
   obtain ⟨l143, ha144, hO8⟩ := bind_in hO8
   obtain ⟨ha144, hq145⟩ := apx_in ha144
   refine gx_r (st_append rfl (by kernel_rfl) (by kernel_rfl) hS140 4 rfl (hS140.row 6 rfl).1 (hS140.row 6 rfl).2 ha144 (by kernel_rfl) (by kernel_rfl)) ?_
   rintro _ w148 ⟨A146, c147, rfl, hS149⟩
   rw [← hq145] at hS149 ⊢
   have hS149 : St _ _ w148 [rowE .u8 26 A57 c58 l54, rowE .u8 26 (some ⟨w39.heap.size, 0, none⟩) 1 ([11]), rowE .u8 5 A66 c67 l65, rowE .u8 26 A69 c70 l68, rowE .u8 5 A146 c147 l143, rowE .u8 26 A137 c138 l134, rowE .u8 5 A109 c110 l108, rowE .u8 26 A112 c113 l111, rowE .u8 5 (some ⟨w116.heap.size, 0, none⟩) 1 ([x71]), rowE .u8 26 (some ⟨w128.heap.size, 0, none⟩) 1 ([11])] := hS149
   refine gx_k (.slice A146 l143.length c147) w148 ?_
   refine gx_nil ?_
   refine gx_thenN ?_
   refine hK142 _ _ ?_
   refine gx_seq (fun K150 hK151 => ?_)
   refine gx_region ?_
   refine gx_k (.slice A137 l134.length c138) w148 (gx_k (.slice A112 l111.length c113) w148 ?_)
   obtain ⟨l152, ha153, hO8⟩ := bind_in hO8
   obtain ⟨ha153, hq154⟩ := apx_in ha153
   refine gx_r (st_append rfl (by kernel_rfl) (by kernel_rfl) hS149 5 rfl (hS149.row 7 rfl).1 (hS149.row 7 rfl).2 ha153 (by kernel_rfl) (by kernel_rfl)) ?_
   rintro _ w157 ⟨A155, c156, rfl, hS158⟩
   rw [← hq154] at hS158 ⊢
   have hS158 : St _ _ w157 [rowE .u8 26 A57 c58 l54, rowE .u8 26 (some ⟨w39.heap.size, 0, none⟩) 1 ([11]), rowE .u8 5 A66 c67 l65, rowE .u8 26 A69 c70 l68, rowE .u8 5 A146 c147 l143, rowE .u8 26 A155 c156 l152, rowE .u8 5 A109 c110 l108, rowE .u8 26 A112 c113 l111, rowE .u8 5 (some ⟨w116.heap.size, 0, none⟩) 1 ([x71]), rowE .u8 26 (some ⟨w128.heap.size, 0, none⟩) 1 ([11])] := hS158
   refine gx_k (.slice A155 l152.length c156) w157 ?_
   refine gx_nil ?_
   refine gx_thenN ?_
   refine hK151 _ _ ?_
   refine gx_seq (fun K159 hK160 => ?_)
   refine gx_region ?_
   refine gx_k (.int .i64 x100) w157 ?_
   obtain ⟨c165, hE166, hO167⟩ := bind_in hO8
   refine gx_part (l1 := [_, _, _, _, _]) (fun a w => ∃ (b164 : Bool), selfA (fun u163 => ⟨(dd u163 0 2 ((.int .u8 p2) :: un 3 ((u5 6) :: (u163 7) :: (.slice A66 l65.length c67) :: (.slice A69 l68.length c70) :: (.int .u8 x71) :: (.int .i64 x72) :: (.slice A146 l143.length c147) :: (.slice A155 l152.length c156) :: (.int .u8 x99) :: (.int .i64 x100) :: dd u163 16 2 ((.int .u8 x114) :: (.int .i64 x115) :: dd u5 20 9 ((.slice none 0 0) :: dd u163 30 10 ((.int .u8 p2) :: dd u163 41 3 ((.int .u8 x71) :: (.int .i64 x72) :: (.int .i64 x72) :: (.bool false) :: undef :: dd u163 49 2 ((.int .u8 x71) :: dd u163 52 3 ((.int .u8 x99) :: (.int .i64 x100) :: dd u163 57 2 ((.int .u8 x71) :: dd u163 60 3 ((.int .u8 x114) :: (.int .i64 x115) :: (u163 65) :: (.int .u8 x71) :: dd u163 67 11 ((.int .i64 x100) :: dd u163 79 4 ((.bool b164) :: un 20 ([])))))))))))))).toArray, []⟩) a ∧ b164 = c165 ∧ St [] w0 w [rowE .u8 5 A66 c67 l65, rowE .u8 26 A69 c70 l68, rowE .u8 5 A146 c147 l143, rowE .u8 26 A155 c156 l152]) rfl ?_ ?_
   ·rcases if_in hE166 with ⟨h169, hE166⟩ | ⟨h169, hE166⟩
    ·refine gx_v (.bool true) w157 (run_boolE (decide_eq_true h169) (by kernel_rfl)) ?_
     refine gx_k (.bool true) w157 (gx_k (.int .i64 x115) w157 ?_)
     rcases if_in hE166 with ⟨h170, hE166⟩ | ⟨h170, hE166⟩
     ·refine gx_v (.bool true) w157 (run_boolE (decide_eq_true h170) (by kernel_rfl)) ?_
      refine gx_k (.bool true) w157 ?_
      refine gx_nil ?_
      refine gx_thenN ?_
      exact ⟨true, selfA_i (by kernel_rfl), (Option.some.inj hE166), (hS158.pick [2, 3, 4, 5] rfl rfl)⟩
     ·refine gx_v (.bool false) w157 (run_boolE (decide_eq_false h170) (by kernel_rfl)) ?_
      refine gx_k (.bool false) w157 ?_
      refine gx_nil ?_
      refine gx_thenN ?_
      exact ⟨false, selfA_i (by kernel_rfl), (Option.some.inj hE166), (hS158.pick [2, 3, 4, 5] rfl rfl)⟩
    ·refine gx_v (.bool false) w157 (run_boolE (decide_eq_false h169) (by kernel_rfl)) ?_
     refine gx_k (.bool false) w157 (gx_o (gx_o (gx_k (.bool false) w157 ?_)))
     refine gx_nil ?_
     refine gx_thenN ?_
     exact ⟨false, selfA_i (by kernel_rfl), (Option.some.inj hE166), (hS158.pick [2, 3, 4, 5] rfl rfl)⟩
   ·rintro _ w161 ⟨b164, hq168, rfl, hS162⟩
    obtain ⟨u163, rfl⟩ := selfA_u hq168
    try dsimp only at hO167
    obtain ⟨c175, hE176, hO177⟩ := bind_in hO167
    refine gx_part (l1 := [_, _, _, _, _]) (fun a w => ∃ (b174 : Bool), selfA (fun u173 => ⟨(dd u163 0 2 ((.int .u8 p2) :: un 3 ((u5 6) :: (u163 7) :: (.slice A66 l65.length c67) :: (.slice A69 l68.length c70) :: (.int .u8 x71) :: (.int .i64 x72) :: (.slice A146 l143.length c147) :: (.slice A155 l152.length c156) :: (.int .u8 x99) :: (.int .i64 x100) :: dd u163 16 2 ((.int .u8 x114) :: (.int .i64 x115) :: dd u5 20 9 ((.slice none 0 0) :: dd u163 30 10 ((.int .u8 p2) :: dd u163 41 3 ((.int .u8 x71) :: (.int .i64 x72) :: (.int .i64 x72) :: (.bool false) :: undef :: dd u163 49 2 ((.int .u8 x71) :: dd u163 52 3 ((.int .u8 x99) :: (.int .i64 x100) :: dd u163 57 2 ((.int .u8 x71) :: dd u163 60 3 ((.int .u8 x114) :: (.int .i64 x115) :: (u163 65) :: (.int .u8 x71) :: dd u163 67 11 ((.int .i64 x100) :: dd u163 79 4 ((.bool b164) :: dd u173 84 4 ((.bool b174) :: un 15 ([]))))))))))))))).toArray, []⟩) a ∧ b174 = c175 ∧ St [] w0 w [rowE .u8 5 A66 c67 l65, rowE .u8 26 A69 c70 l68, rowE .u8 5 A146 c147 l143, rowE .u8 26 A155 c156 l152]) rfl ?_ ?_
    ·refine gx_k (.bool b164) w161 ?_
     cases b164 with
     | true =>
      try dsimp only at hE176
      refine gx_k (.int .u8 x99) w161 (gx_k (.int .u8 x71) w161 ?_)
      rcases if_in hE176 with ⟨h179, hE176⟩ | ⟨h179, hE176⟩
      ·refine gx_v (.bool true) w161 (run_boolE (decide_eq_true h179) (by kernel_rfl)) ?_
       refine gx_k (.bool true) w161 ?_
       refine gx_nil ?_
       refine gx_thenN ?_
       exact ⟨true, selfA_i (by kernel_rfl), (Option.some.inj hE176), hS162⟩
      ·refine gx_v (.bool false) w161 (run_boolE (decide_eq_false h179) (by kernel_rfl)) ?_
       refine gx_k (.bool false) w161 ?_
       refine gx_nil ?_
       refine gx_thenN ?_
       exact ⟨false, selfA_i (by kernel_rfl), (Option.some.inj hE176), hS162⟩
     | false =>
      try dsimp only at hE176
      refine gx_o (gx_o (gx_o (gx_k (.bool false) w161 ?_)))
      refine gx_nil ?_
      refine gx_thenN ?_
      exact ⟨false, selfA_i (by kernel_rfl), (Option.some.inj hE176), hS162⟩
    ·rintro _ w171 ⟨b174, hq178, rfl, hS172⟩
     obtain ⟨u173, rfl⟩ := selfA_u hq178
     try dsimp only at hO177
     obtain ⟨c184, hE185, hO186⟩ := bind_in hO177
     refine gx_part (l1 := [_, _, _, _, _]) (fun a w => ∃ (b183 : Bool), selfA (fun u182 => ⟨(dd u163 0 2 ((.int .u8 p2) :: un 3 ((u5 6) :: (u163 7) :: (.slice A66 l65.length c67) :: (.slice A69 l68.length c70) :: (.int .u8 x71) :: (.int .i64 x72) :: (.slice A146 l143.length c147) :: (.slice A155 l152.length c156) :: (.int .u8 x99) :: (.int .i64 x100) :: dd u163 16 2 ((.int .u8 x114) :: (.int .i64 x115) :: dd u5 20 9 ((.slice none 0 0) :: dd u163 30 10 ((.int .u8 p2) :: dd u163 41 3 ((.int .u8 x71) :: (.int .i64 x72) :: (.int .i64 x72) :: (.bool false) :: undef :: dd u163 49 2 ((.int .u8 x71) :: dd u163 52 3 ((.int .u8 x99) :: (.int .i64 x100) :: dd u163 57 2 ((.int .u8 x71) :: dd u163 60 3 ((.int .u8 x114) :: (.int .i64 x115) :: (u163 65) :: (.int .u8 x71) :: dd u163 67 11 ((.int .i64 x100) :: dd u163 79 4 ((.bool b164) :: dd u173 84 4 ((.bool b174) :: dd u182 89 4 ((.bool b183) :: un 10 ([])))))))))))))))).toArray, []⟩) a ∧ b183 = c184 ∧ St [] w0 w [rowE .u8 5 A66 c67 l65, rowE .u8 26 A69 c70 l68, rowE .u8 5 A146 c147 l143, rowE .u8 26 A155 c156 l152]) rfl ?_ ?_
     ·refine gx_k (.bool b174) w171 ?_
      cases b174 with
      | true =>
       try dsimp only at hE185
       refine gx_k (.int .u8 x114) w171 (gx_k (.int .u8 x71) w171 ?_)
       rcases if_in hE185 with ⟨h188, hE185⟩ | ⟨h188, hE185⟩
       ·refine gx_v (.bool true) w171 (run_boolE (decide_eq_true h188) (by kernel_rfl)) ?_
        refine gx_k (.bool true) w171 ?_
        refine gx_nil ?_
        refine gx_thenN ?_
        exact ⟨true, selfA_i (by kernel_rfl), (Option.some.inj hE185), hS172⟩
       ·refine gx_v (.bool false) w171 (run_boolE (decide_eq_false h188) (by kernel_rfl)) ?_
        refine gx_k (.bool false) w171 ?_
        refine gx_nil ?_
        refine gx_thenN ?_
        exact ⟨false, selfA_i (by kernel_rfl), (Option.some.inj hE185), hS172⟩
      | false =>
       try dsimp only at hE185
       refine gx_o (gx_o (gx_o (gx_k (.bool false) w171 ?_)))
       refine gx_nil ?_
       refine gx_thenN ?_
       exact ⟨false, selfA_i (by kernel_rfl), (Option.some.inj hE185), hS172⟩
     ·rintro _ w180 ⟨b183, hq187, rfl, hS181⟩
      obtain ⟨u182, rfl⟩ := selfA_u hq187
      try dsimp only at hO186
      refine gx_k (.bool b183) w180 ?_
      cases b183 with
      | true =>
       try dsimp only at hO186
       refine gx_k (.slice A66 l65.length c67) w180 (gx_k (.slice A69 l68.length c70) w180 (gx_k (.slice A146 l143.length c147) w180 (gx_k (.slice A155 l152.length c156) w180 ?_)))
       have hP189 : St _ _ w180 ([] ++ [rowE .u8 5 A66 c67 l65, rowE .u8 26 A69 c70 l68, rowE .u8 5 A146 c147 l143, rowE .u8 26 A155 c156 l152]) := hS181
       obtain ⟨b191, hc190, hO186⟩ := bind_in hO186
       try dsimp only at hO186
       refine gx_c (kSame_R b191 w180) (kSame_ok N l65 l68 l143 l152 A66 c67 A69 c70 A146 c147 A155 c156 _ hc190 w180 (hP189.vwB 0 rfl) (hP189.vwB 1 rfl) (hP189.vwB 2 rfl) (hP189.vwB 3 rfl)) ?_
       rintro _ w192 ⟨rfl, hT194⟩
       have hS193 : St _ _ w192 [rowE .u8 5 A66 c67 l65, rowE .u8 26 A69 c70 l68, rowE .u8 5 A146 c147 l143, rowE .u8 26 A155 c156 l152] := hS181.take _ hT194
       refine gx_k (.bool b191) w192 (gx_k (.bool b191) w192 ?_)
       cases b191 with
       | true =>
        try dsimp only at hO186
        have hP195 : St _ _ w192 ([] ++ [rowE .u8 5 A66 c67 l65, rowE .u8 26 A69 c70 l68, rowE .u8 5 A146 c147 l143, rowE .u8 26 A155 c156 l152]) := hS193
        obtain ⟨b197, hc196, hO186⟩ := bind_in hO186
        try dsimp only at hO186
        refine gx_c (kWorks_R b197 w192) (kWorks_ok N  _ hc196 w192 ) ?_
        rintro _ w198 ⟨rfl, hT200⟩
        have hS199 : St _ _ w198 [rowE .u8 5 A66 c67 l65, rowE .u8 26 A69 c70 l68, rowE .u8 5 A146 c147 l143, rowE .u8 26 A155 c156 l152] := hS193.take _ hT200
        refine gx_k (.bool b197) w198 (gx_k (.bool b197) w198 ?_)
        refine gx_nil ?_
        refine gx_thenN ?_
        refine hK160 _ _ ?_
        refine gx_ret ?_
        obtain rfl := Option.some.inj hO186
        exact gx_fin (.bool b197) (by kernel_rfl) (by kernel_rfl) ⟨_, rfl, rfl, (hS199.pick [] rfl rfl)⟩
       | false =>
        try dsimp only at hO186
        refine gx_o (gx_k (.bool false) w192 (gx_k (.bool false) w192 ?_))
        refine gx_nil ?_
        refine gx_thenN ?_
        refine hK160 _ _ ?_
        refine gx_ret ?_
        obtain rfl := Option.some.inj hO186
        exact gx_fin (.bool false) (by kernel_rfl) (by kernel_rfl) ⟨_, rfl, rfl, (hS193.pick [] rfl rfl)⟩
      | false =>
       try dsimp only at hO186
       refine gx_o (gx_o (gx_o (gx_o (gx_o (gx_k (.bool false) w180 (gx_k (.bool false) w180 (gx_o ?_)))))))
       refine gx_k (.bool false) w180 (gx_k (.bool false) w180 ?_)
       refine gx_nil ?_
       refine gx_thenN ?_
       refine hK160 _ _ ?_
       refine gx_ret ?_
       obtain rfl := Option.some.inj hO186
       exact gx_fin (.bool false) (by kernel_rfl) (by kernel_rfl) ⟨_, rfl, rfl, (hS181.pick [] rfl rfl)⟩

end Go.Proofs.Ytapfdafmhiilkaa

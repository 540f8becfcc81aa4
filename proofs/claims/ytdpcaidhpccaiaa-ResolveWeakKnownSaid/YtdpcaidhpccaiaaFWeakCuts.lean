/-
  ResolveWeakCuts, walked.
-/
import Derived.Test.YtdpcaidhpccaiaaF0
namespace Go.Proofs.Ytdpcaidhpccaiaa
open Go Go.RowKit
set_option linter.unusedVariables false

def fWeakCuts (N : Nat) (p0 : List Int) (p1 : List Int) (p2 : Int) (p3 : Bool) : Option (Bool) :=
 (((if ((p0.length : Nat) : Int) > 1500 then ((kArabic N ).bind fun b16 => some (Ctl.ret b16)) else (if ((p1.length : Nat) : Int) > 1500 then ((kArabic N ).bind fun b25 => some (Ctl.ret b25)) else some (Ctl.go ()))) : Option (Ctl (Unit) (Bool))).bind fun | Ctl.go () => (((match p3 with | true => some (2) | false => some (1)) : Option (Int)).bind fun x34 => ((kOwn N p0).bind fun l44 => ((apx l44 ([x34])).bind fun l54 => ((pWeak N p0 p2).bind fun l65 => ((kOwn N l65).bind fun l73 => ((apx l73 ([x34])).bind fun l83 => ((apx l54 p1).bind fun l92 => ((pWeak N p1 x34).bind fun l103 => ((apx l83 l103).bind fun l109 => ((pWeak N l92 p2).bind fun l120 => ((kIs N l120 l109).bind fun b128 => (match b128 with | true => ((kArabic N ).bind fun b134 => some b134) | false => some false)))))))))))) | Ctl.ret r => some r)

set_option linter.unusedVariables false in
def fWeakCuts_R (r : Bool) (w0 : World) (v : Value) (w : World) : Prop := v = .bool r ∧ St [] w0 w []

set_option maxRecDepth 100000 in
set_option maxHeartbeats 4000000 in
theorem fWeakCuts_ok (N : Nat) (p0 : List Int) (p1 : List Int) (p2 : Int) (p3 : Bool) (A0 : Option Addr) (c0 : Nat) (A1 : Option Addr) (c1 : Nat) (r : Bool) (hF : fWeakCuts N p0 p1 p2 p3 = some r) (w0 : World) (hv0 : Vw [] .u8 w0 A0 c0 p0) (hv1 : Vw [] .u8 w0 A1 c1 p1) :
  Calls Try.prog 6 #[.slice A0 p0.length c0, .slice A1 p1.length c1, .int .u8 p2, .bool p3] w0 fun e w => ∃ v, e = .returned v ∧ fWeakCuts_R r w0 v w := by
 have hS0 := St.start w0
 unfold fWeakCuts at hF
 refine calls_of Try.func6 rfl ⟨((.slice A0 p0.length c0) :: (.slice A1 p1.length c1) :: (.int .u8 p2) :: (.bool p3) :: un 48 ([])).toArray, []⟩ (by kernel_rfl) ?_
 refine gx_seq (fun K1 hK2 => ?_)
 refine gx_region ?_
 refine gx_k (.bool false) w0 ?_
 refine gx_nil ?_
 refine gx_thenN ?_
 refine hK2 _ _ ?_
 obtain ⟨c6, hE7, hO8⟩ := bind_in hF
 refine gx_cut (fun a w => selfA (fun u5 => ⟨((.slice A0 p0.length c0) :: (.slice A1 p1.length c1) :: (.int .u8 p2) :: (.bool p3) :: un 4 ((u5 8) :: un 3 (dd u5 12 9 (un 31 ([]))))).toArray, []⟩) a ∧ Ctl.go () = c6 ∧ St [] w0 w []) ?_ ?_
 ·refine gx_seq (fun K9 hK10 => ?_)
  refine gx_region ?_
  refine gx_k (.slice A0 p0.length c0) w0 (gx_k (.int .i64 ((p0.length : Nat) : Int)) w0 ?_)
  rcases if_in hE7 with ⟨h11, hE7⟩ | ⟨h11, hE7⟩
  ·refine gx_v (.bool true) w0 (run_boolE (decide_eq_true h11) (by kernel_rfl)) ?_
   refine gx_k (.bool true) w0 (gx_o (gx_o (gx_o (gx_k (.bool true) w0 ?_))))
   refine gx_nil ?_
   refine gx_thenN ?_
   refine hK10 _ _ ?_
   refine gx_yes (by kernel_rfl) ?_
   refine gx_seq (fun K12 hK13 => ?_)
   refine gx_region ?_
   have hP14 : St _ _ w0 ([] ++ []) := hS0
   obtain ⟨b16, hc15, hE7⟩ := bind_in hE7
   try dsimp only at hE7
   refine gx_c (kArabic_R b16 w0) (kArabic_ok N  _ hc15 w0 ) ?_
   rintro _ w17 ⟨rfl, hT19⟩
   have hS18 : St _ _ w17 [] := hS0.take _ hT19
   refine gx_k (.bool b16) w17 ?_
   refine gx_nil ?_
   refine gx_thenN ?_
   refine hK13 _ _ ?_
   refine gx_ret ?_
   refine gx_thenR ?_
   obtain rfl := Option.some.inj hE7
   try dsimp only at hO8
   obtain rfl := Option.some.inj hO8
   exact gx_fin (.bool b16) (by kernel_rfl) (by kernel_rfl) ⟨_, rfl, rfl, hS18⟩
  ·refine gx_v (.bool false) w0 (run_boolE (decide_eq_false h11) (by kernel_rfl)) ?_
   refine gx_k (.bool false) w0 (gx_k (.slice A1 p1.length c1) w0 (gx_k (.int .i64 ((p1.length : Nat) : Int)) w0 ?_))
   rcases if_in hE7 with ⟨h20, hE7⟩ | ⟨h20, hE7⟩
   ·refine gx_v (.bool true) w0 (run_boolE (decide_eq_true h20) (by kernel_rfl)) ?_
    refine gx_k (.bool true) w0 ?_
    refine gx_nil ?_
    refine gx_thenN ?_
    refine hK10 _ _ ?_
    refine gx_yes (by kernel_rfl) ?_
    refine gx_seq (fun K21 hK22 => ?_)
    refine gx_region ?_
    have hP23 : St _ _ w0 ([] ++ []) := hS0
    obtain ⟨b25, hc24, hE7⟩ := bind_in hE7
    try dsimp only at hE7
    refine gx_c (kArabic_R b25 w0) (kArabic_ok N  _ hc24 w0 ) ?_
    rintro _ w26 ⟨rfl, hT28⟩
    have hS27 : St _ _ w26 [] := hS0.take _ hT28
    refine gx_k (.bool b25) w26 ?_
    refine gx_nil ?_
    refine gx_thenN ?_
    refine hK22 _ _ ?_
    refine gx_ret ?_
    refine gx_thenR ?_
    obtain rfl := Option.some.inj hE7
    try dsimp only at hO8
    obtain rfl := Option.some.inj hO8
    exact gx_fin (.bool b25) (by kernel_rfl) (by kernel_rfl) ⟨_, rfl, rfl, hS27⟩
   ·refine gx_v (.bool false) w0 (run_boolE (decide_eq_false h20) (by kernel_rfl)) ?_
    refine gx_k (.bool false) w0 ?_
    refine gx_nil ?_
    refine gx_thenN ?_
    refine hK10 _ _ ?_
    refine gx_no (by kernel_rfl) ?_
    refine gx_pass ?_
    refine gx_thenN ?_
    exact ⟨selfA_i (by kernel_rfl), (Option.some.inj hE7), hS0⟩
 ·rintro _ w3 ⟨hq139, rfl, hS4⟩
  obtain ⟨u5, rfl⟩ := selfA_u hq139
  try dsimp only at hO8
  refine gx_seq (fun K29 hK30 => ?_)
  refine gx_region ?_
  refine gx_k (.int .u8 1) w3 ?_
  refine gx_nil ?_
  refine gx_thenN ?_
  refine hK30 _ _ ?_
  obtain ⟨c35, hE36, hO37⟩ := bind_in hO8
  refine gx_cut (fun a w => ∃ (x34 : Int), selfA (fun u33 => ⟨((.slice A0 p0.length c0) :: (.slice A1 p1.length c1) :: (.int .u8 p2) :: (.bool p3) :: un 4 ((u5 8) :: (.int .u8 x34) :: undef :: undef :: dd u5 12 9 ((u33 21) :: un 30 ([])))).toArray, []⟩) a ∧ x34 = c35 ∧ St [] w0 w []) ?_ ?_
  ·refine gx_seq (fun K38 hK39 => ?_)
   refine gx_region ?_
   refine gx_k (.bool p3) w3 ?_
   refine gx_nil ?_
   refine gx_thenN ?_
   refine hK39 _ _ ?_
   cases p3 with
   | true =>
    try dsimp only at hE36
    refine gx_yes (by kernel_rfl) ?_
    refine gx_region ?_
    refine gx_k (.int .u8 2) w3 ?_
    refine gx_nil ?_
    refine gx_thenN ?_
    exact ⟨2, selfA_i (by kernel_rfl), (Option.some.inj hE36), hS4⟩
   | false =>
    try dsimp only at hE36
    refine gx_no (by kernel_rfl) ?_
    refine gx_pass ?_
    refine gx_thenN ?_
    exact ⟨1, selfA_i (by kernel_rfl), (Option.some.inj hE36), hS4⟩
  ·rintro _ w31 ⟨x34, hq138, rfl, hS32⟩
   obtain ⟨u33, rfl⟩ := selfA_u hq138
   try dsimp only at hO37
   refine gx_seq (fun K40 hK41 => ?_)
   refine gx_region ?_
   refine gx_k (.slice A0 p0.length c0) w31 ?_
   have hP42 : St _ _ w31 ([] ++ []) := hS32
   obtain ⟨l44, hc43, hO37⟩ := bind_in hO37
   try dsimp only at hO37
   refine gx_c (kOwn_R l44 w31) (kOwn_ok N p0 A0 c0 _ hc43 w31 (hP42.vwA hv0)) ?_
   rintro _ w47 ⟨A45, c46, rfl, hT49⟩
   have hS48 : St _ _ w47 [rowE .u8 23 A45 c46 l44] := hS32.take _ hT49
   refine gx_k (.slice A45 l44.length c46) w47 ?_
   refine gx_nil ?_
   refine gx_thenN ?_
   refine hK41 _ _ ?_
   refine gx_seq (fun K50 hK51 => ?_)
   refine gx_region ?_
   refine gx_k (.slice A45 l44.length c46) w47 (gx_k (.int .u8 x34) w47 ?_)
   refine gx_r (st_made .u8 23 [x34] hS48 (by show 1 ≤ 1000000000; decide) (by kernel_rfl)) ?_
   rintro _ w52 ⟨rfl, hS53⟩
   have hS53 : St _ _ w52 [rowE .u8 23 A45 c46 l44, rowE .u8 23 (some ⟨w47.heap.size, 0, none⟩) 1 ([x34])] := hS53
   obtain ⟨l54, ha55, hO37⟩ := bind_in hO37
   obtain ⟨ha55, hq56⟩ := apx_in ha55
   refine gx_r (st_append rfl (by kernel_rfl) (by kernel_rfl) hS53 0 rfl (hS53.row 1 rfl).1 (hS53.row 1 rfl).2 ha55 (by kernel_rfl) (by kernel_rfl)) ?_
   rintro _ w59 ⟨A57, c58, rfl, hS60⟩
   rw [← hq56] at hS60 ⊢
   have hS60 : St _ _ w59 [rowE .u8 23 A57 c58 l54, rowE .u8 23 (some ⟨w47.heap.size, 0, none⟩) 1 ([x34])] := hS60
   refine gx_k (.slice A57 l54.length c58) w59 ?_
   refine gx_nil ?_
   refine gx_thenN ?_
   refine hK51 _ _ ?_
   refine gx_seq (fun K61 hK62 => ?_)
   refine gx_region ?_
   refine gx_k (.slice A0 p0.length c0) w59 (gx_k (.int .u8 p2) w59 ?_)
   have hP63 : St _ _ w59 ([] ++ [rowE .u8 23 A57 c58 l54, rowE .u8 23 (some ⟨w47.heap.size, 0, none⟩) 1 ([x34])]) := hS60
   obtain ⟨l65, hc64, hO37⟩ := bind_in hO37
   try dsimp only at hO37
   refine gx_c (pWeak_R l65 w59) (pWeak_ok N p0 p2 A0 c0 _ hc64 w59 (hP63.vwA hv0)) ?_
   rintro _ w68 ⟨A66, c67, rfl, hT70⟩
   have hS69 : St _ _ w68 [rowE .u8 23 A57 c58 l54, rowE .u8 23 (some ⟨w47.heap.size, 0, none⟩) 1 ([x34]), rowE .u8 23 A66 c67 l65] := hS60.take _ hT70
   have hP71 : St _ _ w68 ([] ++ [rowE .u8 23 A57 c58 l54, rowE .u8 23 (some ⟨w47.heap.size, 0, none⟩) 1 ([x34]), rowE .u8 23 A66 c67 l65]) := hS69
   obtain ⟨l73, hc72, hO37⟩ := bind_in hO37
   try dsimp only at hO37
   refine gx_c (kOwn_R l73 w68) (kOwn_ok N l65 A66 c67 _ hc72 w68 (hP71.vwB 2 rfl)) ?_
   rintro _ w76 ⟨A74, c75, rfl, hT78⟩
   have hS77 : St _ _ w76 [rowE .u8 23 A57 c58 l54, rowE .u8 23 (some ⟨w47.heap.size, 0, none⟩) 1 ([x34]), rowE .u8 23 A66 c67 l65, rowE .u8 23 A74 c75 l73] := hS69.take _ hT78
   refine gx_k (.slice A74 l73.length c75) w76 ?_
   refine gx_nil ?_
   refine gx_thenN ?_
   refine hK62 _ _ ?_
   refine gx_seq (fun K79 hK80 => ?_)
   refine gx_region ?_
   refine gx_k (.slice A74 l73.length c75) w76 (gx_k (.int .u8 x34) w76 ?_)
   refine gx_r (st_made .u8 23 [x34] hS77 (by show 1 ≤ 1000000000; decide) (by kernel_rfl)) ?_
   rintro _ w81 ⟨rfl, hS82⟩
   have hS82 : St _ _ w81 [rowE .u8 23 A57 c58 l54, rowE .u8 23 (some ⟨w47.heap.size, 0, none⟩) 1 ([x34]), rowE .u8 23 A66 c67 l65, rowE .u8 23 A74 c75 l73, rowE .u8 23 (some ⟨w76.heap.size, 0, none⟩) 1 ([x34])] := hS82
   obtain ⟨l83, ha84, hO37⟩ := bind_in hO37
   obtain ⟨ha84, hq85⟩ := apx_in ha84
   refine gx_r (st_append rfl (by kernel_rfl) (by kernel_rfl) hS82 3 rfl (hS82.row 4 rfl).1 (hS82.row 4 rfl).2 ha84 (by kernel_rfl) (by kernel_rfl)) ?_
   rintro _ w88 ⟨A86, c87, rfl, hS89⟩
   rw [← hq85] at hS89 ⊢
   have hS89 : St _ _ w88 [rowE .u8 23 A57 c58 l54, rowE .u8 23 (some ⟨w47.heap.size, 0, none⟩) 1 ([x34]), rowE .u8 23 A66 c67 l65, rowE .u8 23 A86 c87 l83, rowE .u8 23 (some ⟨w76.heap.size, 0, none⟩) 1 ([x34])] := hS89
   refine gx_k (.slice A86 l83.length c87) w88 ?_
   refine gx_nil ?_
   refine gx_thenN ?_
   refine hK80 _ _ ?_
   refine gx_seq (fun K90 hK91 => ?_)
   refine gx_region ?_
   refine gx_k (.slice A57 l54.length c58) w88 (gx_k (.slice A1 p1.length c1) w88 ?_)
   obtain ⟨l92, ha93, hO37⟩ := bind_in hO37
   obtain ⟨ha93, hq94⟩ := apx_in ha93
   refine gx_r (st_append rfl (by kernel_rfl) (by kernel_rfl) hS89 0 rfl (hS89.view hv1) hv1.nn ha93 (by kernel_rfl) (by kernel_rfl)) ?_
   rintro _ w97 ⟨A95, c96, rfl, hS98⟩
   rw [← hq94] at hS98 ⊢
   have hS98 : St _ _ w97 [rowE .u8 23 A95 c96 l92, rowE .u8 23 (some ⟨w47.heap.size, 0, none⟩) 1 ([x34]), rowE .u8 23 A66 c67 l65, rowE .u8 23 A86 c87 l83, rowE .u8 23 (some ⟨w76.heap.size, 0, none⟩) 1 ([x34])] := hS98
   refine gx_k (.slice A95 l92.length c96) w97 ?_
   refine gx_nil ?_
   refine gx_thenN ?_
   refine hK91 _ _ ?_
   refine gx_seq (fun K99 hK100 => ?_)
   refine gx_region ?_
   refine gx_k (.slice A86 l83.length c87) w97 (gx_k (.slice A1 p1.length c1) w97 (gx_k (.int .u8 x34) w97 ?_))
   have hP101 : St _ _ w97 ([] ++ [rowE .u8 23 A95 c96 l92, rowE .u8 23 (some ⟨w47.heap.size, 0, none⟩) 1 ([x34]), rowE .u8 23 A66 c67 l65, rowE .u8 23 A86 c87 l83, rowE .u8 23 (some ⟨w76.heap.size, 0, none⟩) 1 ([x34])]) := hS98
   obtain ⟨l103, hc102, hO37⟩ := bind_in hO37
   try dsimp only at hO37
   refine gx_c (pWeak_R l103 w97) (pWeak_ok N p1 x34 A1 c1 _ hc102 w97 (hP101.vwA hv1)) ?_
   rintro _ w106 ⟨A104, c105, rfl, hT108⟩
   have hS107 : St _ _ w106 [rowE .u8 23 A95 c96 l92, rowE .u8 23 (some ⟨w47.heap.size, 0, none⟩) 1 ([x34]), rowE .u8 23 A66 c67 l65, rowE .u8 23 A86 c87 l83, rowE .u8 23 (some ⟨w76.heap.size, 0, none⟩) 1 ([x34]), rowE .u8 23 A104 c105 l103] := hS98.take _ hT108
   obtain ⟨l109, ha110, hO37⟩ := bind_in hO37
   obtain ⟨ha110, hq111⟩ := apx_in ha110
   refine gx_r (st_append rfl (by kernel_rfl) (by kernel_rfl) hS107 3 rfl (hS107.row 5 rfl).1 (hS107.row 5 rfl).2 ha110 (by kernel_rfl) (by kernel_rfl)) ?_
   rintro _ w114 ⟨A112, c113, rfl, hS115⟩
   rw [← hq111] at hS115 ⊢
   have hS115 : St _ _ w114 [rowE .u8 23 A95 c96 l92, rowE .u8 23 (some ⟨w47.heap.size, 0, none⟩) 1 ([x34]), rowE .u8 23 A66 c67 l65, rowE .u8 23 A112 c113 l109, rowE .u8 23 (some ⟨w76.heap.size, 0, none⟩) 1 ([x34]), rowE .u8 23 A104 c105 l103] := hS115
   refine gx_k (.slice A112 l109.length c113) w114 ?_
   refine gx_nil ?_
   refine gx_thenN ?_
   refine hK100 _ _ ?_
   refine gx_seq (fun K116 hK117 => ?_)
   refine gx_region ?_
   refine gx_k (.slice A95 l92.length c96) w114 (gx_k (.int .u8 p2) w114 ?_)
   have hP118 : St _ _ w114 ([] ++ [rowE .u8 23 A95 c96 l92, rowE .u8 23 (some ⟨w47.heap.size, 0, none⟩) 1 ([x34]), rowE .u8 23 A66 c67 l65, rowE .u8 23 A112 c113 l109, rowE .u8 23 (some ⟨w76.heap.size, 0, none⟩) 1 ([x34]), rowE .u8 23 A104 c105 l103]) := hS115
   obtain ⟨l120, hc119, hO37⟩ := bind_in hO37
   try dsimp only at hO37
   refine gx_c (pWeak_R l120 w114) (pWeak_ok N l92 p2 A95 c96 _ hc119 w114 (hP118.vwB 0 rfl)) ?_
   rintro _ w123 ⟨A121, c122, rfl, hT125⟩
   have hS124 : St _ _ w123 [rowE .u8 23 A95 c96 l92, rowE .u8 23 (some ⟨w47.heap.size, 0, none⟩) 1 ([x34]), rowE .u8 23 A66 c67 l65, rowE .u8 23 A112 c113 l109, rowE .u8 23 (some ⟨w76.heap.size, 0, none⟩) 1 ([x34]), rowE .u8 23 A104 c105 l103, rowE .u8 23 A121 c122 l120] := hS115.take _ hT125
   refine gx_k (.slice A112 l109.length c113) w123 ?_
   have hP126 : St _ _ w123 ([] ++ [rowE .u8 23 A95 c96 l92, rowE .u8 23 (some ⟨w47.heap.size, 0, none⟩) 1 ([x34]), rowE .u8 23 A66 c67 l65, rowE .u8 23 A112 c113 l109, rowE .u8 23 (some ⟨w76.heap.size, 0, none⟩) 1 ([x34]), rowE .u8 23 A104 c105 l103, rowE .u8 23 A121 c122 l120]) := hS124
   obtain ⟨b128, hc127, hO37⟩ := bind_in hO37
   try dsimp only at hO37
   refine gx_c (kIs_R b128 w123) (kIs_ok N l120 l109 A121 c122 A112 c113 _ hc127 w123 (hP126.vwB 6 rfl) (hP126.vwB 3 rfl)) ?_
   rintro _ w129 ⟨rfl, hT131⟩
   have hS130 : St _ _ w129 [rowE .u8 23 A95 c96 l92, rowE .u8 23 (some ⟨w47.heap.size, 0, none⟩) 1 ([x34]), rowE .u8 23 A66 c67 l65, rowE .u8 23 A112 c113 l109, rowE .u8 23 (some ⟨w76.heap.size, 0, none⟩) 1 ([x34]), rowE .u8 23 A104 c105 l103, rowE .u8 23 A121 c122 l120] := hS124.take _ hT131
   refine gx_k (.bool b128) w129 ?_
   cases b128 with
   | true =>
    try dsimp only at hO37
    have hP132 : St _ _ w129 ([] ++ [rowE .u8 23 A95 c96 l92, rowE .u8 23 (some ⟨w47.heap.size, 0, none⟩) 1 ([x34]), rowE .u8 23 A66 c67 l65, rowE .u8 23 A112 c113 l109, rowE .u8 23 (some ⟨w76.heap.size, 0, none⟩) 1 ([x34]), rowE .u8 23 A104 c105 l103, rowE .u8 23 A121 c122 l120]) := hS130
    obtain ⟨b134, hc133, hO37⟩ := bind_in hO37
    try dsimp only at hO37
    refine gx_c (kArabic_R b134 w129) (kArabic_ok N  _ hc133 w129 ) ?_
    rintro _ w135 ⟨rfl, hT137⟩
    have hS136 : St _ _ w135 [rowE .u8 23 A95 c96 l92, rowE .u8 23 (some ⟨w47.heap.size, 0, none⟩) 1 ([x34]), rowE .u8 23 A66 c67 l65, rowE .u8 23 A112 c113 l109, rowE .u8 23 (some ⟨w76.heap.size, 0, none⟩) 1 ([x34]), rowE .u8 23 A104 c105 l103, rowE .u8 23 A121 c122 l120] := hS130.take _ hT137
    refine gx_k (.bool b134) w135 (gx_k (.bool b134) w135 ?_)
    refine gx_nil ?_
    refine gx_thenN ?_
    refine hK117 _ _ ?_
    refine gx_ret ?_
    obtain rfl := Option.some.inj hO37
    exact gx_fin (.bool b134) (by kernel_rfl) (by kernel_rfl) ⟨_, rfl, rfl, (hS136.pick [] rfl rfl)⟩
   | false =>
    try dsimp only at hO37
    refine gx_o (gx_k (.bool false) w129 (gx_k (.bool false) w129 ?_))
    refine gx_nil ?_
    refine gx_thenN ?_
    refine hK117 _ _ ?_
    refine gx_ret ?_
    obtain rfl := Option.some.inj hO37
    exact gx_fin (.bool false) (by kernel_rfl) (by kernel_rfl) ⟨_, rfl, rfl, (hS130.pick [] rfl rfl)⟩

end Go.Proofs.Ytdpcaidhpccaiaa

/-
  The document's Join, walked.
-/
import Derived.Test.YtijmponhkabeiaaM15
namespace Go.Proofs.Ytijmponhkabeiaa
open Go Go.RowKit

def encapiTag : Enc (Int × Int × Int × Int) := (pairE (intE .u8) (pairE (intE .u8) (pairE (intE .u8) (intE .u8))))

def encsfntTable : Enc ((Int × Int × Int × Int) × Int × Int) := (pairE encapiTag (pairE (intE .i64) (intE .i64)))

def rUp (_N : Nat) (p0 : Int) : Option (Int) :=
  some (IntKind.i64.wrap ((IntKind.i64.wrap (Int.tdiv (IntKind.i64.wrap (p0 + 3)) 4)) * 4))

set_option linter.unusedVariables false in
def rUp_R (r : Int) (w0 : World) (v : Value) (w : World) : Prop := v = .int .i64 r ∧ St [] w0 w []

set_option maxRecDepth 100000 in
set_option maxHeartbeats 4000000 in
theorem rUp_ok (N : Nat) (p0 : Int)  (r : Int) (hF : rUp N p0 = some r) (w0 : World)  :
    Calls Try.prog 35 #[.int .i64 p0] w0 fun e w => ∃ v, e = .returned v ∧ rUp_R r w0 v w := by
  have hS0 := St.start w0
  unfold rUp at hF
  refine calls_of Try.func35 rfl ⟨((.int .i64 p0) :: undef :: undef :: undef :: undef :: undef :: undef :: []).toArray, []⟩ (by kernel_rfl) ?_
  refine gx_seq (fun K1 hK2 => ?_)
  refine gx_region ?_
  refine gx_val (.int .i64 0) w0 (by kernel_rfl) (by kernel_rfl) ?_
  refine gx_nil ?_
  refine gx_thenN ?_
  refine hK2 _ _ ?_
  refine gx_seq (fun K3 hK4 => ?_)
  refine gx_region ?_
  refine gx_val (.int .i64 p0) w0 (by kernel_rfl) (by kernel_rfl) ?_
  refine gx_val (.int .i64 (IntKind.i64.wrap (p0 + 3))) w0 (by kernel_rfl) (by kernel_rfl) ?_
  refine gx_val (.int .i64 (IntKind.i64.wrap (Int.tdiv (IntKind.i64.wrap (p0 + 3)) 4))) w0 (by kernel_rfl) (by kernel_rfl) ?_
  refine gx_val (.int .i64 (IntKind.i64.wrap ((IntKind.i64.wrap (Int.tdiv (IntKind.i64.wrap (p0 + 3)) 4)) * 4))) w0 (by kernel_rfl) (by kernel_rfl) ?_
  refine gx_val (.int .i64 (IntKind.i64.wrap ((IntKind.i64.wrap (Int.tdiv (IntKind.i64.wrap (p0 + 3)) 4)) * 4))) w0 (by kernel_rfl) (by kernel_rfl) ?_
  refine gx_nil ?_
  refine gx_thenN ?_
  refine hK4 _ _ ?_
  refine gx_ret ?_
  obtain rfl := Option.some.inj hF
  exact gx_fin (.int .i64 (IntKind.i64.wrap ((IntKind.i64.wrap (Int.tdiv (IntKind.i64.wrap (p0 + 3)) 4)) * 4))) (by kernel_rfl) (by kernel_rfl) ⟨_, rfl, rfl, hS0⟩

def rJoin_L1 (N : Nat) (p0 : List (Int × Int × Int × Int)) : Nat → Int → Option (Ctl (Unit) (List Int × Int))
  | 0, _ => none
  | k53+1, x52 => (if x52 < ((p0.length : Nat) : Int) then (if x52 > 0 then ((ixg p0 (IntKind.i64.wrap (x52 - 1))).bind fun x67 => ((ixg p0 x52).bind fun x88 => ((hLess N x67.1 x67.2.1 x67.2.2.1 x67.2.2.2 x88.1 x88.2.1 x88.2.2.1 x88.2.2.2).bind fun b111 => (match b111 with | true => rJoin_L1 N p0 k53 (IntKind.i64.wrap (x52 + 1)) | false => some (Ctl.ret ([], 2)))))) else rJoin_L1 N p0 k53 (IntKind.i64.wrap (x52 + 1))) else some (Ctl.go ()))
def rJoin_L3 (N : Nat) : Nat → (List Int) → Option (List Int)
  | 0, _ => none
  | k458+1, l457 => (if (Int.tmod ((l457.length : Nat) : Int) 4) ≠ 0 then ((apx l457 ([0])).bind fun l467 => rJoin_L3 N k458 l467) else some (l457))
def rJoin_L2 (N : Nat) (p0 : List (Int × Int × Int × Int)) (p1 : List (List Int)) : Nat → Int → (List Int) → (List Int) → Int → Int → Option (Ctl (Int × List Int × List Int × Int) (List Int × Int))
  | 0, _, _, _, _, _ => none
  | k147+1, x138, l141, l144, x145, x146 => (if x146 < ((p0.length : Nat) : Int) then ((((((ixg p1 x146).bind fun x176 => (if ((x176.length : Nat) : Int) > 16777216 then some (Ctl.ret ([], 3)) else (if x138 > 16777216 then some (Ctl.ret ([], 3)) else some (Ctl.go ())))) : Option (Ctl (Unit) (List Int × Int))).bind fun | Ctl.go () => ((((ixg p0 x146).bind fun x206 => ((hIsHead N x206.1 x206.2.1 x206.2.2.1 x206.2.2.2).bind fun b229 => (match b229 with | true => ((ixg p1 x146).bind fun x233 => (if ((x233.length : Nat) : Int) ≥ 12 then some ((IntKind.i64.wrap (x138 + 8))) else some (x145))) | false => some (x145)))) : Option (Int)).bind fun x200 => ((ixg p0 x146).bind fun x251 => ((ixg p0 x146).bind fun x272 => ((ixg p0 x146).bind fun x293 => ((ixg p0 x146).bind fun x314 => ((apx l141 ([x251.1, x272.2.1, x293.2.2.1, x314.2.2.2])).bind fun l337 => ((ixg p0 x146).bind fun x348 => ((ixg p1 x146).bind fun x369 => ((ixg p1 x146).bind fun x382 => ((hTsum N x348.1 x348.2.1 x348.2.2.1 x348.2.2.2 x369).bind fun x397 => ((hPut N ([(IntKind.i64.wrap x397), x138, ((x382.length : Nat) : Int)]) (⟨#[73, 73, 73]⟩ : ByteArray)).bind fun (l405, _x408) => ((apx l337 l405).bind fun l414 => ((ixg p1 x146).bind fun x423 => ((apx l144 x423).bind fun l436 => ((rJoin_L3 N N l436 : Option (List Int)).bind fun l448 => ((ixg p1 x146).bind fun x474 => ((rUp N ((x474.length : Nat) : Int)).bind fun x489 => some (Ctl.go ((IntKind.i64.wrap (x138 + x489)), l414, l448, x200))))))))))))))))))) | Ctl.ret r => some (Ctl.ret r)) : Option (Ctl (Int × List Int × List Int × Int) (List Int × Int))).bind fun | Ctl.go (x157, l160, l163, x164) => rJoin_L2 N p0 p1 k147 x157 l160 l163 x164 (IntKind.i64.wrap (x146 + 1)) | Ctl.ret r => some (Ctl.ret r)) else some (Ctl.go (x138, l141, l144, x145)))
def rJoin_L4 (N : Nat) (x128 : Int) : Nat → (List Int) → Int → Option (List Int)
  | 0, _, _ => none
  | k537+1, l535, x536 => (if x536 < 4 then ((ix l535 (IntKind.i64.wrap (x128 + x536))).bind fun _x546 => ((setx l535 (IntKind.i64.wrap (x128 + x536)) 0).bind fun l550 => rJoin_L4 N x128 k537 l550 (IntKind.i64.wrap (x536 + 1)))) else some (l535))
def rJoin_L5 (N : Nat) (x128 : Int) (l564 : List Int) : Nat → (List Int) → Int → Option (List Int)
  | 0, _, _ => none
  | k579+1, l577, x578 => (if x578 < 4 then ((ix l564 x578).bind fun x588 => ((ix l577 (IntKind.i64.wrap (x128 + x578))).bind fun _x590 => ((setx l577 (IntKind.i64.wrap (x128 + x578)) x588).bind fun l594 => rJoin_L5 N x128 l564 k579 l594 (IntKind.i64.wrap (x578 + 1))))) else some (l577))
def rJoin (N : Nat) (p0 : List (Int × Int × Int × Int)) (p1 : List (List Int)) : Option (List Int × Int) :=
  (((if ((p0.length : Nat) : Int) ≠ ((p1.length : Nat) : Int) then some (Ctl.ret ([], 2)) else (if ((p0.length : Nat) : Int) < 1 then some (Ctl.ret ([], 2)) else (if ((p0.length : Nat) : Int) > 64 then some (Ctl.ret ([], 2)) else some (Ctl.go ())))) : Option (Ctl (Unit) (List Int × Int))).bind fun | Ctl.go () => ((hHead N ((p0.length : Nat) : Int)).bind fun l31 => ((rJoin_L1 N p0 N 0 : Option (Ctl (Unit) (List Int × Int))).bind fun | Ctl.go () => ((rJoin_L2 N p0 p1 N (IntKind.i64.wrap ((12 : Int) + (IntKind.i64.wrap ((16 : Int) * ((p0.length : Nat) : Int))))) l31 ([]) (-1) 0 : Option (Ctl (Int × List Int × List Int × Int) (List Int × Int))).bind fun | Ctl.go (x121, l124, l127, x128) => (if x121 > 16777216 then some ([], 3) else ((apx l124 l127).bind fun l503 => (((if x128 ≥ 0 then ((rJoin_L4 N x128 N l503 0 : Option (List Int)).bind fun l525 => ((hSum N l525).bind fun x556 => ((hPut N ([(IntKind.i64.wrap (IntKind.u32.wrap ((2981146554 : Int) - x556)))]) (⟨#[73]⟩ : ByteArray)).bind fun (l564, _x567) => rJoin_L5 N x128 l564 N l525 0))) else some (l503)) : Option (List Int)).bind fun l514 => some (l514, 0)))) | Ctl.ret r => some r) | Ctl.ret r => some r)) | Ctl.ret r => some r)

set_option linter.unusedVariables false in
def rJoin_R (r : List Int × Int) (w0 : World) (v : Value) (w : World) : Prop := ∃ (A0' : Option Addr) (c0' : Nat), v = .tuple #[.slice A0' r.1.length c0', .int .i64 r.2] ∧ St [] w0 w [rowE .u8 5 A0' c0' r.1]

set_option maxRecDepth 100000 in
set_option maxHeartbeats 4000000 in
theorem rJoin_ok (N : Nat) (p0 : List (Int × Int × Int × Int)) (p1 : List (List Int)) (A0 : Option Addr) (c0 : Nat) (vs0 : List Value) (ft0 : List Nat) (A1 : Option Addr) (c1 : Nat) (vs1 : List Value) (ft1 : List Nat) (r : List Int × Int) (hF : rJoin N p0 p1 = some r) (w0 : World) (hv0 : (fSl encapiTag A0 c0 vs0 p0).rd w0 ft0) (ho0 : Off [] w0 ft0) (hv1 : (fSl (rowOf (intE .u8)) A1 c1 vs1 p1).rd w0 ft1) (ho1 : Off [] w0 ft1) :
    Calls Try.prog 14 #[.slice A0 p0.length c0, .slice A1 p1.length c1] w0 fun e w => ∃ v, e = .returned v ∧ rJoin_R r w0 v w := by
  have hS0 := (St.start w0).pool0
  unfold rJoin at hF
  refine calls_of Try.func14 rfl ⟨((.slice A0 p0.length c0) :: (.slice A1 p1.length c1) :: undef :: undef :: undef :: undef :: undef :: undef :: undef :: undef :: undef :: undef :: undef :: undef :: undef :: undef :: undef :: undef :: undef :: undef :: undef :: undef :: undef :: undef :: undef :: undef :: undef :: undef :: undef :: undef :: undef :: undef :: undef :: undef :: undef :: undef :: undef :: undef :: undef :: undef :: undef :: undef :: undef :: undef :: undef :: undef :: undef :: undef :: undef :: undef :: undef :: undef :: undef :: undef :: undef :: undef :: undef :: undef :: undef :: undef :: undef :: undef :: undef :: undef :: undef :: undef :: undef :: undef :: undef :: undef :: undef :: undef :: undef :: undef :: undef :: undef :: undef :: undef :: undef :: undef :: undef :: undef :: undef :: undef :: undef :: undef :: undef :: undef :: undef :: undef :: undef :: undef :: undef :: undef :: undef :: undef :: undef :: undef :: undef :: undef :: undef :: undef :: undef :: undef :: undef :: undef :: undef :: undef :: undef :: undef :: undef :: undef :: undef :: undef :: undef :: undef :: undef :: undef :: undef :: undef :: undef :: undef :: undef :: undef :: undef :: undef :: undef :: undef :: undef :: undef :: undef :: undef :: undef :: undef :: undef :: undef :: undef :: undef :: undef :: undef :: undef :: undef :: undef :: undef :: undef :: undef :: undef :: undef :: undef :: undef :: undef :: undef :: undef :: undef :: undef :: undef :: undef :: undef :: undef :: undef :: undef :: undef :: undef :: undef :: undef :: undef :: undef :: undef :: undef :: undef :: undef :: undef :: undef :: undef :: undef :: undef :: undef :: undef :: undef :: undef :: undef :: undef :: undef :: undef :: undef :: undef :: undef :: undef :: undef :: undef :: undef :: undef :: undef :: undef :: undef :: undef :: []).toArray, []⟩ (by kernel_rfl) ?_
  refine gx_seq (fun K1 hK2 => ?_)
  refine gx_region ?_
  refine gx_val (.slice none 0 0) w0 (by kernel_rfl) (by kernel_rfl) ?_
  refine gx_val (.int .i64 0) w0 (by kernel_rfl) (by kernel_rfl) ?_
  refine gx_nil ?_
  refine gx_thenN ?_
  refine hK2 _ _ ?_
  refine gx_seq (fun K3 hK4 => ?_)
  refine gx_region ?_
  refine gx_val (.slice A0 p0.length c0) w0 (by kernel_rfl) (by kernel_rfl) ?_
  refine gx_val (.int .i64 ((p0.length : Nat) : Int)) w0 (by kernel_rfl) (by kernel_rfl) ?_
  refine gx_val (.int .i64 ((p0.length : Nat) : Int)) w0 (by kernel_rfl) (by kernel_rfl) ?_
  refine gx_nil ?_
  refine gx_thenN ?_
  refine hK4 _ _ ?_
  obtain ⟨c8, hE9, hO10⟩ := bind_in hF
  refine gx_cut (fun a w => ∃ (u7 : Nat → Value), a = ⟨((.slice A0 p0.length c0) :: (.slice A1 p1.length c1) :: undef :: undef :: (u7 0) :: (u7 1) :: (.int .i64 ((p0.length : Nat) : Int)) :: undef :: undef :: undef :: undef :: undef :: undef :: undef :: undef :: undef :: undef :: undef :: undef :: undef :: (u7 2) :: (.int .i64 ((p0.length : Nat) : Int)) :: (u7 3) :: (u7 4) :: (u7 5) :: (u7 6) :: (u7 7) :: (u7 8) :: (u7 9) :: (u7 10) :: (u7 11) :: (u7 12) :: (u7 13) :: (u7 14) :: undef :: undef :: undef :: undef :: undef :: undef :: undef :: undef :: undef :: undef :: undef :: undef :: undef :: undef :: undef :: undef :: undef :: undef :: undef :: undef :: undef :: undef :: undef :: undef :: undef :: undef :: undef :: undef :: undef :: undef :: undef :: undef :: undef :: undef :: undef :: undef :: undef :: undef :: undef :: undef :: undef :: undef :: undef :: undef :: undef :: undef :: undef :: undef :: undef :: undef :: undef :: undef :: undef :: undef :: undef :: undef :: undef :: undef :: undef :: undef :: undef :: undef :: undef :: undef :: undef :: undef :: undef :: undef :: undef :: undef :: undef :: undef :: undef :: undef :: undef :: undef :: undef :: undef :: undef :: undef :: undef :: undef :: undef :: undef :: undef :: undef :: undef :: undef :: undef :: undef :: undef :: undef :: undef :: undef :: undef :: undef :: undef :: undef :: undef :: undef :: undef :: undef :: undef :: undef :: undef :: undef :: undef :: undef :: undef :: undef :: undef :: undef :: undef :: undef :: undef :: undef :: undef :: undef :: undef :: undef :: undef :: undef :: undef :: undef :: undef :: undef :: undef :: undef :: undef :: undef :: undef :: undef :: undef :: undef :: undef :: undef :: undef :: undef :: undef :: undef :: undef :: undef :: undef :: undef :: undef :: undef :: undef :: undef :: undef :: undef :: undef :: undef :: undef :: undef :: undef :: undef :: undef :: undef :: undef :: undef :: undef :: undef :: []).toArray, []⟩ ∧ Ctl.go () = c8 ∧ St [] w0 w [poolE ([]) w0]) ?_ ?_
  · refine gx_seq (fun K11 hK12 => ?_)
    refine gx_region ?_
    refine gx_val (.int .i64 ((p0.length : Nat) : Int)) w0 (by kernel_rfl) (by kernel_rfl) ?_
    refine gx_val (.slice A1 p1.length c1) w0 (by kernel_rfl) (by kernel_rfl) ?_
    refine gx_val (.int .i64 ((p1.length : Nat) : Int)) w0 (by kernel_rfl) (by kernel_rfl) ?_
    rcases if_in hE9 with ⟨h13, hE9⟩ | ⟨h13, hE9⟩
    · refine gx_val (.bool true) w0 (by kernel_rfl) (run_boolE (ne_yes h13) (by kernel_rfl)) ?_
      refine gx_val (.bool true) w0 (by kernel_rfl) (by kernel_rfl) ?_
      refine gx_off (by kernel_rfl) ?_
      refine gx_off (by kernel_rfl) ?_
      refine gx_val (.bool true) w0 (by kernel_rfl) (by kernel_rfl) ?_
      refine gx_val (.bool true) w0 (by kernel_rfl) (by kernel_rfl) ?_
      refine gx_off (by kernel_rfl) ?_
      refine gx_off (by kernel_rfl) ?_
      refine gx_val (.bool true) w0 (by kernel_rfl) (by kernel_rfl) ?_
      refine gx_nil ?_
      refine gx_thenN ?_
      refine hK12 _ _ ?_
      refine gx_yes (by kernel_rfl) ?_
      refine gx_seq (fun K14 hK15 => ?_)
      refine gx_region ?_
      refine gx_val (.slice none 0 0) w0 (by kernel_rfl) (by kernel_rfl) ?_
      refine gx_val (.int .i64 2) w0 (by kernel_rfl) (by kernel_rfl) ?_
      refine gx_nil ?_
      refine gx_thenN ?_
      refine hK15 _ _ ?_
      refine gx_ret ?_
      refine gx_thenR ?_
      obtain rfl := Option.some.inj hE9
      try dsimp only at hO10
      have hS16 : St _ _ w0 [poolE ([]) w0, rowE .u8 5 none 0 ([])] := hS0.nilrow .u8 5
      obtain rfl := Option.some.inj hO10
      exact gx_fin (.tuple #[.slice none (([] : List Int).length) 0, .int .i64 2]) (by kernel_rfl) (by kernel_rfl) ⟨_, rfl, none, 0, rfl, (hS16.pick [1] rfl rfl)⟩
    · refine gx_val (.bool false) w0 (by kernel_rfl) (run_boolE (ne_no h13) (by kernel_rfl)) ?_
      refine gx_val (.bool false) w0 (by kernel_rfl) (by kernel_rfl) ?_
      refine gx_val (.int .i64 ((p0.length : Nat) : Int)) w0 (by kernel_rfl) (by kernel_rfl) ?_
      rcases if_in hE9 with ⟨h17, hE9⟩ | ⟨h17, hE9⟩
      · refine gx_val (.bool true) w0 (by kernel_rfl) (run_boolE (decide_eq_true h17) (by kernel_rfl)) ?_
        refine gx_val (.bool true) w0 (by kernel_rfl) (by kernel_rfl) ?_
        refine gx_val (.bool true) w0 (by kernel_rfl) (by kernel_rfl) ?_
        refine gx_off (by kernel_rfl) ?_
        refine gx_off (by kernel_rfl) ?_
        refine gx_val (.bool true) w0 (by kernel_rfl) (by kernel_rfl) ?_
        refine gx_nil ?_
        refine gx_thenN ?_
        refine hK12 _ _ ?_
        refine gx_yes (by kernel_rfl) ?_
        refine gx_seq (fun K18 hK19 => ?_)
        refine gx_region ?_
        refine gx_val (.slice none 0 0) w0 (by kernel_rfl) (by kernel_rfl) ?_
        refine gx_val (.int .i64 2) w0 (by kernel_rfl) (by kernel_rfl) ?_
        refine gx_nil ?_
        refine gx_thenN ?_
        refine hK19 _ _ ?_
        refine gx_ret ?_
        refine gx_thenR ?_
        obtain rfl := Option.some.inj hE9
        try dsimp only at hO10
        have hS20 : St _ _ w0 [poolE ([]) w0, rowE .u8 5 none 0 ([])] := hS0.nilrow .u8 5
        obtain rfl := Option.some.inj hO10
        exact gx_fin (.tuple #[.slice none (([] : List Int).length) 0, .int .i64 2]) (by kernel_rfl) (by kernel_rfl) ⟨_, rfl, none, 0, rfl, (hS20.pick [1] rfl rfl)⟩
      · refine gx_val (.bool false) w0 (by kernel_rfl) (run_boolE (decide_eq_false h17) (by kernel_rfl)) ?_
        refine gx_val (.bool false) w0 (by kernel_rfl) (by kernel_rfl) ?_
        refine gx_val (.bool false) w0 (by kernel_rfl) (by kernel_rfl) ?_
        refine gx_val (.int .i64 ((p0.length : Nat) : Int)) w0 (by kernel_rfl) (by kernel_rfl) ?_
        rcases if_in hE9 with ⟨h21, hE9⟩ | ⟨h21, hE9⟩
        · refine gx_val (.bool true) w0 (by kernel_rfl) (run_boolE (decide_eq_true h21) (by kernel_rfl)) ?_
          refine gx_val (.bool true) w0 (by kernel_rfl) (by kernel_rfl) ?_
          refine gx_nil ?_
          refine gx_thenN ?_
          refine hK12 _ _ ?_
          refine gx_yes (by kernel_rfl) ?_
          refine gx_seq (fun K22 hK23 => ?_)
          refine gx_region ?_
          refine gx_val (.slice none 0 0) w0 (by kernel_rfl) (by kernel_rfl) ?_
          refine gx_val (.int .i64 2) w0 (by kernel_rfl) (by kernel_rfl) ?_
          refine gx_nil ?_
          refine gx_thenN ?_
          refine hK23 _ _ ?_
          refine gx_ret ?_
          refine gx_thenR ?_
          obtain rfl := Option.some.inj hE9
          try dsimp only at hO10
          have hS24 : St _ _ w0 [poolE ([]) w0, rowE .u8 5 none 0 ([])] := hS0.nilrow .u8 5
          obtain rfl := Option.some.inj hO10
          exact gx_fin (.tuple #[.slice none (([] : List Int).length) 0, .int .i64 2]) (by kernel_rfl) (by kernel_rfl) ⟨_, rfl, none, 0, rfl, (hS24.pick [1] rfl rfl)⟩
        · refine gx_val (.bool false) w0 (by kernel_rfl) (run_boolE (decide_eq_false h21) (by kernel_rfl)) ?_
          refine gx_val (.bool false) w0 (by kernel_rfl) (by kernel_rfl) ?_
          refine gx_nil ?_
          refine gx_thenN ?_
          refine hK12 _ _ ?_
          refine gx_no (by kernel_rfl) ?_
          refine gx_pass ?_
          refine gx_thenN ?_
          exact ⟨(fun i => List.getD ((.slice none 0 0) :: (.int .i64 0) :: (.slice A0 p0.length c0) :: (.int .i64 ((p0.length : Nat) : Int)) :: (.slice A1 p1.length c1) :: (.int .i64 ((p1.length : Nat) : Int)) :: (.bool false) :: (.bool false) :: (.int .i64 ((p0.length : Nat) : Int)) :: (.bool false) :: (.bool false) :: (.bool false) :: (.int .i64 ((p0.length : Nat) : Int)) :: (.bool false) :: (.bool false) :: []) i undef), by kernel_rfl, (Option.some.inj hE9), hS0⟩
  · rintro _ w5 ⟨u7, rfl, rfl, hS6⟩
    try dsimp only at hO10
    refine gx_seq (fun K25 hK26 => ?_)
    refine gx_region ?_
    refine gx_val (.int .i64 ((p0.length : Nat) : Int)) w5 (by kernel_rfl) (by kernel_rfl) ?_
    refine gx_val (.int .i64 (IntKind.i64.wrap ((16 : Int) * ((p0.length : Nat) : Int)))) w5 (by kernel_rfl) (by kernel_rfl) ?_
    refine gx_val (.int .i64 (IntKind.i64.wrap ((12 : Int) + (IntKind.i64.wrap ((16 : Int) * ((p0.length : Nat) : Int)))))) w5 (by kernel_rfl) (by kernel_rfl) ?_
    refine gx_val (.int .i64 (IntKind.i64.wrap ((12 : Int) + (IntKind.i64.wrap ((16 : Int) * ((p0.length : Nat) : Int)))))) w5 (by kernel_rfl) (by kernel_rfl) ?_
    refine gx_nil ?_
    refine gx_thenN ?_
    refine hK26 _ _ ?_
    refine gx_seq (fun K27 hK28 => ?_)
    refine gx_region ?_
    refine gx_val (.int .i64 ((p0.length : Nat) : Int)) w5 (by kernel_rfl) (by kernel_rfl) ?_
    have hP29 : St _ _ w5 ([] ++ [poolE ([]) w0]) := hS6
    obtain ⟨l31, hc30, hO10⟩ := bind_in hO10
    try dsimp only at hO10
    refine gx_call (hHead_R l31 w5) (by kernel_rfl) (by kernel_rfl) (hHead_ok N ((p0.length : Nat) : Int) _ hc30 w5 ) ?_
    rintro _ w34 ⟨A32, c33, rfl, hT36⟩
    have hS35 : St _ _ w34 [poolE ([]) w0, rowE .u8 5 A32 c33 l31] := hS6.take _ hT36
    refine gx_val (.slice A32 l31.length c33) w34 (by kernel_rfl) (by kernel_rfl) ?_
    refine gx_nil ?_
    refine gx_thenN ?_
    refine hK28 _ _ ?_
    refine gx_seq (fun K37 hK38 => ?_)
    refine gx_region ?_
    refine gx_val (.slice none 0 0) w34 (by kernel_rfl) (by kernel_rfl) ?_
    refine gx_nil ?_
    refine gx_thenN ?_
    refine hK38 _ _ ?_
    refine gx_seq (fun K39 hK40 => ?_)
    refine gx_region ?_
    refine gx_val (.int .i64 (-1)) w34 (by kernel_rfl) (by kernel_rfl) ?_
    refine gx_nil ?_
    refine gx_thenN ?_
    refine hK40 _ _ ?_
    obtain ⟨c44, hE45, hO46⟩ := bind_in hO10
    refine gx_cut (fun a w => ∃ (u43 : Nat → Value), a = ⟨((.slice A0 p0.length c0) :: (.slice A1 p1.length c1) :: undef :: undef :: (u43 0) :: (u43 1) :: (.int .i64 ((p0.length : Nat) : Int)) :: (.int .i64 (IntKind.i64.wrap ((12 : Int) + (IntKind.i64.wrap ((16 : Int) * ((p0.length : Nat) : Int)))))) :: (.slice A32 l31.length c33) :: (.slice none 0 0) :: (.int .i64 (-1)) :: (u43 2) :: undef :: undef :: undef :: undef :: undef :: undef :: undef :: undef :: (u7 2) :: (.int .i64 ((p0.length : Nat) : Int)) :: (u7 3) :: (u7 4) :: (u7 5) :: (u7 6) :: (u7 7) :: (u7 8) :: (u7 9) :: (u7 10) :: (u7 11) :: (u7 12) :: (u7 13) :: (u7 14) :: (.int .i64 ((p0.length : Nat) : Int)) :: (.int .i64 (IntKind.i64.wrap ((16 : Int) * ((p0.length : Nat) : Int)))) :: (.int .i64 (IntKind.i64.wrap ((12 : Int) + (IntKind.i64.wrap ((16 : Int) * ((p0.length : Nat) : Int)))))) :: (.int .i64 ((p0.length : Nat) : Int)) :: (u43 3) :: (u43 4) :: (u43 5) :: (u43 6) :: (u43 7) :: (u43 8) :: (u43 9) :: (u43 10) :: (u43 11) :: (u43 12) :: (u43 13) :: (u43 14) :: (u43 15) :: (u43 16) :: (u43 17) :: (u43 18) :: (u43 19) :: (u43 20) :: (u43 21) :: (u43 22) :: (u43 23) :: undef :: undef :: undef :: undef :: undef :: undef :: undef :: undef :: undef :: undef :: undef :: undef :: undef :: undef :: undef :: undef :: undef :: undef :: undef :: undef :: undef :: undef :: undef :: undef :: undef :: undef :: undef :: undef :: undef :: undef :: undef :: undef :: undef :: undef :: undef :: undef :: undef :: undef :: undef :: undef :: undef :: undef :: undef :: undef :: undef :: undef :: undef :: undef :: undef :: undef :: undef :: undef :: undef :: undef :: undef :: undef :: undef :: undef :: undef :: undef :: undef :: undef :: undef :: undef :: undef :: undef :: undef :: undef :: undef :: undef :: undef :: undef :: undef :: undef :: undef :: undef :: undef :: undef :: undef :: undef :: undef :: undef :: undef :: undef :: undef :: undef :: undef :: undef :: undef :: undef :: undef :: undef :: undef :: undef :: undef :: undef :: undef :: undef :: undef :: undef :: undef :: undef :: undef :: undef :: undef :: undef :: undef :: undef :: undef :: undef :: undef :: undef :: undef :: undef :: undef :: undef :: undef :: undef :: undef :: undef :: undef :: undef :: undef :: undef :: undef :: undef :: undef :: undef :: undef :: undef :: undef :: undef :: undef :: undef :: undef :: undef :: undef :: []).toArray, []⟩ ∧ Ctl.go () = c44 ∧ St [] w0 w [poolE ([]) w0, rowE .u8 5 A32 c33 l31]) ?_ ?_
    · refine gx_seq (fun K47 hK48 => ?_)
      refine gx_region ?_
      refine gx_val (.int .i64 0) w34 (by kernel_rfl) (by kernel_rfl) ?_
      refine gx_nil ?_
      refine gx_thenN ?_
      refine hK48 _ _ ?_
      refine gx_block ?_
      refine gx_loop (fun k a w => ∃ (x52 : Int) (u51 : Nat → Value), a = ⟨((.slice A0 p0.length c0) :: (.slice A1 p1.length c1) :: undef :: undef :: (u51 0) :: (u51 1) :: (.int .i64 ((p0.length : Nat) : Int)) :: (.int .i64 (IntKind.i64.wrap ((12 : Int) + (IntKind.i64.wrap ((16 : Int) * ((p0.length : Nat) : Int)))))) :: (.slice A32 l31.length c33) :: (.slice none 0 0) :: (.int .i64 (-1)) :: (.int .i64 x52) :: undef :: undef :: undef :: undef :: undef :: undef :: undef :: undef :: (u7 2) :: (.int .i64 ((p0.length : Nat) : Int)) :: (u7 3) :: (u7 4) :: (u7 5) :: (u7 6) :: (u7 7) :: (u7 8) :: (u7 9) :: (u7 10) :: (u7 11) :: (u7 12) :: (u7 13) :: (u7 14) :: (.int .i64 ((p0.length : Nat) : Int)) :: (.int .i64 (IntKind.i64.wrap ((16 : Int) * ((p0.length : Nat) : Int)))) :: (.int .i64 (IntKind.i64.wrap ((12 : Int) + (IntKind.i64.wrap ((16 : Int) * ((p0.length : Nat) : Int)))))) :: (.int .i64 ((p0.length : Nat) : Int)) :: (u51 2) :: (u51 3) :: (u51 4) :: (u51 5) :: (u51 6) :: (u51 7) :: (u51 8) :: (u51 9) :: (u51 10) :: (u51 11) :: (u51 12) :: (u51 13) :: (u51 14) :: (u51 15) :: (u51 16) :: (u51 17) :: (u51 18) :: (u51 19) :: (u51 20) :: (u51 21) :: (u51 22) :: undef :: undef :: undef :: undef :: undef :: undef :: undef :: undef :: undef :: undef :: undef :: undef :: undef :: undef :: undef :: undef :: undef :: undef :: undef :: undef :: undef :: undef :: undef :: undef :: undef :: undef :: undef :: undef :: undef :: undef :: undef :: undef :: undef :: undef :: undef :: undef :: undef :: undef :: undef :: undef :: undef :: undef :: undef :: undef :: undef :: undef :: undef :: undef :: undef :: undef :: undef :: undef :: undef :: undef :: undef :: undef :: undef :: undef :: undef :: undef :: undef :: undef :: undef :: undef :: undef :: undef :: undef :: undef :: undef :: undef :: undef :: undef :: undef :: undef :: undef :: undef :: undef :: undef :: undef :: undef :: undef :: undef :: undef :: undef :: undef :: undef :: undef :: undef :: undef :: undef :: undef :: undef :: undef :: undef :: undef :: undef :: undef :: undef :: undef :: undef :: undef :: undef :: undef :: undef :: undef :: undef :: undef :: undef :: undef :: undef :: undef :: undef :: undef :: undef :: undef :: undef :: undef :: undef :: undef :: undef :: undef :: undef :: undef :: undef :: undef :: undef :: undef :: undef :: undef :: undef :: undef :: undef :: undef :: undef :: undef :: undef :: undef :: []).toArray, []⟩ ∧ rJoin_L1 N p0 k x52 = some c44 ∧ St [] w0 w [poolE ([]) w0, rowE .u8 5 A32 c33 l31]) N ?_ ?_
      · exact ⟨0, (fun i => List.getD ((u7 0) :: (u7 1) :: (.slice A32 l31.length c33) :: undef :: undef :: undef :: undef :: undef :: undef :: undef :: undef :: undef :: undef :: undef :: undef :: undef :: undef :: undef :: undef :: undef :: undef :: undef :: undef :: []) i undef), by kernel_rfl, hE45, hS35⟩
      · rintro k53 _ w49 ⟨x52, u51, rfl, hL54, hS50⟩
        cases k53 with
        | zero => cases hL54
        | succ k53 =>
          rw [rJoin_L1] at hL54
          refine gx_seq (fun K55 hK56 => ?_)
          refine gx_seq (fun K57 hK58 => ?_)
          refine gx_region ?_
          refine gx_val (.int .i64 x52) w49 (by kernel_rfl) (by kernel_rfl) ?_
          refine gx_val (.int .i64 ((p0.length : Nat) : Int)) w49 (by kernel_rfl) (by kernel_rfl) ?_
          rcases if_in hL54 with ⟨h59, hL54⟩ | ⟨h59, hL54⟩
          · refine gx_val (.bool true) w49 (by kernel_rfl) (run_boolE (decide_eq_true h59) (by kernel_rfl)) ?_
            refine gx_nil ?_
            refine gx_thenN ?_
            refine hK58 _ _ ?_
            refine gx_yes (by kernel_rfl) ?_
            refine gx_pass ?_
            refine gx_thenN ?_
            refine hK56 _ _ ?_
            refine gx_seq (fun K60 hK61 => ?_)
            refine gx_block ?_
            refine gx_seq (fun K62 hK63 => ?_)
            refine gd_start (fun w => St [] w0 w [poolE ([]) w0, rowE .u8 5 A32 c33 l31]) 15 #[false, false, false, false, false, false, false, false, false, false, false, false, false, false, false] (by kernel_rfl) (by kernel_rfl) ?_
            have hS65 := hS50.drew
            generalize w49.drew = w64 at hS65 ⊢
            refine gd1 0 { dst := some 44, op := _, type := _, pos := _, after := _, guard := _ } (.int .i64 x52) rfl hS65 (fun w hSw => by kernel_rfl) ?_
            rcases if_in hL54 with ⟨h66, hL54⟩ | ⟨h66, hL54⟩
            · refine gd1 1 { dst := some 45, op := _, type := _, pos := _, after := _, guard := _ } (.bool true) rfl hS65 (fun w hSw => run_boolE (decide_eq_true h66) (by kernel_rfl)) ?_
              refine gd1 2 { dst := some 46, op := _, type := _, pos := _, after := _, guard := _ } (.bool true) rfl hS65 (fun w hSw => by kernel_rfl) ?_
              refine gd1 3 { dst := some 47, op := _, type := _, pos := _, after := _, guard := _ } (.slice A0 p0.length c0) rfl hS65 (fun w hSw => by kernel_rfl) ?_
              refine gd1 4 { dst := some 48, op := _, type := _, pos := _, after := _, guard := _ } (.int .i64 x52) rfl hS65 (fun w hSw => by kernel_rfl) ?_
              refine gd1 5 { dst := some 49, op := _, type := _, pos := _, after := _, guard := _ } (.int .i64 (IntKind.i64.wrap (x52 - 1))) rfl hS65 (fun w hSw => by kernel_rfl) ?_
              obtain ⟨x67, hx68, hL54⟩ := bind_in hL54
              obtain ⟨g69, o70, e71, hA72, he73, h74, ha75⟩ := elem_at (e := encapiTag) (sl_lies (hS65.inn ho0 hv0)) (sl_each hv0) hx68 (by decide)
              obtain ⟨e76, e77, rfl, h78, h79⟩ := h74
              obtain rfl := h78
              obtain ⟨e80, e81, rfl, h82, h83⟩ := h79
              obtain rfl := h82
              obtain ⟨e84, e85, rfl, h86, h87⟩ := h83
              obtain rfl := h86
              obtain rfl := h87
              have ha75 : ∀ w', Lies w' A0 vs0 → w'.rangeAt g69 o70 [.int .u8 x67.1, .int .u8 x67.2.1, .int .u8 x67.2.2.1, .int .u8 x67.2.2.2] := ha75
              refine gd1 6 { dst := some 50, op := _, type := _, pos := _, after := _, guard := _ } (.pointer (some ⟨g69, o70, none⟩)) rfl hS65 (fun w hSw => run_ixaddrN (E := 39) (s := 4) (k := .i64) (c := c0) rfl (by kernel_rfl) (by kernel_rfl) (by kernel_rfl) (fun _ => by kernel_rfl) (ixg_in hx68).1 (ixg_in hx68).2.1 hA72) ?_
              refine gd1 7 { dst := some 51, op := _, type := _, pos := _, after := _, guard := _ } (.agg #[.int .u8 x67.1, .int .u8 x67.2.1, .int .u8 x67.2.2.1, .int .u8 x67.2.2.2]) rfl hS65 (fun w hSw => run_loadNG (d := _) (ec := [.int .u8 x67.1, .int .u8 x67.2.1, .int .u8 x67.2.2.1, .int .u8 x67.2.2.2]) rfl (by kernel_rfl) (ha75 _ (sl_lies (hSw.inn ho0 hv0))) rfl rfl (by kernel_rfl)) ?_
              refine gd1 8 { dst := some 52, op := _, type := _, pos := _, after := _, guard := _ } (.slice A0 p0.length c0) rfl hS65 (fun w hSw => by kernel_rfl) ?_
              refine gd1 9 { dst := some 53, op := _, type := _, pos := _, after := _, guard := _ } (.int .i64 x52) rfl hS65 (fun w hSw => by kernel_rfl) ?_
              obtain ⟨x88, hx89, hL54⟩ := bind_in hL54
              obtain ⟨g90, o91, e92, hA93, he94, h95, ha96⟩ := elem_at (e := encapiTag) (sl_lies (hS65.inn ho0 hv0)) (sl_each hv0) hx89 (by decide)
              obtain ⟨e97, e98, rfl, h99, h100⟩ := h95
              obtain rfl := h99
              obtain ⟨e101, e102, rfl, h103, h104⟩ := h100
              obtain rfl := h103
              obtain ⟨e105, e106, rfl, h107, h108⟩ := h104
              obtain rfl := h107
              obtain rfl := h108
              have ha96 : ∀ w', Lies w' A0 vs0 → w'.rangeAt g90 o91 [.int .u8 x88.1, .int .u8 x88.2.1, .int .u8 x88.2.2.1, .int .u8 x88.2.2.2] := ha96
              refine gd1 10 { dst := some 54, op := _, type := _, pos := _, after := _, guard := _ } (.pointer (some ⟨g90, o91, none⟩)) rfl hS65 (fun w hSw => run_ixaddrN (E := 39) (s := 4) (k := .i64) (c := c0) rfl (by kernel_rfl) (by kernel_rfl) (by kernel_rfl) (fun _ => by kernel_rfl) (ixg_in hx89).1 (ixg_in hx89).2.1 hA93) ?_
              refine gd1 11 { dst := some 55, op := _, type := _, pos := _, after := _, guard := _ } (.agg #[.int .u8 x88.1, .int .u8 x88.2.1, .int .u8 x88.2.2.1, .int .u8 x88.2.2.2]) rfl hS65 (fun w hSw => run_loadNG (d := _) (ec := [.int .u8 x88.1, .int .u8 x88.2.1, .int .u8 x88.2.2.1, .int .u8 x88.2.2.2]) rfl (by kernel_rfl) (ha96 _ (sl_lies (hSw.inn ho0 hv0))) rfl rfl (by kernel_rfl)) ?_
              have hP109 : St _ _ w64 ([] ++ [poolE ([]) w0, rowE .u8 5 A32 c33 l31]) := hS65
              obtain ⟨b111, hc110, hL54⟩ := bind_in hL54
              try dsimp only at hL54
              refine gdC 12 { dst := some 56, op := _, type := _, pos := _, after := _, guard := _ } (hLess_R b111 w64) rfl (by kernel_rfl) (hLess_ok N x67.1 x67.2.1 x67.2.2.1 x67.2.2.2 x88.1 x88.2.1 x88.2.2.1 x88.2.2.2 _ hc110 w64 ) ?_
              rintro _ w112 ⟨rfl, hT114⟩
              have hS113 : St _ _ w112 [poolE ([]) w0, rowE .u8 5 A32 c33 l31] := hS65.take _ hT114
              refine ⟨hS113, ?_⟩
              cases b111 with
              | true =>
                try dsimp only at hL54
                refine gd1 13 { dst := some 57, op := _, type := _, pos := _, after := _, guard := _ } (.bool false) rfl hS113 (fun w hSw => by kernel_rfl) ?_
                refine gd1 14 { dst := some 58, op := _, type := _, pos := _, after := _, guard := _ } (.bool false) rfl hS113 (fun w hSw => by kernel_rfl) ?_
                refine gd_done (by kernel_rfl) ?_
                refine gx_thenN ?_
                refine hK63 _ _ ?_
                refine gx_no (by kernel_rfl) ?_
                refine gx_pass ?_
                refine gx_blkN ?_
                refine gx_thenN ?_
                refine hK61 _ _ ?_
                refine gx_region ?_
                refine gx_val (.int .i64 x52) w112 (by kernel_rfl) (by kernel_rfl) ?_
                refine gx_val (.int .i64 (IntKind.i64.wrap (x52 + 1))) w112 (by kernel_rfl) (by kernel_rfl) ?_
                refine gx_val (.int .i64 (IntKind.i64.wrap (x52 + 1))) w112 (by kernel_rfl) (by kernel_rfl) ?_
                refine gx_nil ?_
                refine gx_thenN ?_
                exact ⟨k53, Nat.lt_succ_self k53, (IntKind.i64.wrap (x52 + 1)), (fun i => List.getD ((u51 0) :: (u51 1) :: (u51 2) :: (.int .i64 x52) :: (.int .i64 ((p0.length : Nat) : Int)) :: (.bool true) :: (.int .i64 x52) :: (.int .i64 (IntKind.i64.wrap (x52 + 1))) :: (.int .i64 x52) :: (.bool true) :: (.bool true) :: (.slice A0 p0.length c0) :: (.int .i64 x52) :: (.int .i64 (IntKind.i64.wrap (x52 - 1))) :: (.pointer (some ⟨g69, o70, none⟩)) :: (.agg #[.int .u8 x67.1, .int .u8 x67.2.1, .int .u8 x67.2.2.1, .int .u8 x67.2.2.2]) :: (.slice A0 p0.length c0) :: (.int .i64 x52) :: (.pointer (some ⟨g90, o91, none⟩)) :: (.agg #[.int .u8 x88.1, .int .u8 x88.2.1, .int .u8 x88.2.2.1, .int .u8 x88.2.2.2]) :: (.bool true) :: (.bool false) :: (.bool false) :: []) i undef), by kernel_rfl, hL54, hS113⟩
              | false =>
                try dsimp only at hL54
                refine gd1 13 { dst := some 57, op := _, type := _, pos := _, after := _, guard := _ } (.bool true) rfl hS113 (fun w hSw => by kernel_rfl) ?_
                refine gd1 14 { dst := some 58, op := _, type := _, pos := _, after := _, guard := _ } (.bool true) rfl hS113 (fun w hSw => by kernel_rfl) ?_
                refine gd_done (by kernel_rfl) ?_
                refine gx_thenN ?_
                refine hK63 _ _ ?_
                refine gx_yes (by kernel_rfl) ?_
                refine gx_seq (fun K115 hK116 => ?_)
                refine gx_region ?_
                refine gx_val (.slice none 0 0) w112 (by kernel_rfl) (by kernel_rfl) ?_
                refine gx_val (.int .i64 2) w112 (by kernel_rfl) (by kernel_rfl) ?_
                refine gx_nil ?_
                refine gx_thenN ?_
                refine hK116 _ _ ?_
                refine gx_ret ?_
                refine gx_blkR ?_
                refine gx_thenR ?_
                refine gx_thenR ?_
                refine gx_blkR ?_
                refine gx_thenR ?_
                obtain rfl := Option.some.inj hL54
                try dsimp only at hO46
                have hS117 : St _ _ w112 [poolE ([]) w0, rowE .u8 5 A32 c33 l31, rowE .u8 5 none 0 ([])] := hS113.nilrow .u8 5
                obtain rfl := Option.some.inj hO46
                exact gx_fin (.tuple #[.slice none (([] : List Int).length) 0, .int .i64 2]) (by kernel_rfl) (by kernel_rfl) ⟨_, rfl, none, 0, rfl, (hS117.pick [2] rfl rfl)⟩
            · refine gd1 1 { dst := some 45, op := _, type := _, pos := _, after := _, guard := _ } (.bool false) rfl hS65 (fun w hSw => run_boolE (decide_eq_false h66) (by kernel_rfl)) ?_
              refine gd1 2 { dst := some 46, op := _, type := _, pos := _, after := _, guard := _ } (.bool false) rfl hS65 (fun w hSw => by kernel_rfl) ?_
              refine gd0 3 { dst := some 47, op := _, type := _, pos := _, after := _, guard := _ } rfl hS65 ?_
              refine gd0 4 { dst := some 48, op := _, type := _, pos := _, after := _, guard := _ } rfl hS65 ?_
              refine gd0 5 { dst := some 49, op := _, type := _, pos := _, after := _, guard := _ } rfl hS65 ?_
              refine gd0 6 { dst := some 50, op := _, type := _, pos := _, after := _, guard := _ } rfl hS65 ?_
              refine gd0 7 { dst := some 51, op := _, type := _, pos := _, after := _, guard := _ } rfl hS65 ?_
              refine gd0 8 { dst := some 52, op := _, type := _, pos := _, after := _, guard := _ } rfl hS65 ?_
              refine gd0 9 { dst := some 53, op := _, type := _, pos := _, after := _, guard := _ } rfl hS65 ?_
              refine gd0 10 { dst := some 54, op := _, type := _, pos := _, after := _, guard := _ } rfl hS65 ?_
              refine gd0 11 { dst := some 55, op := _, type := _, pos := _, after := _, guard := _ } rfl hS65 ?_
              refine gd0 12 { dst := some 56, op := _, type := _, pos := _, after := _, guard := _ } rfl hS65 ?_
              refine gd0 13 { dst := some 57, op := _, type := _, pos := _, after := _, guard := _ } rfl hS65 ?_
              refine gd1 14 { dst := some 58, op := _, type := _, pos := _, after := _, guard := _ } (.bool false) rfl hS65 (fun w hSw => by kernel_rfl) ?_
              refine gd_done (by kernel_rfl) ?_
              refine gx_thenN ?_
              refine hK63 _ _ ?_
              refine gx_no (by kernel_rfl) ?_
              refine gx_pass ?_
              refine gx_blkN ?_
              refine gx_thenN ?_
              refine hK61 _ _ ?_
              refine gx_region ?_
              refine gx_val (.int .i64 x52) w64 (by kernel_rfl) (by kernel_rfl) ?_
              refine gx_val (.int .i64 (IntKind.i64.wrap (x52 + 1))) w64 (by kernel_rfl) (by kernel_rfl) ?_
              refine gx_val (.int .i64 (IntKind.i64.wrap (x52 + 1))) w64 (by kernel_rfl) (by kernel_rfl) ?_
              refine gx_nil ?_
              refine gx_thenN ?_
              exact ⟨k53, Nat.lt_succ_self k53, (IntKind.i64.wrap (x52 + 1)), (fun i => List.getD ((u51 0) :: (u51 1) :: (u51 2) :: (.int .i64 x52) :: (.int .i64 ((p0.length : Nat) : Int)) :: (.bool true) :: (.int .i64 x52) :: (.int .i64 (IntKind.i64.wrap (x52 + 1))) :: (.int .i64 x52) :: (.bool false) :: (.bool false) :: undef :: undef :: undef :: undef :: undef :: undef :: undef :: undef :: undef :: undef :: undef :: (.bool false) :: []) i undef), by kernel_rfl, hL54, hS65⟩
          · refine gx_val (.bool false) w49 (by kernel_rfl) (run_boolE (decide_eq_false h59) (by kernel_rfl)) ?_
            refine gx_nil ?_
            refine gx_thenN ?_
            refine hK58 _ _ ?_
            refine gx_no (by kernel_rfl) ?_
            refine gx_exit ?_
            refine gx_thenE ?_
            refine gx_thenE ?_
            refine gx_blkE ?_
            refine gx_thenN ?_
            exact ⟨(fun i => List.getD ((u51 0) :: (u51 1) :: (.int .i64 x52) :: (u51 2) :: (.int .i64 x52) :: (.int .i64 ((p0.length : Nat) : Int)) :: (.bool false) :: (u51 6) :: (u51 7) :: (u51 8) :: (u51 9) :: (u51 10) :: (u51 11) :: (u51 12) :: (u51 13) :: (u51 14) :: (u51 15) :: (u51 16) :: (u51 17) :: (u51 18) :: (u51 19) :: (u51 20) :: (u51 21) :: (u51 22) :: []) i undef), by kernel_rfl, (Option.some.inj hL54), hS50⟩
    · rintro _ w41 ⟨u43, rfl, rfl, hS42⟩
      try dsimp only at hO46
      obtain ⟨c129, hE130, hO131⟩ := bind_in hO46
      refine gx_cut (fun a w => ∃ (x121 : Int) (l124 : List Int) (l127 : List Int) (x128 : Int) (A122 : Option Addr) (c123 : Nat) (A125 : Option Addr) (c126 : Nat) (u120 : Nat → Value), a = ⟨((u120 0) :: (u120 1) :: undef :: undef :: (u120 2) :: (u120 3) :: (.int .i64 ((p0.length : Nat) : Int)) :: (.int .i64 x121) :: (.slice A122 l124.length c123) :: (.slice A125 l127.length c126) :: (.int .i64 x128) :: (u43 2) :: (u120 4) :: (u120 5) :: (u120 6) :: undef :: undef :: undef :: undef :: undef :: (u7 2) :: (.int .i64 ((p0.length : Nat) : Int)) :: (u7 3) :: (u7 4) :: (u7 5) :: (u7 6) :: (u7 7) :: (u7 8) :: (u7 9) :: (u7 10) :: (u7 11) :: (u7 12) :: (u7 13) :: (u7 14) :: (.int .i64 ((p0.length : Nat) : Int)) :: (.int .i64 (IntKind.i64.wrap ((16 : Int) * ((p0.length : Nat) : Int)))) :: (.int .i64 (IntKind.i64.wrap ((12 : Int) + (IntKind.i64.wrap ((16 : Int) * ((p0.length : Nat) : Int)))))) :: (.int .i64 ((p0.length : Nat) : Int)) :: (u43 3) :: (u43 4) :: (u43 5) :: (u43 6) :: (u43 7) :: (u43 8) :: (u43 9) :: (u43 10) :: (u43 11) :: (u43 12) :: (u43 13) :: (u43 14) :: (u43 15) :: (u43 16) :: (u43 17) :: (u43 18) :: (u43 19) :: (u43 20) :: (u43 21) :: (u43 22) :: (u43 23) :: (u120 7) :: (u120 8) :: (u120 9) :: (u120 10) :: (u120 11) :: (u120 12) :: (u120 13) :: (u120 14) :: (u120 15) :: (u120 16) :: (u120 17) :: (u120 18) :: (u120 19) :: (u120 20) :: (u120 21) :: (u120 22) :: (u120 23) :: (u120 24) :: (u120 25) :: (u120 26) :: (u120 27) :: (u120 28) :: (u120 29) :: (u120 30) :: (u120 31) :: (u120 32) :: (u120 33) :: (u120 34) :: (u120 35) :: (u120 36) :: (u120 37) :: (u120 38) :: (u120 39) :: (u120 40) :: (u120 41) :: (u120 42) :: (u120 43) :: (u120 44) :: (u120 45) :: (u120 46) :: (u120 47) :: (u120 48) :: (u120 49) :: (u120 50) :: (u120 51) :: (u120 52) :: (u120 53) :: (u120 54) :: (u120 55) :: (u120 56) :: (u120 57) :: (u120 58) :: (u120 59) :: (u120 60) :: (u120 61) :: (u120 62) :: (u120 63) :: (u120 64) :: (u120 65) :: (u120 66) :: (u120 67) :: (u120 68) :: (u120 69) :: (u120 70) :: (u120 71) :: (u120 72) :: (u120 73) :: (u120 74) :: (u120 75) :: (u120 76) :: (u120 77) :: (u120 78) :: (u120 79) :: (u120 80) :: (u120 81) :: (u120 82) :: (u120 83) :: (u120 84) :: (u120 85) :: (u120 86) :: (u120 87) :: (u120 88) :: (u120 89) :: (u120 90) :: (u120 91) :: (u120 92) :: (u120 93) :: (u120 94) :: (u120 95) :: (u120 96) :: (u120 97) :: (u120 98) :: (u120 99) :: (u120 100) :: (u120 101) :: (u120 102) :: (u120 103) :: (u120 104) :: undef :: undef :: undef :: undef :: undef :: undef :: undef :: undef :: undef :: undef :: undef :: undef :: undef :: undef :: undef :: undef :: undef :: undef :: undef :: undef :: undef :: undef :: undef :: undef :: undef :: undef :: undef :: undef :: undef :: undef :: undef :: undef :: undef :: undef :: undef :: undef :: undef :: undef :: undef :: []).toArray, []⟩ ∧ Ctl.go (x121, l124, l127, x128) = c129 ∧ St [] w0 w [poolE ([]) w0, rowE .u8 5 A122 c123 l124, rowE .u8 5 A125 c126 l127]) ?_ ?_
      · refine gx_seq (fun K132 hK133 => ?_)
        refine gx_region ?_
        refine gx_val (.int .i64 0) w41 (by kernel_rfl) (by kernel_rfl) ?_
        refine gx_nil ?_
        refine gx_thenN ?_
        refine hK133 _ _ ?_
        refine gx_block ?_
        have hS134 : St _ _ w41 [poolE ([]) w0, rowE .u8 5 A32 c33 l31, rowE .u8 5 none 0 ([])] := hS42.nilrow .u8 5
        refine gx_loop (fun k a w => ∃ (x138 : Int) (l141 : List Int) (l144 : List Int) (x145 : Int) (x146 : Int) (A139 : Option Addr) (c140 : Nat) (A142 : Option Addr) (c143 : Nat) (u137 : Nat → Value), a = ⟨((.slice A0 p0.length c0) :: (.slice A1 p1.length c1) :: undef :: undef :: (u137 0) :: (u137 1) :: (.int .i64 ((p0.length : Nat) : Int)) :: (.int .i64 x138) :: (.slice A139 l141.length c140) :: (.slice A142 l144.length c143) :: (.int .i64 x145) :: (u43 2) :: (.int .i64 x146) :: (u137 2) :: (u137 3) :: undef :: undef :: undef :: undef :: undef :: (u7 2) :: (.int .i64 ((p0.length : Nat) : Int)) :: (u7 3) :: (u7 4) :: (u7 5) :: (u7 6) :: (u7 7) :: (u7 8) :: (u7 9) :: (u7 10) :: (u7 11) :: (u7 12) :: (u7 13) :: (u7 14) :: (.int .i64 ((p0.length : Nat) : Int)) :: (.int .i64 (IntKind.i64.wrap ((16 : Int) * ((p0.length : Nat) : Int)))) :: (.int .i64 (IntKind.i64.wrap ((12 : Int) + (IntKind.i64.wrap ((16 : Int) * ((p0.length : Nat) : Int)))))) :: (.int .i64 ((p0.length : Nat) : Int)) :: (u43 3) :: (u43 4) :: (u43 5) :: (u43 6) :: (u43 7) :: (u43 8) :: (u43 9) :: (u43 10) :: (u43 11) :: (u43 12) :: (u43 13) :: (u43 14) :: (u43 15) :: (u43 16) :: (u43 17) :: (u43 18) :: (u43 19) :: (u43 20) :: (u43 21) :: (u43 22) :: (u43 23) :: (u137 4) :: (u137 5) :: (u137 6) :: (u137 7) :: (u137 8) :: (u137 9) :: (u137 10) :: (u137 11) :: (u137 12) :: (u137 13) :: (u137 14) :: (u137 15) :: (u137 16) :: (u137 17) :: (u137 18) :: (u137 19) :: (u137 20) :: (u137 21) :: (u137 22) :: (u137 23) :: (u137 24) :: (u137 25) :: (u137 26) :: (u137 27) :: (u137 28) :: (u137 29) :: (u137 30) :: (u137 31) :: (u137 32) :: (u137 33) :: (u137 34) :: (u137 35) :: (u137 36) :: (u137 37) :: (u137 38) :: (u137 39) :: (u137 40) :: (u137 41) :: (u137 42) :: (u137 43) :: (u137 44) :: (u137 45) :: (u137 46) :: (u137 47) :: (u137 48) :: (u137 49) :: (u137 50) :: (u137 51) :: (u137 52) :: (u137 53) :: (u137 54) :: (u137 55) :: (u137 56) :: (u137 57) :: (u137 58) :: (u137 59) :: (u137 60) :: (u137 61) :: (u137 62) :: (u137 63) :: (u137 64) :: (u137 65) :: (u137 66) :: (u137 67) :: (u137 68) :: (u137 69) :: (u137 70) :: (u137 71) :: (u137 72) :: (u137 73) :: (u137 74) :: (u137 75) :: (u137 76) :: (u137 77) :: (u137 78) :: (u137 79) :: (u137 80) :: (u137 81) :: (u137 82) :: (u137 83) :: (u137 84) :: (u137 85) :: (u137 86) :: (u137 87) :: (u137 88) :: (u137 89) :: (u137 90) :: (u137 91) :: (u137 92) :: (u137 93) :: (u137 94) :: (u137 95) :: (u137 96) :: (u137 97) :: (u137 98) :: (u137 99) :: (u137 100) :: (u137 101) :: undef :: undef :: undef :: undef :: undef :: undef :: undef :: undef :: undef :: undef :: undef :: undef :: undef :: undef :: undef :: undef :: undef :: undef :: undef :: undef :: undef :: undef :: undef :: undef :: undef :: undef :: undef :: undef :: undef :: undef :: undef :: undef :: undef :: undef :: undef :: undef :: undef :: undef :: undef :: []).toArray, []⟩ ∧ rJoin_L2 N p0 p1 k x138 l141 l144 x145 x146 = some c129 ∧ St [] w0 w [poolE ([]) w0, rowE .u8 5 A139 c140 l141, rowE .u8 5 A142 c143 l144]) N ?_ ?_
        · exact ⟨(IntKind.i64.wrap ((12 : Int) + (IntKind.i64.wrap ((16 : Int) * ((p0.length : Nat) : Int))))), l31, ([]), (-1), 0, A32, c33, none, 0, (fun i => List.getD ((u43 0) :: (u43 1) :: undef :: undef :: undef :: undef :: undef :: undef :: undef :: undef :: undef :: undef :: undef :: undef :: undef :: undef :: undef :: undef :: undef :: undef :: undef :: undef :: undef :: undef :: undef :: undef :: undef :: undef :: undef :: undef :: undef :: undef :: undef :: undef :: undef :: undef :: undef :: undef :: undef :: undef :: undef :: undef :: undef :: undef :: undef :: undef :: undef :: undef :: undef :: undef :: undef :: undef :: undef :: undef :: undef :: undef :: undef :: undef :: undef :: undef :: undef :: undef :: undef :: undef :: undef :: undef :: undef :: undef :: undef :: undef :: undef :: undef :: undef :: undef :: undef :: undef :: undef :: undef :: undef :: undef :: undef :: undef :: undef :: undef :: undef :: undef :: undef :: undef :: undef :: undef :: undef :: undef :: undef :: undef :: undef :: undef :: undef :: undef :: undef :: undef :: undef :: undef :: []) i undef), by kernel_rfl, hE130, hS134⟩
        · rintro k147 _ w135 ⟨x138, l141, l144, x145, x146, A139, c140, A142, c143, u137, rfl, hL148, hS136⟩
          cases k147 with
          | zero => cases hL148
          | succ k147 =>
            rw [rJoin_L2] at hL148
            refine gx_seq (fun K149 hK150 => ?_)
            refine gx_seq (fun K151 hK152 => ?_)
            refine gx_region ?_
            refine gx_val (.int .i64 x146) w135 (by kernel_rfl) (by kernel_rfl) ?_
            refine gx_val (.int .i64 ((p0.length : Nat) : Int)) w135 (by kernel_rfl) (by kernel_rfl) ?_
            rcases if_in hL148 with ⟨h153, hL148⟩ | ⟨h153, hL148⟩
            · refine gx_val (.bool true) w135 (by kernel_rfl) (run_boolE (decide_eq_true h153) (by kernel_rfl)) ?_
              refine gx_nil ?_
              refine gx_thenN ?_
              refine hK152 _ _ ?_
              refine gx_yes (by kernel_rfl) ?_
              refine gx_pass ?_
              refine gx_thenN ?_
              refine hK150 _ _ ?_
              obtain ⟨c165, hE166, hO167⟩ := bind_in hL148
              refine gx_cut (fun a w => ∃ (x157 : Int) (l160 : List Int) (l163 : List Int) (x164 : Int) (A158 : Option Addr) (c159 : Nat) (A161 : Option Addr) (c162 : Nat) (u156 : Nat → Value), a = ⟨((.slice A0 p0.length c0) :: (.slice A1 p1.length c1) :: undef :: undef :: (u156 0) :: (u156 1) :: (.int .i64 ((p0.length : Nat) : Int)) :: (.int .i64 x157) :: (.slice A158 l160.length c159) :: (.slice A161 l163.length c162) :: (.int .i64 x164) :: (u43 2) :: (.int .i64 x146) :: (u156 2) :: (u156 3) :: undef :: undef :: undef :: undef :: undef :: (u7 2) :: (.int .i64 ((p0.length : Nat) : Int)) :: (u7 3) :: (u7 4) :: (u7 5) :: (u7 6) :: (u7 7) :: (u7 8) :: (u7 9) :: (u7 10) :: (u7 11) :: (u7 12) :: (u7 13) :: (u7 14) :: (.int .i64 ((p0.length : Nat) : Int)) :: (.int .i64 (IntKind.i64.wrap ((16 : Int) * ((p0.length : Nat) : Int)))) :: (.int .i64 (IntKind.i64.wrap ((12 : Int) + (IntKind.i64.wrap ((16 : Int) * ((p0.length : Nat) : Int)))))) :: (.int .i64 ((p0.length : Nat) : Int)) :: (u43 3) :: (u43 4) :: (u43 5) :: (u43 6) :: (u43 7) :: (u43 8) :: (u43 9) :: (u43 10) :: (u43 11) :: (u43 12) :: (u43 13) :: (u43 14) :: (u43 15) :: (u43 16) :: (u43 17) :: (u43 18) :: (u43 19) :: (u43 20) :: (u43 21) :: (u43 22) :: (u43 23) :: (.int .i64 x146) :: (.int .i64 ((p0.length : Nat) : Int)) :: (.bool true) :: (u137 7) :: (u137 8) :: (u156 4) :: (u156 5) :: (u156 6) :: (u156 7) :: (u156 8) :: (u156 9) :: (u156 10) :: (u156 11) :: (u156 12) :: (u156 13) :: (u156 14) :: (u156 15) :: (u156 16) :: (u156 17) :: (u156 18) :: (u156 19) :: (u156 20) :: (u156 21) :: (u156 22) :: (u156 23) :: (u156 24) :: (u156 25) :: (u156 26) :: (u156 27) :: (u156 28) :: (u156 29) :: (u156 30) :: (u156 31) :: (u156 32) :: (u156 33) :: (u156 34) :: (u156 35) :: (u156 36) :: (u156 37) :: (u156 38) :: (u156 39) :: (u156 40) :: (u156 41) :: (u156 42) :: (u156 43) :: (u156 44) :: (u156 45) :: (u156 46) :: (u156 47) :: (u156 48) :: (u156 49) :: (u156 50) :: (u156 51) :: (u156 52) :: (u156 53) :: (u156 54) :: (u156 55) :: (u156 56) :: (u156 57) :: (u156 58) :: (u156 59) :: (u156 60) :: (u156 61) :: (u156 62) :: (u156 63) :: (u156 64) :: (u156 65) :: (u156 66) :: (u156 67) :: (u156 68) :: (u156 69) :: (u156 70) :: (u156 71) :: (u156 72) :: (u156 73) :: (u156 74) :: (u156 75) :: (u156 76) :: (u156 77) :: (u156 78) :: (u156 79) :: (u156 80) :: (u156 81) :: (u156 82) :: (u156 83) :: (u156 84) :: (u156 85) :: (u156 86) :: (u156 87) :: (u156 88) :: (u156 89) :: (u156 90) :: (u156 91) :: (u156 92) :: (u156 93) :: (u156 94) :: (u156 95) :: (u156 96) :: undef :: undef :: undef :: undef :: undef :: undef :: undef :: undef :: undef :: undef :: undef :: undef :: undef :: undef :: undef :: undef :: undef :: undef :: undef :: undef :: undef :: undef :: undef :: undef :: undef :: undef :: undef :: undef :: undef :: undef :: undef :: undef :: undef :: undef :: undef :: undef :: undef :: undef :: undef :: []).toArray, []⟩ ∧ Ctl.go (x157, l160, l163, x164) = c165 ∧ St [] w0 w [poolE ([]) w0, rowE .u8 5 A158 c159 l160, rowE .u8 5 A161 c162 l163]) ?_ ?_
              · refine gx_block ?_
                obtain ⟨c171, hE172, hO173⟩ := bind_in hE166
                refine gx_cut (fun a w => ∃ (u170 : Nat → Value), a = ⟨((.slice A0 p0.length c0) :: (.slice A1 p1.length c1) :: undef :: undef :: (u170 0) :: (u170 1) :: (.int .i64 ((p0.length : Nat) : Int)) :: (.int .i64 x138) :: (.slice A139 l141.length c140) :: (.slice A142 l144.length c143) :: (.int .i64 x145) :: (u43 2) :: (.int .i64 x146) :: (u137 2) :: (u137 3) :: undef :: undef :: undef :: undef :: undef :: (u7 2) :: (.int .i64 ((p0.length : Nat) : Int)) :: (u7 3) :: (u7 4) :: (u7 5) :: (u7 6) :: (u7 7) :: (u7 8) :: (u7 9) :: (u7 10) :: (u7 11) :: (u7 12) :: (u7 13) :: (u7 14) :: (.int .i64 ((p0.length : Nat) : Int)) :: (.int .i64 (IntKind.i64.wrap ((16 : Int) * ((p0.length : Nat) : Int)))) :: (.int .i64 (IntKind.i64.wrap ((12 : Int) + (IntKind.i64.wrap ((16 : Int) * ((p0.length : Nat) : Int)))))) :: (.int .i64 ((p0.length : Nat) : Int)) :: (u43 3) :: (u43 4) :: (u43 5) :: (u43 6) :: (u43 7) :: (u43 8) :: (u43 9) :: (u43 10) :: (u43 11) :: (u43 12) :: (u43 13) :: (u43 14) :: (u43 15) :: (u43 16) :: (u43 17) :: (u43 18) :: (u43 19) :: (u43 20) :: (u43 21) :: (u43 22) :: (u43 23) :: (.int .i64 x146) :: (.int .i64 ((p0.length : Nat) : Int)) :: (.bool true) :: (u137 7) :: (u137 8) :: (u170 2) :: (u170 3) :: (u170 4) :: (u170 5) :: (u170 6) :: (u170 7) :: (u170 8) :: (u170 9) :: (u170 10) :: (u170 11) :: (u137 19) :: (u137 20) :: (u137 21) :: (u137 22) :: (u137 23) :: (u137 24) :: (u137 25) :: (u137 26) :: (u137 27) :: (u137 28) :: (u137 29) :: (u137 30) :: (u137 31) :: (u137 32) :: (u137 33) :: (u137 34) :: (u137 35) :: (u137 36) :: (u137 37) :: (u137 38) :: (u137 39) :: (u137 40) :: (u137 41) :: (u137 42) :: (u137 43) :: (u137 44) :: (u137 45) :: (u137 46) :: (u137 47) :: (u137 48) :: (u137 49) :: (u137 50) :: (u137 51) :: (u137 52) :: (u137 53) :: (u137 54) :: (u137 55) :: (u137 56) :: (u137 57) :: (u137 58) :: (u137 59) :: (u137 60) :: (u137 61) :: (u137 62) :: (u137 63) :: (u137 64) :: (u137 65) :: (u137 66) :: (u137 67) :: (u137 68) :: (u137 69) :: (u137 70) :: (u137 71) :: (u137 72) :: (u137 73) :: (u137 74) :: (u137 75) :: (u137 76) :: (u137 77) :: (u137 78) :: (u137 79) :: (u137 80) :: (u137 81) :: (u137 82) :: (u137 83) :: (u137 84) :: (u137 85) :: (u137 86) :: (u137 87) :: (u137 88) :: (u137 89) :: (u137 90) :: (u137 91) :: (u137 92) :: (u137 93) :: (u137 94) :: (u137 95) :: (u137 96) :: (u137 97) :: (u137 98) :: (u137 99) :: (u137 100) :: (u137 101) :: undef :: undef :: undef :: undef :: undef :: undef :: undef :: undef :: undef :: undef :: undef :: undef :: undef :: undef :: undef :: undef :: undef :: undef :: undef :: undef :: undef :: undef :: undef :: undef :: undef :: undef :: undef :: undef :: undef :: undef :: undef :: undef :: undef :: undef :: undef :: undef :: undef :: undef :: undef :: []).toArray, []⟩ ∧ Ctl.go () = c171 ∧ St [] w0 w [poolE ([]) w0, rowE .u8 5 A139 c140 l141, rowE .u8 5 A142 c143 l144]) ?_ ?_
                · refine gx_seq (fun K174 hK175 => ?_)
                  refine gx_region ?_
                  refine gx_val (.slice A1 p1.length c1) w135 (by kernel_rfl) (by kernel_rfl) ?_
                  refine gx_val (.int .i64 x146) w135 (by kernel_rfl) (by kernel_rfl) ?_
                  obtain ⟨x176, hx177, hE172⟩ := bind_in hE172
                  obtain ⟨g178, o179, e180, hA181, he182, h183, ha184⟩ := elem_at (e := (rowOf (intE .u8))) (sl_lies (hS136.inn ho1 hv1)) (sl_each hv1) hx177 (by decide)
                  obtain ⟨A185, c186, vs187, rfl, hf188⟩ := h183
                  have ha184 : ∀ w', Lies w' A1 vs1 → w'.rangeAt g178 o179 [.slice A185 x176.length c186] := ha184
                  refine gx_val (.pointer (some ⟨g178, o179, none⟩)) w135 (by kernel_rfl) (run_ixaddrN (E := 22) (s := 1) (k := .i64) (c := c1) rfl (by kernel_rfl) (by kernel_rfl) (by kernel_rfl) (fun _ => by kernel_rfl) (ixg_in hx177).1 (ixg_in hx177).2.1 hA181) ?_
                  refine gx_val (.slice A185 x176.length c186) w135 (by kernel_rfl) (run_loadN1 0 rfl (by kernel_rfl) (fun _ => by kernel_rfl) (ha184 _ (sl_lies (hS136.inn ho1 hv1))) rfl) ?_
                  refine gx_val (.int .i64 ((x176.length : Nat) : Int)) w135 (by kernel_rfl) (by kernel_rfl) ?_
                  rcases if_in hE172 with ⟨h189, hE172⟩ | ⟨h189, hE172⟩
                  · refine gx_val (.bool true) w135 (by kernel_rfl) (run_boolE (decide_eq_true h189) (by kernel_rfl)) ?_
                    refine gx_val (.bool true) w135 (by kernel_rfl) (by kernel_rfl) ?_
                    refine gx_off (by kernel_rfl) ?_
                    refine gx_off (by kernel_rfl) ?_
                    refine gx_val (.bool true) w135 (by kernel_rfl) (by kernel_rfl) ?_
                    refine gx_nil ?_
                    refine gx_thenN ?_
                    refine hK175 _ _ ?_
                    refine gx_yes (by kernel_rfl) ?_
                    refine gx_seq (fun K190 hK191 => ?_)
                    refine gx_region ?_
                    refine gx_val (.slice none 0 0) w135 (by kernel_rfl) (by kernel_rfl) ?_
                    refine gx_val (.int .i64 3) w135 (by kernel_rfl) (by kernel_rfl) ?_
                    refine gx_nil ?_
                    refine gx_thenN ?_
                    refine hK191 _ _ ?_
                    refine gx_ret ?_
                    refine gx_thenR ?_
                    obtain rfl := Option.some.inj hE172
                    try dsimp only at hO173
                    refine gx_blkR ?_
                    refine gx_thenR ?_
                    obtain rfl := Option.some.inj hO173
                    try dsimp only at hO167
                    refine gx_thenR ?_
                    refine gx_blkR ?_
                    refine gx_thenR ?_
                    obtain rfl := Option.some.inj hO167
                    try dsimp only at hO131
                    have hS192 : St _ _ w135 [poolE ([]) w0, rowE .u8 5 A139 c140 l141, rowE .u8 5 A142 c143 l144, rowE .u8 5 none 0 ([])] := hS136.nilrow .u8 5
                    obtain rfl := Option.some.inj hO131
                    exact gx_fin (.tuple #[.slice none (([] : List Int).length) 0, .int .i64 3]) (by kernel_rfl) (by kernel_rfl) ⟨_, rfl, none, 0, rfl, (hS192.pick [3] rfl rfl)⟩
                  · refine gx_val (.bool false) w135 (by kernel_rfl) (run_boolE (decide_eq_false h189) (by kernel_rfl)) ?_
                    refine gx_val (.bool false) w135 (by kernel_rfl) (by kernel_rfl) ?_
                    refine gx_val (.int .i64 x138) w135 (by kernel_rfl) (by kernel_rfl) ?_
                    rcases if_in hE172 with ⟨h193, hE172⟩ | ⟨h193, hE172⟩
                    · refine gx_val (.bool true) w135 (by kernel_rfl) (run_boolE (decide_eq_true h193) (by kernel_rfl)) ?_
                      refine gx_val (.bool true) w135 (by kernel_rfl) (by kernel_rfl) ?_
                      refine gx_nil ?_
                      refine gx_thenN ?_
                      refine hK175 _ _ ?_
                      refine gx_yes (by kernel_rfl) ?_
                      refine gx_seq (fun K194 hK195 => ?_)
                      refine gx_region ?_
                      refine gx_val (.slice none 0 0) w135 (by kernel_rfl) (by kernel_rfl) ?_
                      refine gx_val (.int .i64 3) w135 (by kernel_rfl) (by kernel_rfl) ?_
                      refine gx_nil ?_
                      refine gx_thenN ?_
                      refine hK195 _ _ ?_
                      refine gx_ret ?_
                      refine gx_thenR ?_
                      obtain rfl := Option.some.inj hE172
                      try dsimp only at hO173
                      refine gx_blkR ?_
                      refine gx_thenR ?_
                      obtain rfl := Option.some.inj hO173
                      try dsimp only at hO167
                      refine gx_thenR ?_
                      refine gx_blkR ?_
                      refine gx_thenR ?_
                      obtain rfl := Option.some.inj hO167
                      try dsimp only at hO131
                      have hS196 : St _ _ w135 [poolE ([]) w0, rowE .u8 5 A139 c140 l141, rowE .u8 5 A142 c143 l144, rowE .u8 5 none 0 ([])] := hS136.nilrow .u8 5
                      obtain rfl := Option.some.inj hO131
                      exact gx_fin (.tuple #[.slice none (([] : List Int).length) 0, .int .i64 3]) (by kernel_rfl) (by kernel_rfl) ⟨_, rfl, none, 0, rfl, (hS196.pick [3] rfl rfl)⟩
                    · refine gx_val (.bool false) w135 (by kernel_rfl) (run_boolE (decide_eq_false h193) (by kernel_rfl)) ?_
                      refine gx_val (.bool false) w135 (by kernel_rfl) (by kernel_rfl) ?_
                      refine gx_nil ?_
                      refine gx_thenN ?_
                      refine hK175 _ _ ?_
                      refine gx_no (by kernel_rfl) ?_
                      refine gx_pass ?_
                      refine gx_thenN ?_
                      exact ⟨(fun i => List.getD ((u137 0) :: (u137 1) :: (.slice A1 p1.length c1) :: (.int .i64 x146) :: (.pointer (some ⟨g178, o179, none⟩)) :: (.slice A185 x176.length c186) :: (.int .i64 ((x176.length : Nat) : Int)) :: (.bool false) :: (.bool false) :: (.int .i64 x138) :: (.bool false) :: (.bool false) :: []) i undef), by kernel_rfl, (Option.some.inj hE172), hS136⟩
                · rintro _ w168 ⟨u170, rfl, rfl, hS169⟩
                  try dsimp only at hO173
                  obtain ⟨c201, hE202, hO203⟩ := bind_in hO173
                  refine gx_cut (fun a w => ∃ (x200 : Int) (u199 : Nat → Value), a = ⟨((.slice A0 p0.length c0) :: (.slice A1 p1.length c1) :: undef :: undef :: (u170 0) :: (u170 1) :: (.int .i64 ((p0.length : Nat) : Int)) :: (.int .i64 x138) :: (.slice A139 l141.length c140) :: (.slice A142 l144.length c143) :: (.int .i64 x200) :: (u43 2) :: (.int .i64 x146) :: (u137 2) :: (u137 3) :: undef :: undef :: undef :: undef :: undef :: (u7 2) :: (.int .i64 ((p0.length : Nat) : Int)) :: (u7 3) :: (u7 4) :: (u7 5) :: (u7 6) :: (u7 7) :: (u7 8) :: (u7 9) :: (u7 10) :: (u7 11) :: (u7 12) :: (u7 13) :: (u7 14) :: (.int .i64 ((p0.length : Nat) : Int)) :: (.int .i64 (IntKind.i64.wrap ((16 : Int) * ((p0.length : Nat) : Int)))) :: (.int .i64 (IntKind.i64.wrap ((12 : Int) + (IntKind.i64.wrap ((16 : Int) * ((p0.length : Nat) : Int)))))) :: (.int .i64 ((p0.length : Nat) : Int)) :: (u43 3) :: (u43 4) :: (u43 5) :: (u43 6) :: (u43 7) :: (u43 8) :: (u43 9) :: (u43 10) :: (u43 11) :: (u43 12) :: (u43 13) :: (u43 14) :: (u43 15) :: (u43 16) :: (u43 17) :: (u43 18) :: (u43 19) :: (u43 20) :: (u43 21) :: (u43 22) :: (u43 23) :: (.int .i64 x146) :: (.int .i64 ((p0.length : Nat) : Int)) :: (.bool true) :: (u137 7) :: (u137 8) :: (u170 2) :: (u170 3) :: (u170 4) :: (u170 5) :: (u170 6) :: (u170 7) :: (u170 8) :: (u170 9) :: (u170 10) :: (u170 11) :: (u199 0) :: (u199 1) :: (u199 2) :: (u199 3) :: (u199 4) :: (u199 5) :: (u199 6) :: (u199 7) :: (u199 8) :: (u199 9) :: (u199 10) :: (u199 11) :: (u199 12) :: (u199 13) :: (u199 14) :: (u137 34) :: (u137 35) :: (u137 36) :: (u137 37) :: (u137 38) :: (u137 39) :: (u137 40) :: (u137 41) :: (u137 42) :: (u137 43) :: (u137 44) :: (u137 45) :: (u137 46) :: (u137 47) :: (u137 48) :: (u137 49) :: (u137 50) :: (u137 51) :: (u137 52) :: (u137 53) :: (u137 54) :: (u137 55) :: (u137 56) :: (u137 57) :: (u137 58) :: (u137 59) :: (u137 60) :: (u137 61) :: (u137 62) :: (u137 63) :: (u137 64) :: (u137 65) :: (u137 66) :: (u137 67) :: (u137 68) :: (u137 69) :: (u137 70) :: (u137 71) :: (u137 72) :: (u137 73) :: (u137 74) :: (u137 75) :: (u137 76) :: (u137 77) :: (u137 78) :: (u137 79) :: (u137 80) :: (u137 81) :: (u137 82) :: (u137 83) :: (u137 84) :: (u137 85) :: (u137 86) :: (u137 87) :: (u137 88) :: (u137 89) :: (u137 90) :: (u137 91) :: (u137 92) :: (u137 93) :: (u137 94) :: (u137 95) :: (u137 96) :: (u137 97) :: (u137 98) :: (u137 99) :: (u137 100) :: (u137 101) :: undef :: undef :: undef :: undef :: undef :: undef :: undef :: undef :: undef :: undef :: undef :: undef :: undef :: undef :: undef :: undef :: undef :: undef :: undef :: undef :: undef :: undef :: undef :: undef :: undef :: undef :: undef :: undef :: undef :: undef :: undef :: undef :: undef :: undef :: undef :: undef :: undef :: undef :: undef :: []).toArray, []⟩ ∧ x200 = c201 ∧ St [] w0 w [poolE ([]) w0, rowE .u8 5 A139 c140 l141, rowE .u8 5 A142 c143 l144]) ?_ ?_
                  · refine gx_seq (fun K204 hK205 => ?_)
                    refine gx_region ?_
                    refine gx_val (.slice A0 p0.length c0) w168 (by kernel_rfl) (by kernel_rfl) ?_
                    refine gx_val (.int .i64 x146) w168 (by kernel_rfl) (by kernel_rfl) ?_
                    obtain ⟨x206, hx207, hE202⟩ := bind_in hE202
                    obtain ⟨g208, o209, e210, hA211, he212, h213, ha214⟩ := elem_at (e := encapiTag) (sl_lies (hS169.inn ho0 hv0)) (sl_each hv0) hx207 (by decide)
                    obtain ⟨e215, e216, rfl, h217, h218⟩ := h213
                    obtain rfl := h217
                    obtain ⟨e219, e220, rfl, h221, h222⟩ := h218
                    obtain rfl := h221
                    obtain ⟨e223, e224, rfl, h225, h226⟩ := h222
                    obtain rfl := h225
                    obtain rfl := h226
                    have ha214 : ∀ w', Lies w' A0 vs0 → w'.rangeAt g208 o209 [.int .u8 x206.1, .int .u8 x206.2.1, .int .u8 x206.2.2.1, .int .u8 x206.2.2.2] := ha214
                    refine gx_val (.pointer (some ⟨g208, o209, none⟩)) w168 (by kernel_rfl) (run_ixaddrN (E := 39) (s := 4) (k := .i64) (c := c0) rfl (by kernel_rfl) (by kernel_rfl) (by kernel_rfl) (fun _ => by kernel_rfl) (ixg_in hx207).1 (ixg_in hx207).2.1 hA211) ?_
                    refine gx_val (.agg #[.int .u8 x206.1, .int .u8 x206.2.1, .int .u8 x206.2.2.1, .int .u8 x206.2.2.2]) w168 (by kernel_rfl) (run_loadNG (d := _) (ec := [.int .u8 x206.1, .int .u8 x206.2.1, .int .u8 x206.2.2.1, .int .u8 x206.2.2.2]) rfl (by kernel_rfl) (ha214 _ (sl_lies (hS169.inn ho0 hv0))) rfl rfl (by kernel_rfl)) ?_
                    have hP227 : St _ _ w168 ([] ++ [poolE ([]) w0, rowE .u8 5 A139 c140 l141, rowE .u8 5 A142 c143 l144]) := hS169
                    obtain ⟨b229, hc228, hE202⟩ := bind_in hE202
                    try dsimp only at hE202
                    refine gx_call (hIsHead_R b229 w168) (by kernel_rfl) (by kernel_rfl) (hIsHead_ok N x206.1 x206.2.1 x206.2.2.1 x206.2.2.2 _ hc228 w168 ) ?_
                    rintro _ w230 ⟨rfl, hT232⟩
                    have hS231 : St _ _ w230 [poolE ([]) w0, rowE .u8 5 A139 c140 l141, rowE .u8 5 A142 c143 l144] := hS169.take _ hT232
                    refine gx_val (.bool b229) w230 (by kernel_rfl) (by kernel_rfl) ?_
                    cases b229 with
                    | true =>
                      try dsimp only at hE202
                      refine gx_val (.slice A1 p1.length c1) w230 (by kernel_rfl) (by kernel_rfl) ?_
                      refine gx_val (.int .i64 x146) w230 (by kernel_rfl) (by kernel_rfl) ?_
                      obtain ⟨x233, hx234, hE202⟩ := bind_in hE202
                      obtain ⟨g235, o236, e237, hA238, he239, h240, ha241⟩ := elem_at (e := (rowOf (intE .u8))) (sl_lies (hS231.inn ho1 hv1)) (sl_each hv1) hx234 (by decide)
                      obtain ⟨A242, c243, vs244, rfl, hf245⟩ := h240
                      have ha241 : ∀ w', Lies w' A1 vs1 → w'.rangeAt g235 o236 [.slice A242 x233.length c243] := ha241
                      refine gx_val (.pointer (some ⟨g235, o236, none⟩)) w230 (by kernel_rfl) (run_ixaddrN (E := 22) (s := 1) (k := .i64) (c := c1) rfl (by kernel_rfl) (by kernel_rfl) (by kernel_rfl) (fun _ => by kernel_rfl) (ixg_in hx234).1 (ixg_in hx234).2.1 hA238) ?_
                      refine gx_val (.slice A242 x233.length c243) w230 (by kernel_rfl) (run_loadN1 0 rfl (by kernel_rfl) (fun _ => by kernel_rfl) (ha241 _ (sl_lies (hS231.inn ho1 hv1))) rfl) ?_
                      refine gx_val (.int .i64 ((x233.length : Nat) : Int)) w230 (by kernel_rfl) (by kernel_rfl) ?_
                      rcases if_in hE202 with ⟨h246, hE202⟩ | ⟨h246, hE202⟩
                      · refine gx_val (.bool true) w230 (by kernel_rfl) (run_boolE (decide_eq_true h246) (by kernel_rfl)) ?_
                        refine gx_val (.bool true) w230 (by kernel_rfl) (by kernel_rfl) ?_
                        refine gx_nil ?_
                        refine gx_thenN ?_
                        refine hK205 _ _ ?_
                        refine gx_yes (by kernel_rfl) ?_
                        refine gx_region ?_
                        refine gx_val (.int .i64 x138) w230 (by kernel_rfl) (by kernel_rfl) ?_
                        refine gx_val (.int .i64 (IntKind.i64.wrap (x138 + 8))) w230 (by kernel_rfl) (by kernel_rfl) ?_
                        refine gx_val (.int .i64 (IntKind.i64.wrap (x138 + 8))) w230 (by kernel_rfl) (by kernel_rfl) ?_
                        refine gx_nil ?_
                        refine gx_thenN ?_
                        exact ⟨(IntKind.i64.wrap (x138 + 8)), (fun i => List.getD ((.slice A0 p0.length c0) :: (.int .i64 x146) :: (.pointer (some ⟨g208, o209, none⟩)) :: (.agg #[.int .u8 x206.1, .int .u8 x206.2.1, .int .u8 x206.2.2.1, .int .u8 x206.2.2.2]) :: (.bool true) :: (.bool true) :: (.slice A1 p1.length c1) :: (.int .i64 x146) :: (.pointer (some ⟨g235, o236, none⟩)) :: (.slice A242 x233.length c243) :: (.int .i64 ((x233.length : Nat) : Int)) :: (.bool true) :: (.bool true) :: (.int .i64 x138) :: (.int .i64 (IntKind.i64.wrap (x138 + 8))) :: []) i undef), by kernel_rfl, (Option.some.inj hE202), hS231⟩
                      · refine gx_val (.bool false) w230 (by kernel_rfl) (run_boolE (decide_eq_false h246) (by kernel_rfl)) ?_
                        refine gx_val (.bool false) w230 (by kernel_rfl) (by kernel_rfl) ?_
                        refine gx_nil ?_
                        refine gx_thenN ?_
                        refine hK205 _ _ ?_
                        refine gx_no (by kernel_rfl) ?_
                        refine gx_pass ?_
                        refine gx_thenN ?_
                        exact ⟨x145, (fun i => List.getD ((.slice A0 p0.length c0) :: (.int .i64 x146) :: (.pointer (some ⟨g208, o209, none⟩)) :: (.agg #[.int .u8 x206.1, .int .u8 x206.2.1, .int .u8 x206.2.2.1, .int .u8 x206.2.2.2]) :: (.bool true) :: (.bool true) :: (.slice A1 p1.length c1) :: (.int .i64 x146) :: (.pointer (some ⟨g235, o236, none⟩)) :: (.slice A242 x233.length c243) :: (.int .i64 ((x233.length : Nat) : Int)) :: (.bool false) :: (.bool false) :: (u137 32) :: (u137 33) :: []) i undef), by kernel_rfl, (Option.some.inj hE202), hS231⟩
                    | false =>
                      try dsimp only at hE202
                      refine gx_off (by kernel_rfl) ?_
                      refine gx_off (by kernel_rfl) ?_
                      refine gx_off (by kernel_rfl) ?_
                      refine gx_off (by kernel_rfl) ?_
                      refine gx_off (by kernel_rfl) ?_
                      refine gx_off (by kernel_rfl) ?_
                      refine gx_val (.bool false) w230 (by kernel_rfl) (by kernel_rfl) ?_
                      refine gx_nil ?_
                      refine gx_thenN ?_
                      refine hK205 _ _ ?_
                      refine gx_no (by kernel_rfl) ?_
                      refine gx_pass ?_
                      refine gx_thenN ?_
                      exact ⟨x145, (fun i => List.getD ((.slice A0 p0.length c0) :: (.int .i64 x146) :: (.pointer (some ⟨g208, o209, none⟩)) :: (.agg #[.int .u8 x206.1, .int .u8 x206.2.1, .int .u8 x206.2.2.1, .int .u8 x206.2.2.2]) :: (.bool false) :: (.bool false) :: undef :: undef :: undef :: undef :: undef :: undef :: (.bool false) :: (u137 32) :: (u137 33) :: []) i undef), by kernel_rfl, (Option.some.inj hE202), hS231⟩
                  · rintro _ w197 ⟨x200, u199, rfl, rfl, hS198⟩
                    try dsimp only at hO203
                    refine gx_seq (fun K247 hK248 => ?_)
                    refine gd_start (fun w => St [] w0 w [poolE ([]) w0, rowE .u8 5 A142 c143 l144]) 24 #[false, false, false, false, false, false, false, false, false, false, false, false, false, false, false, false, false, false, false, false, false, false, false, false] (by kernel_rfl) (by kernel_rfl) ?_
                    have hS250 := hS198.drew
                    generalize w197.drew = w249 at hS250 ⊢
                    refine gd1 0 { dst := some 89, op := _, type := _, pos := _, after := _, guard := _ } (.slice A139 l141.length c140) rfl (hS250.pick [0, 2] rfl rfl) (fun w hSw => by kernel_rfl) ?_
                    refine gd1 1 { dst := some 90, op := _, type := _, pos := _, after := _, guard := _ } (.slice A0 p0.length c0) rfl (hS250.pick [0, 2] rfl rfl) (fun w hSw => by kernel_rfl) ?_
                    refine gd1 2 { dst := some 91, op := _, type := _, pos := _, after := _, guard := _ } (.int .i64 x146) rfl (hS250.pick [0, 2] rfl rfl) (fun w hSw => by kernel_rfl) ?_
                    obtain ⟨x251, hx252, hO203⟩ := bind_in hO203
                    obtain ⟨g253, o254, e255, hA256, he257, h258, ha259⟩ := elem_at (e := encapiTag) (sl_lies (hS250.inn ho0 hv0)) (sl_each hv0) hx252 (by decide)
                    obtain ⟨e260, e261, rfl, h262, h263⟩ := h258
                    obtain rfl := h262
                    obtain ⟨e264, e265, rfl, h266, h267⟩ := h263
                    obtain rfl := h266
                    obtain ⟨e268, e269, rfl, h270, h271⟩ := h267
                    obtain rfl := h270
                    obtain rfl := h271
                    have ha259 : ∀ w', Lies w' A0 vs0 → w'.rangeAt g253 o254 [.int .u8 x251.1, .int .u8 x251.2.1, .int .u8 x251.2.2.1, .int .u8 x251.2.2.2] := ha259
                    refine gd1 3 { dst := some 92, op := _, type := _, pos := _, after := _, guard := _ } (.pointer (some ⟨g253, o254, none⟩)) rfl (hS250.pick [0, 2] rfl rfl) (fun w hSw => run_ixaddrN (E := 39) (s := 4) (k := .i64) (c := c0) rfl (by kernel_rfl) (by kernel_rfl) (by kernel_rfl) (fun _ => by kernel_rfl) (ixg_in hx252).1 (ixg_in hx252).2.1 hA256) ?_
                    refine gd1 4 { dst := some 93, op := _, type := _, pos := _, after := _, guard := _ } (.pointer (some ⟨g253, o254, none⟩)) rfl (hS250.pick [0, 2] rfl rfl) (fun w hSw => by kernel_rfl) ?_
                    refine gd1 5 { dst := some 94, op := _, type := _, pos := _, after := _, guard := _ } (.int .u8 x251.1) rfl (hS250.pick [0, 2] rfl rfl) (fun w hSw => run_loadN1 0 rfl (by kernel_rfl) (fun _ => by kernel_rfl) (ha259 _ (sl_lies (hSw.inn ho0 hv0))) rfl) ?_
                    refine gd1 6 { dst := some 95, op := _, type := _, pos := _, after := _, guard := _ } (.slice A0 p0.length c0) rfl (hS250.pick [0, 2] rfl rfl) (fun w hSw => by kernel_rfl) ?_
                    refine gd1 7 { dst := some 96, op := _, type := _, pos := _, after := _, guard := _ } (.int .i64 x146) rfl (hS250.pick [0, 2] rfl rfl) (fun w hSw => by kernel_rfl) ?_
                    obtain ⟨x272, hx273, hO203⟩ := bind_in hO203
                    obtain ⟨g274, o275, e276, hA277, he278, h279, ha280⟩ := elem_at (e := encapiTag) (sl_lies (hS250.inn ho0 hv0)) (sl_each hv0) hx273 (by decide)
                    obtain ⟨e281, e282, rfl, h283, h284⟩ := h279
                    obtain rfl := h283
                    obtain ⟨e285, e286, rfl, h287, h288⟩ := h284
                    obtain rfl := h287
                    obtain ⟨e289, e290, rfl, h291, h292⟩ := h288
                    obtain rfl := h291
                    obtain rfl := h292
                    have ha280 : ∀ w', Lies w' A0 vs0 → w'.rangeAt g274 o275 [.int .u8 x272.1, .int .u8 x272.2.1, .int .u8 x272.2.2.1, .int .u8 x272.2.2.2] := ha280
                    refine gd1 8 { dst := some 97, op := _, type := _, pos := _, after := _, guard := _ } (.pointer (some ⟨g274, o275, none⟩)) rfl (hS250.pick [0, 2] rfl rfl) (fun w hSw => run_ixaddrN (E := 39) (s := 4) (k := .i64) (c := c0) rfl (by kernel_rfl) (by kernel_rfl) (by kernel_rfl) (fun _ => by kernel_rfl) (ixg_in hx273).1 (ixg_in hx273).2.1 hA277) ?_
                    refine gd1 9 { dst := some 98, op := _, type := _, pos := _, after := _, guard := _ } (.pointer (some ⟨g274, o275 + 1, none⟩)) rfl (hS250.pick [0, 2] rfl rfl) (fun w hSw => by kernel_rfl) ?_
                    refine gd1 10 { dst := some 99, op := _, type := _, pos := _, after := _, guard := _ } (.int .u8 x272.2.1) rfl (hS250.pick [0, 2] rfl rfl) (fun w hSw => run_loadN1 1 rfl (by kernel_rfl) (fun _ => by kernel_rfl) (ha280 _ (sl_lies (hSw.inn ho0 hv0))) rfl) ?_
                    refine gd1 11 { dst := some 100, op := _, type := _, pos := _, after := _, guard := _ } (.slice A0 p0.length c0) rfl (hS250.pick [0, 2] rfl rfl) (fun w hSw => by kernel_rfl) ?_
                    refine gd1 12 { dst := some 101, op := _, type := _, pos := _, after := _, guard := _ } (.int .i64 x146) rfl (hS250.pick [0, 2] rfl rfl) (fun w hSw => by kernel_rfl) ?_
                    obtain ⟨x293, hx294, hO203⟩ := bind_in hO203
                    obtain ⟨g295, o296, e297, hA298, he299, h300, ha301⟩ := elem_at (e := encapiTag) (sl_lies (hS250.inn ho0 hv0)) (sl_each hv0) hx294 (by decide)
                    obtain ⟨e302, e303, rfl, h304, h305⟩ := h300
                    obtain rfl := h304
                    obtain ⟨e306, e307, rfl, h308, h309⟩ := h305
                    obtain rfl := h308
                    obtain ⟨e310, e311, rfl, h312, h313⟩ := h309
                    obtain rfl := h312
                    obtain rfl := h313
                    have ha301 : ∀ w', Lies w' A0 vs0 → w'.rangeAt g295 o296 [.int .u8 x293.1, .int .u8 x293.2.1, .int .u8 x293.2.2.1, .int .u8 x293.2.2.2] := ha301
                    refine gd1 13 { dst := some 102, op := _, type := _, pos := _, after := _, guard := _ } (.pointer (some ⟨g295, o296, none⟩)) rfl (hS250.pick [0, 2] rfl rfl) (fun w hSw => run_ixaddrN (E := 39) (s := 4) (k := .i64) (c := c0) rfl (by kernel_rfl) (by kernel_rfl) (by kernel_rfl) (fun _ => by kernel_rfl) (ixg_in hx294).1 (ixg_in hx294).2.1 hA298) ?_
                    refine gd1 14 { dst := some 103, op := _, type := _, pos := _, after := _, guard := _ } (.pointer (some ⟨g295, o296 + 2, none⟩)) rfl (hS250.pick [0, 2] rfl rfl) (fun w hSw => by kernel_rfl) ?_
                    refine gd1 15 { dst := some 104, op := _, type := _, pos := _, after := _, guard := _ } (.int .u8 x293.2.2.1) rfl (hS250.pick [0, 2] rfl rfl) (fun w hSw => run_loadN1 2 rfl (by kernel_rfl) (fun _ => by kernel_rfl) (ha301 _ (sl_lies (hSw.inn ho0 hv0))) rfl) ?_
                    refine gd1 16 { dst := some 105, op := _, type := _, pos := _, after := _, guard := _ } (.slice A0 p0.length c0) rfl (hS250.pick [0, 2] rfl rfl) (fun w hSw => by kernel_rfl) ?_
                    refine gd1 17 { dst := some 106, op := _, type := _, pos := _, after := _, guard := _ } (.int .i64 x146) rfl (hS250.pick [0, 2] rfl rfl) (fun w hSw => by kernel_rfl) ?_
                    obtain ⟨x314, hx315, hO203⟩ := bind_in hO203
                    obtain ⟨g316, o317, e318, hA319, he320, h321, ha322⟩ := elem_at (e := encapiTag) (sl_lies (hS250.inn ho0 hv0)) (sl_each hv0) hx315 (by decide)
                    obtain ⟨e323, e324, rfl, h325, h326⟩ := h321
                    obtain rfl := h325
                    obtain ⟨e327, e328, rfl, h329, h330⟩ := h326
                    obtain rfl := h329
                    obtain ⟨e331, e332, rfl, h333, h334⟩ := h330
                    obtain rfl := h333
                    obtain rfl := h334
                    have ha322 : ∀ w', Lies w' A0 vs0 → w'.rangeAt g316 o317 [.int .u8 x314.1, .int .u8 x314.2.1, .int .u8 x314.2.2.1, .int .u8 x314.2.2.2] := ha322
                    refine gd1 18 { dst := some 107, op := _, type := _, pos := _, after := _, guard := _ } (.pointer (some ⟨g316, o317, none⟩)) rfl (hS250.pick [0, 2] rfl rfl) (fun w hSw => run_ixaddrN (E := 39) (s := 4) (k := .i64) (c := c0) rfl (by kernel_rfl) (by kernel_rfl) (by kernel_rfl) (fun _ => by kernel_rfl) (ixg_in hx315).1 (ixg_in hx315).2.1 hA319) ?_
                    refine gd1 19 { dst := some 108, op := _, type := _, pos := _, after := _, guard := _ } (.pointer (some ⟨g316, o317 + 3, none⟩)) rfl (hS250.pick [0, 2] rfl rfl) (fun w hSw => by kernel_rfl) ?_
                    refine gd1 20 { dst := some 109, op := _, type := _, pos := _, after := _, guard := _ } (.int .u8 x314.2.2.2) rfl (hS250.pick [0, 2] rfl rfl) (fun w hSw => run_loadN1 3 rfl (by kernel_rfl) (fun _ => by kernel_rfl) (ha322 _ (sl_lies (hSw.inn ho0 hv0))) rfl) ?_
                    refine gdR 21 { dst := some 110, op := _, type := _, pos := _, after := _, guard := _ } rfl (st_made .u8 5 [x251.1, x272.2.1, x293.2.2.1, x314.2.2.2] hS250 (by show 4 ≤ 1000000000; decide) (by kernel_rfl)) ?_
                    rintro _ w335 ⟨rfl, hS336⟩
                    have hS336 : St _ _ w335 [poolE ([]) w0, rowE .u8 5 A139 c140 l141, rowE .u8 5 A142 c143 l144, rowE .u8 5 (some ⟨w249.heap.size, 0, none⟩) 4 ([x251.1, x272.2.1, x293.2.2.1, x314.2.2.2])] := hS336
                    refine ⟨(hS336.pick [0, 2] rfl rfl), ?_⟩
                    obtain ⟨l337, ha338, hO203⟩ := bind_in hO203
                    obtain ⟨ha338, hq339⟩ := apx_in ha338
                    refine gdR 22 { dst := some 111, op := _, type := _, pos := _, after := _, guard := _ } rfl (st_append rfl (by kernel_rfl) (by kernel_rfl) hS336 1 rfl (hS336.row 3 rfl).1 (hS336.row 3 rfl).2 ha338 (by kernel_rfl) (by kernel_rfl)) ?_
                    rintro _ w342 ⟨A340, c341, rfl, hS343⟩
                    rw [← hq339] at hS343 ⊢
                    have hS343 : St _ _ w342 [poolE ([]) w0, rowE .u8 5 A340 c341 l337, rowE .u8 5 A142 c143 l144, rowE .u8 5 (some ⟨w249.heap.size, 0, none⟩) 4 ([x251.1, x272.2.1, x293.2.2.1, x314.2.2.2])] := hS343
                    refine ⟨(hS343.pick [0, 2] rfl rfl), ?_⟩
                    refine gd1 23 { dst := some 8, op := _, type := _, pos := _, after := _, guard := _ } (.slice A340 l337.length c341) rfl (hS343.pick [0, 2] rfl rfl) (fun w hSw => by kernel_rfl) ?_
                    refine gd_done (by kernel_rfl) ?_
                    refine gx_thenN ?_
                    refine hK248 _ _ ?_
                    refine gx_seq (fun K344 hK345 => ?_)
                    refine gd_start (fun w => St [] w0 w [poolE ([]) w0, rowE .u8 5 A340 c341 l337, rowE .u8 5 A142 c143 l144, rowE .u8 5 (some ⟨w249.heap.size, 0, none⟩) 4 ([x251.1, x272.2.1, x293.2.2.1, x314.2.2.2])]) 23 #[false, false, false, false, false, false, false, false, false, false, false, false, false, false, false, false, false, false, false, false, false, false, false] (by kernel_rfl) (by kernel_rfl) ?_
                    have hS347 := hS343.drew
                    generalize w342.drew = w346 at hS347 ⊢
                    refine gd1 0 { dst := some 113, op := _, type := _, pos := _, after := _, guard := _ } (.slice A0 p0.length c0) rfl hS347 (fun w hSw => by kernel_rfl) ?_
                    refine gd1 1 { dst := some 114, op := _, type := _, pos := _, after := _, guard := _ } (.int .i64 x146) rfl hS347 (fun w hSw => by kernel_rfl) ?_
                    obtain ⟨x348, hx349, hO203⟩ := bind_in hO203
                    obtain ⟨g350, o351, e352, hA353, he354, h355, ha356⟩ := elem_at (e := encapiTag) (sl_lies (hS347.inn ho0 hv0)) (sl_each hv0) hx349 (by decide)
                    obtain ⟨e357, e358, rfl, h359, h360⟩ := h355
                    obtain rfl := h359
                    obtain ⟨e361, e362, rfl, h363, h364⟩ := h360
                    obtain rfl := h363
                    obtain ⟨e365, e366, rfl, h367, h368⟩ := h364
                    obtain rfl := h367
                    obtain rfl := h368
                    have ha356 : ∀ w', Lies w' A0 vs0 → w'.rangeAt g350 o351 [.int .u8 x348.1, .int .u8 x348.2.1, .int .u8 x348.2.2.1, .int .u8 x348.2.2.2] := ha356
                    refine gd1 2 { dst := some 115, op := _, type := _, pos := _, after := _, guard := _ } (.pointer (some ⟨g350, o351, none⟩)) rfl hS347 (fun w hSw => run_ixaddrN (E := 39) (s := 4) (k := .i64) (c := c0) rfl (by kernel_rfl) (by kernel_rfl) (by kernel_rfl) (fun _ => by kernel_rfl) (ixg_in hx349).1 (ixg_in hx349).2.1 hA353) ?_
                    refine gd1 3 { dst := some 116, op := _, type := _, pos := _, after := _, guard := _ } (.agg #[.int .u8 x348.1, .int .u8 x348.2.1, .int .u8 x348.2.2.1, .int .u8 x348.2.2.2]) rfl hS347 (fun w hSw => run_loadNG (d := _) (ec := [.int .u8 x348.1, .int .u8 x348.2.1, .int .u8 x348.2.2.1, .int .u8 x348.2.2.2]) rfl (by kernel_rfl) (ha356 _ (sl_lies (hSw.inn ho0 hv0))) rfl rfl (by kernel_rfl)) ?_
                    refine gd1 4 { dst := some 117, op := _, type := _, pos := _, after := _, guard := _ } (.slice A1 p1.length c1) rfl hS347 (fun w hSw => by kernel_rfl) ?_
                    refine gd1 5 { dst := some 118, op := _, type := _, pos := _, after := _, guard := _ } (.int .i64 x146) rfl hS347 (fun w hSw => by kernel_rfl) ?_
                    obtain ⟨x369, hx370, hO203⟩ := bind_in hO203
                    obtain ⟨g371, o372, e373, hA374, he375, h376, ha377⟩ := elem_at (e := (rowOf (intE .u8))) (sl_lies (hS347.inn ho1 hv1)) (sl_each hv1) hx370 (by decide)
                    obtain ⟨A378, c379, vs380, rfl, hf381⟩ := h376
                    have ha377 : ∀ w', Lies w' A1 vs1 → w'.rangeAt g371 o372 [.slice A378 x369.length c379] := ha377
                    refine gd1 6 { dst := some 119, op := _, type := _, pos := _, after := _, guard := _ } (.pointer (some ⟨g371, o372, none⟩)) rfl hS347 (fun w hSw => run_ixaddrN (E := 22) (s := 1) (k := .i64) (c := c1) rfl (by kernel_rfl) (by kernel_rfl) (by kernel_rfl) (fun _ => by kernel_rfl) (ixg_in hx370).1 (ixg_in hx370).2.1 hA374) ?_
                    refine gd1 7 { dst := some 120, op := _, type := _, pos := _, after := _, guard := _ } (.slice A378 x369.length c379) rfl hS347 (fun w hSw => run_loadN1 0 rfl (by kernel_rfl) (fun _ => by kernel_rfl) (ha377 _ (sl_lies (hSw.inn ho1 hv1))) rfl) ?_
                    refine gd1 10 { dst := some 123, op := _, type := _, pos := _, after := _, guard := _ } (.int .i64 x138) rfl hS347 (fun w hSw => by kernel_rfl) ?_
                    refine gd1 11 { dst := some 124, op := _, type := _, pos := _, after := _, guard := _ } (.slice A1 p1.length c1) rfl hS347 (fun w hSw => by kernel_rfl) ?_
                    refine gd1 12 { dst := some 125, op := _, type := _, pos := _, after := _, guard := _ } (.int .i64 x146) rfl hS347 (fun w hSw => by kernel_rfl) ?_
                    obtain ⟨x382, hx383, hO203⟩ := bind_in hO203
                    obtain ⟨g384, o385, e386, hA387, he388, h389, ha390⟩ := elem_at (e := (rowOf (intE .u8))) (sl_lies (hS347.inn ho1 hv1)) (sl_each hv1) hx383 (by decide)
                    obtain ⟨A391, c392, vs393, rfl, hf394⟩ := h389
                    have ha390 : ∀ w', Lies w' A1 vs1 → w'.rangeAt g384 o385 [.slice A391 x382.length c392] := ha390
                    refine gd1 13 { dst := some 126, op := _, type := _, pos := _, after := _, guard := _ } (.pointer (some ⟨g384, o385, none⟩)) rfl hS347 (fun w hSw => run_ixaddrN (E := 22) (s := 1) (k := .i64) (c := c1) rfl (by kernel_rfl) (by kernel_rfl) (by kernel_rfl) (fun _ => by kernel_rfl) (ixg_in hx383).1 (ixg_in hx383).2.1 hA387) ?_
                    refine gd1 14 { dst := some 127, op := _, type := _, pos := _, after := _, guard := _ } (.slice A391 x382.length c392) rfl hS347 (fun w hSw => run_loadN1 0 rfl (by kernel_rfl) (fun _ => by kernel_rfl) (ha390 _ (sl_lies (hSw.inn ho1 hv1))) rfl) ?_
                    refine gd1 15 { dst := some 128, op := _, type := _, pos := _, after := _, guard := _ } (.int .i64 ((x382.length : Nat) : Int)) rfl hS347 (fun w hSw => by kernel_rfl) ?_
                    have hP395 : St _ _ w346 ([] ++ [poolE ([]) w0, rowE .u8 5 A340 c341 l337, rowE .u8 5 A142 c143 l144, rowE .u8 5 (some ⟨w249.heap.size, 0, none⟩) 4 ([x251.1, x272.2.1, x293.2.2.1, x314.2.2.2])]) := hS347
                    obtain ⟨x397, hc396, hO203⟩ := bind_in hO203
                    try dsimp only at hO203
                    refine gdC 8 { dst := some 121, op := _, type := _, pos := _, after := _, guard := _ } (hTsum_R x397 w346) rfl (by kernel_rfl) (hTsum_ok N x348.1 x348.2.1 x348.2.2.1 x348.2.2.2 x369 A378 c379 _ hc396 w346 (St.vwF (hP395.offIA ho1) (hS347.inn ho1 hf381))) ?_
                    rintro _ w398 ⟨rfl, hT400⟩
                    have hS399 : St _ _ w398 [poolE ([]) w0, rowE .u8 5 A340 c341 l337, rowE .u8 5 A142 c143 l144, rowE .u8 5 (some ⟨w249.heap.size, 0, none⟩) 4 ([x251.1, x272.2.1, x293.2.2.1, x314.2.2.2])] := hS347.take _ hT400
                    refine ⟨hS399, ?_⟩
                    refine gd1 9 { dst := some 122, op := _, type := _, pos := _, after := _, guard := _ } (.int .i64 (IntKind.i64.wrap x397)) rfl hS399 (fun w hSw => by kernel_rfl) ?_
                    refine gdR 16 { dst := some 129, op := _, type := _, pos := _, after := _, guard := _ } rfl (st_made .i64 2 [(IntKind.i64.wrap x397), x138, ((x382.length : Nat) : Int)] hS399 (by show 3 ≤ 1000000000; decide) (by kernel_rfl)) ?_
                    rintro _ w401 ⟨rfl, hS402⟩
                    have hS402 : St _ _ w401 [poolE ([]) w0, rowE .u8 5 A340 c341 l337, rowE .u8 5 A142 c143 l144, rowE .u8 5 (some ⟨w249.heap.size, 0, none⟩) 4 ([x251.1, x272.2.1, x293.2.2.1, x314.2.2.2]), rowE .i64 2 (some ⟨w398.heap.size, 0, none⟩) 3 ([(IntKind.i64.wrap x397), x138, ((x382.length : Nat) : Int)])] := hS402
                    refine ⟨(hS402.pick [0, 1, 2, 3] rfl rfl), ?_⟩
                    have hP403 : St _ _ w401 ([] ++ [poolE ([]) w0, rowE .u8 5 A340 c341 l337, rowE .u8 5 A142 c143 l144, rowE .u8 5 (some ⟨w249.heap.size, 0, none⟩) 4 ([x251.1, x272.2.1, x293.2.2.1, x314.2.2.2]), rowE .i64 2 (some ⟨w398.heap.size, 0, none⟩) 3 ([(IntKind.i64.wrap x397), x138, ((x382.length : Nat) : Int)])]) := hS402
                    obtain ⟨⟨l405, x408⟩, hc404, hO203⟩ := bind_in hO203
                    try dsimp only at hO203
                    refine gdC 17 { dst := some 130, op := _, type := _, pos := _, after := _, guard := _ } (hPut_R (l405, x408) w401) rfl (by kernel_rfl) (hPut_ok N ([(IntKind.i64.wrap x397), x138, ((x382.length : Nat) : Int)]) (⟨#[73, 73, 73]⟩ : ByteArray) (some ⟨w398.heap.size, 0, none⟩) 3 _ hc404 w401 (hP403.vwB 4 rfl)) ?_
                    rintro _ w409 ⟨A406, c407, rfl, hT411⟩
                    have hS410 : St _ _ w409 [poolE ([]) w0, rowE .u8 5 A340 c341 l337, rowE .u8 5 A142 c143 l144, rowE .u8 5 (some ⟨w249.heap.size, 0, none⟩) 4 ([x251.1, x272.2.1, x293.2.2.1, x314.2.2.2]), rowE .i64 2 (some ⟨w398.heap.size, 0, none⟩) 3 ([(IntKind.i64.wrap x397), x138, ((x382.length : Nat) : Int)]), rowE .u8 5 A406 c407 l405] := hS402.take _ hT411
                    refine ⟨(hS410.pick [0, 1, 2, 3] rfl rfl), ?_⟩
                    refine gd1 18 { dst := some 112, op := _, type := _, pos := _, after := _, guard := _ } (.tuple #[.slice A406 l405.length c407, .int .i64 x408]) rfl (hS410.pick [0, 1, 2, 3] rfl rfl) (fun w hSw => by kernel_rfl) ?_
                    refine gd1 19 { dst := some 131, op := _, type := _, pos := _, after := _, guard := _ } (.slice A406 l405.length c407) rfl (hS410.pick [0, 1, 2, 3] rfl rfl) (fun w hSw => by kernel_rfl) ?_
                    refine gd1 20 { dst := some 132, op := _, type := _, pos := _, after := _, guard := _ } (.int .i64 x408) rfl (hS410.pick [0, 1, 2, 3] rfl rfl) (fun w hSw => by kernel_rfl) ?_
                    refine gd1 21 { dst := some 13, op := _, type := _, pos := _, after := _, guard := _ } (.slice A406 l405.length c407) rfl (hS410.pick [0, 1, 2, 3] rfl rfl) (fun w hSw => by kernel_rfl) ?_
                    refine gd1 22 { dst := some 14, op := _, type := _, pos := _, after := _, guard := _ } (.int .i64 x408) rfl (hS410.pick [0, 1, 2, 3] rfl rfl) (fun w hSw => by kernel_rfl) ?_
                    refine gd_done (by kernel_rfl) ?_
                    refine gx_thenN ?_
                    refine hK345 _ _ ?_
                    refine gx_seq (fun K412 hK413 => ?_)
                    refine gx_region ?_
                    refine gx_val (.slice A340 l337.length c341) w409 (by kernel_rfl) (by kernel_rfl) ?_
                    refine gx_val (.slice A406 l405.length c407) w409 (by kernel_rfl) (by kernel_rfl) ?_
                    obtain ⟨l414, ha415, hO203⟩ := bind_in hO203
                    obtain ⟨ha415, hq416⟩ := apx_in ha415
                    refine gx_R (by kernel_rfl) (st_append rfl (by kernel_rfl) (by kernel_rfl) hS410 1 rfl (hS410.row 5 rfl).1 (hS410.row 5 rfl).2 ha415 (by kernel_rfl) (by kernel_rfl)) ?_
                    rintro _ w419 ⟨A417, c418, rfl, hS420⟩
                    rw [← hq416] at hS420 ⊢
                    have hS420 : St _ _ w419 [poolE ([]) w0, rowE .u8 5 A417 c418 l414, rowE .u8 5 A142 c143 l144, rowE .u8 5 (some ⟨w249.heap.size, 0, none⟩) 4 ([x251.1, x272.2.1, x293.2.2.1, x314.2.2.2]), rowE .i64 2 (some ⟨w398.heap.size, 0, none⟩) 3 ([(IntKind.i64.wrap x397), x138, ((x382.length : Nat) : Int)]), rowE .u8 5 A406 c407 l405] := hS420
                    refine gx_val (.slice A417 l414.length c418) w419 (by kernel_rfl) (by kernel_rfl) ?_
                    refine gx_nil ?_
                    refine gx_thenN ?_
                    refine hK413 _ _ ?_
                    refine gx_seq (fun K421 hK422 => ?_)
                    refine gx_region ?_
                    refine gx_val (.slice A142 l144.length c143) w419 (by kernel_rfl) (by kernel_rfl) ?_
                    refine gx_val (.slice A1 p1.length c1) w419 (by kernel_rfl) (by kernel_rfl) ?_
                    refine gx_val (.int .i64 x146) w419 (by kernel_rfl) (by kernel_rfl) ?_
                    obtain ⟨x423, hx424, hO203⟩ := bind_in hO203
                    obtain ⟨g425, o426, e427, hA428, he429, h430, ha431⟩ := elem_at (e := (rowOf (intE .u8))) (sl_lies (hS420.inn ho1 hv1)) (sl_each hv1) hx424 (by decide)
                    obtain ⟨A432, c433, vs434, rfl, hf435⟩ := h430
                    have ha431 : ∀ w', Lies w' A1 vs1 → w'.rangeAt g425 o426 [.slice A432 x423.length c433] := ha431
                    refine gx_val (.pointer (some ⟨g425, o426, none⟩)) w419 (by kernel_rfl) (run_ixaddrN (E := 22) (s := 1) (k := .i64) (c := c1) rfl (by kernel_rfl) (by kernel_rfl) (by kernel_rfl) (fun _ => by kernel_rfl) (ixg_in hx424).1 (ixg_in hx424).2.1 hA428) ?_
                    refine gx_val (.slice A432 x423.length c433) w419 (by kernel_rfl) (run_loadN1 0 rfl (by kernel_rfl) (fun _ => by kernel_rfl) (ha431 _ (sl_lies (hS420.inn ho1 hv1))) rfl) ?_
                    obtain ⟨l436, ha437, hO203⟩ := bind_in hO203
                    obtain ⟨ha437, hq438⟩ := apx_in ha437
                    refine gx_R (by kernel_rfl) (st_append rfl (by kernel_rfl) (by kernel_rfl) hS420 2 rfl (num_sl (hS420.inn ho1 hf435)) (sl_nn (hS420.inn ho1 hf435)) ha437 (by kernel_rfl) (by kernel_rfl)) ?_
                    rintro _ w441 ⟨A439, c440, rfl, hS442⟩
                    rw [← hq438] at hS442 ⊢
                    have hS442 : St _ _ w441 [poolE ([]) w0, rowE .u8 5 A417 c418 l414, rowE .u8 5 A439 c440 l436, rowE .u8 5 (some ⟨w249.heap.size, 0, none⟩) 4 ([x251.1, x272.2.1, x293.2.2.1, x314.2.2.2]), rowE .i64 2 (some ⟨w398.heap.size, 0, none⟩) 3 ([(IntKind.i64.wrap x397), x138, ((x382.length : Nat) : Int)]), rowE .u8 5 A406 c407 l405] := hS442
                    refine gx_val (.slice A439 l436.length c440) w441 (by kernel_rfl) (by kernel_rfl) ?_
                    refine gx_nil ?_
                    refine gx_thenN ?_
                    refine hK422 _ _ ?_
                    obtain ⟨c449, hE450, hO451⟩ := bind_in hO203
                    refine gx_cut (fun a w => ∃ (l448 : List Int) (A446 : Option Addr) (c447 : Nat) (u445 : Nat → Value), a = ⟨((.slice A0 p0.length c0) :: (.slice A1 p1.length c1) :: undef :: undef :: (u170 0) :: (u170 1) :: (.int .i64 ((p0.length : Nat) : Int)) :: (.int .i64 x138) :: (.slice A417 l414.length c418) :: (.slice A446 l448.length c447) :: (.int .i64 x200) :: (u43 2) :: (.int .i64 x146) :: (u445 0) :: (.int .i64 x408) :: undef :: undef :: undef :: undef :: undef :: (u7 2) :: (.int .i64 ((p0.length : Nat) : Int)) :: (u7 3) :: (u7 4) :: (u7 5) :: (u7 6) :: (u7 7) :: (u7 8) :: (u7 9) :: (u7 10) :: (u7 11) :: (u7 12) :: (u7 13) :: (u7 14) :: (.int .i64 ((p0.length : Nat) : Int)) :: (.int .i64 (IntKind.i64.wrap ((16 : Int) * ((p0.length : Nat) : Int)))) :: (.int .i64 (IntKind.i64.wrap ((12 : Int) + (IntKind.i64.wrap ((16 : Int) * ((p0.length : Nat) : Int)))))) :: (.int .i64 ((p0.length : Nat) : Int)) :: (u43 3) :: (u43 4) :: (u43 5) :: (u43 6) :: (u43 7) :: (u43 8) :: (u43 9) :: (u43 10) :: (u43 11) :: (u43 12) :: (u43 13) :: (u43 14) :: (u43 15) :: (u43 16) :: (u43 17) :: (u43 18) :: (u43 19) :: (u43 20) :: (u43 21) :: (u43 22) :: (u43 23) :: (.int .i64 x146) :: (.int .i64 ((p0.length : Nat) : Int)) :: (.bool true) :: (u137 7) :: (u137 8) :: (u170 2) :: (u170 3) :: (u170 4) :: (u170 5) :: (u170 6) :: (u170 7) :: (u170 8) :: (u170 9) :: (u170 10) :: (u170 11) :: (u199 0) :: (u199 1) :: (u199 2) :: (u199 3) :: (u199 4) :: (u199 5) :: (u199 6) :: (u199 7) :: (u199 8) :: (u199 9) :: (u199 10) :: (u199 11) :: (u199 12) :: (u199 13) :: (u199 14) :: (u445 1) :: (u445 2) :: (.int .i64 x146) :: (u445 3) :: (u445 4) :: (.int .u8 x251.1) :: (u445 5) :: (.int .i64 x146) :: (u445 6) :: (u445 7) :: (.int .u8 x272.2.1) :: (u445 8) :: (.int .i64 x146) :: (u445 9) :: (u445 10) :: (.int .u8 x293.2.2.1) :: (u445 11) :: (.int .i64 x146) :: (u445 12) :: (u445 13) :: (.int .u8 x314.2.2.2) :: (u445 14) :: (u445 15) :: (u445 16) :: (u445 17) :: (.int .i64 x146) :: (u445 18) :: (u445 19) :: (u445 20) :: (.int .i64 x146) :: (u445 21) :: (u445 22) :: (.int .u32 x397) :: (.int .i64 (IntKind.i64.wrap x397)) :: (.int .i64 x138) :: (u445 23) :: (.int .i64 x146) :: (u445 24) :: (u445 25) :: (.int .i64 ((x382.length : Nat) : Int)) :: (u445 26) :: (u445 27) :: (u445 28) :: (.int .i64 x408) :: (u445 29) :: (u445 30) :: (u445 31) :: (u445 32) :: (u445 33) :: (.int .i64 x146) :: (u445 34) :: (u445 35) :: (u445 36) :: (u445 37) :: (u445 38) :: (u445 39) :: (u445 40) :: (u445 41) :: (u445 42) :: (u445 43) :: (u137 94) :: (u137 95) :: (u137 96) :: (u137 97) :: (u137 98) :: (u137 99) :: (u137 100) :: (u137 101) :: undef :: undef :: undef :: undef :: undef :: undef :: undef :: undef :: undef :: undef :: undef :: undef :: undef :: undef :: undef :: undef :: undef :: undef :: undef :: undef :: undef :: undef :: undef :: undef :: undef :: undef :: undef :: undef :: undef :: undef :: undef :: undef :: undef :: undef :: undef :: undef :: undef :: undef :: undef :: []).toArray, []⟩ ∧ l448 = c449 ∧ St [] w0 w [poolE ([]) w0, rowE .u8 5 A417 c418 l414, rowE .u8 5 A446 c447 l448]) ?_ ?_
                    · refine gx_block ?_
                      refine gx_loop (fun k a w => ∃ (l457 : List Int) (A455 : Option Addr) (c456 : Nat) (u454 : Nat → Value), a = ⟨((.slice A0 p0.length c0) :: (.slice A1 p1.length c1) :: undef :: undef :: (u170 0) :: (u170 1) :: (.int .i64 ((p0.length : Nat) : Int)) :: (.int .i64 x138) :: (.slice A417 l414.length c418) :: (.slice A455 l457.length c456) :: (.int .i64 x200) :: (u43 2) :: (.int .i64 x146) :: (u454 0) :: (.int .i64 x408) :: undef :: undef :: undef :: undef :: undef :: (u7 2) :: (.int .i64 ((p0.length : Nat) : Int)) :: (u7 3) :: (u7 4) :: (u7 5) :: (u7 6) :: (u7 7) :: (u7 8) :: (u7 9) :: (u7 10) :: (u7 11) :: (u7 12) :: (u7 13) :: (u7 14) :: (.int .i64 ((p0.length : Nat) : Int)) :: (.int .i64 (IntKind.i64.wrap ((16 : Int) * ((p0.length : Nat) : Int)))) :: (.int .i64 (IntKind.i64.wrap ((12 : Int) + (IntKind.i64.wrap ((16 : Int) * ((p0.length : Nat) : Int)))))) :: (.int .i64 ((p0.length : Nat) : Int)) :: (u43 3) :: (u43 4) :: (u43 5) :: (u43 6) :: (u43 7) :: (u43 8) :: (u43 9) :: (u43 10) :: (u43 11) :: (u43 12) :: (u43 13) :: (u43 14) :: (u43 15) :: (u43 16) :: (u43 17) :: (u43 18) :: (u43 19) :: (u43 20) :: (u43 21) :: (u43 22) :: (u43 23) :: (.int .i64 x146) :: (.int .i64 ((p0.length : Nat) : Int)) :: (.bool true) :: (u137 7) :: (u137 8) :: (u170 2) :: (u170 3) :: (u170 4) :: (u170 5) :: (u170 6) :: (u170 7) :: (u170 8) :: (u170 9) :: (u170 10) :: (u170 11) :: (u199 0) :: (u199 1) :: (u199 2) :: (u199 3) :: (u199 4) :: (u199 5) :: (u199 6) :: (u199 7) :: (u199 8) :: (u199 9) :: (u199 10) :: (u199 11) :: (u199 12) :: (u199 13) :: (u199 14) :: (u454 1) :: (u454 2) :: (.int .i64 x146) :: (u454 3) :: (u454 4) :: (.int .u8 x251.1) :: (u454 5) :: (.int .i64 x146) :: (u454 6) :: (u454 7) :: (.int .u8 x272.2.1) :: (u454 8) :: (.int .i64 x146) :: (u454 9) :: (u454 10) :: (.int .u8 x293.2.2.1) :: (u454 11) :: (.int .i64 x146) :: (u454 12) :: (u454 13) :: (.int .u8 x314.2.2.2) :: (u454 14) :: (u454 15) :: (u454 16) :: (u454 17) :: (.int .i64 x146) :: (u454 18) :: (u454 19) :: (u454 20) :: (.int .i64 x146) :: (u454 21) :: (u454 22) :: (.int .u32 x397) :: (.int .i64 (IntKind.i64.wrap x397)) :: (.int .i64 x138) :: (u454 23) :: (.int .i64 x146) :: (u454 24) :: (u454 25) :: (.int .i64 ((x382.length : Nat) : Int)) :: (u454 26) :: (u454 27) :: (u454 28) :: (.int .i64 x408) :: (u454 29) :: (u454 30) :: (u454 31) :: (u454 32) :: (u454 33) :: (.int .i64 x146) :: (u454 34) :: (u454 35) :: (u454 36) :: (u454 37) :: (u454 38) :: (u454 39) :: (u454 40) :: (u454 41) :: (u454 42) :: (u454 43) :: (u137 94) :: (u137 95) :: (u137 96) :: (u137 97) :: (u137 98) :: (u137 99) :: (u137 100) :: (u137 101) :: undef :: undef :: undef :: undef :: undef :: undef :: undef :: undef :: undef :: undef :: undef :: undef :: undef :: undef :: undef :: undef :: undef :: undef :: undef :: undef :: undef :: undef :: undef :: undef :: undef :: undef :: undef :: undef :: undef :: undef :: undef :: undef :: undef :: undef :: undef :: undef :: undef :: undef :: undef :: []).toArray, []⟩ ∧ rJoin_L3 N k l457 = some c449 ∧ St [] w0 w [poolE ([]) w0, rowE .u8 5 A417 c418 l414, rowE .u8 5 A455 c456 l457]) N ?_ ?_
                      · exact ⟨l436, A439, c440, (fun i => List.getD ((.slice A406 l405.length c407) :: (.slice A139 l141.length c140) :: (.slice A0 p0.length c0) :: (.pointer (some ⟨g253, o254, none⟩)) :: (.pointer (some ⟨g253, o254, none⟩)) :: (.slice A0 p0.length c0) :: (.pointer (some ⟨g274, o275, none⟩)) :: (.pointer (some ⟨g274, o275 + 1, none⟩)) :: (.slice A0 p0.length c0) :: (.pointer (some ⟨g295, o296, none⟩)) :: (.pointer (some ⟨g295, o296 + 2, none⟩)) :: (.slice A0 p0.length c0) :: (.pointer (some ⟨g316, o317, none⟩)) :: (.pointer (some ⟨g316, o317 + 3, none⟩)) :: (.slice (some ⟨w249.heap.size, 0, none⟩) (([x251.1, x272.2.1, x293.2.2.1, x314.2.2.2]).length) 4) :: (.slice A340 l337.length c341) :: (.tuple #[.slice A406 l405.length c407, .int .i64 x408]) :: (.slice A0 p0.length c0) :: (.pointer (some ⟨g350, o351, none⟩)) :: (.agg #[.int .u8 x348.1, .int .u8 x348.2.1, .int .u8 x348.2.2.1, .int .u8 x348.2.2.2]) :: (.slice A1 p1.length c1) :: (.pointer (some ⟨g371, o372, none⟩)) :: (.slice A378 x369.length c379) :: (.slice A1 p1.length c1) :: (.pointer (some ⟨g384, o385, none⟩)) :: (.slice A391 x382.length c392) :: (.slice (some ⟨w398.heap.size, 0, none⟩) (([(IntKind.i64.wrap x397), x138, ((x382.length : Nat) : Int)]).length) 3) :: (.tuple #[.slice A406 l405.length c407, .int .i64 x408]) :: (.slice A406 l405.length c407) :: (.slice A340 l337.length c341) :: (.slice A406 l405.length c407) :: (.slice A417 l414.length c418) :: (.slice A142 l144.length c143) :: (.slice A1 p1.length c1) :: (.pointer (some ⟨g425, o426, none⟩)) :: (.slice A432 x423.length c433) :: (.slice A439 l436.length c440) :: (u137 87) :: (u137 88) :: (u137 89) :: (u137 90) :: (u137 91) :: (u137 92) :: (u137 93) :: []) i undef), by kernel_rfl, hE450, (hS442.pick [0, 1, 2] rfl rfl)⟩
                      · rintro k458 _ w452 ⟨l457, A455, c456, u454, rfl, hL459, hS453⟩
                        cases k458 with
                        | zero => cases hL459
                        | succ k458 =>
                          rw [rJoin_L3] at hL459
                          refine gx_seq (fun K460 hK461 => ?_)
                          refine gx_seq (fun K462 hK463 => ?_)
                          refine gx_region ?_
                          refine gx_val (.slice A455 l457.length c456) w452 (by kernel_rfl) (by kernel_rfl) ?_
                          refine gx_val (.int .i64 ((l457.length : Nat) : Int)) w452 (by kernel_rfl) (by kernel_rfl) ?_
                          refine gx_val (.int .i64 (Int.tmod ((l457.length : Nat) : Int) 4)) w452 (by kernel_rfl) (by kernel_rfl) ?_
                          rcases if_in hL459 with ⟨h464, hL459⟩ | ⟨h464, hL459⟩
                          · refine gx_val (.bool true) w452 (by kernel_rfl) (run_boolE (ne_yes h464) (by kernel_rfl)) ?_
                            refine gx_nil ?_
                            refine gx_thenN ?_
                            refine hK463 _ _ ?_
                            refine gx_yes (by kernel_rfl) ?_
                            refine gx_pass ?_
                            refine gx_thenN ?_
                            refine hK461 _ _ ?_
                            refine gx_block ?_
                            refine gx_region ?_
                            refine gx_val (.slice A455 l457.length c456) w452 (by kernel_rfl) (by kernel_rfl) ?_
                            refine gx_R (by kernel_rfl) (st_made .u8 5 [0] hS453 (by show 1 ≤ 1000000000; decide) (by kernel_rfl)) ?_
                            rintro _ w465 ⟨rfl, hS466⟩
                            have hS466 : St _ _ w465 [poolE ([]) w0, rowE .u8 5 A417 c418 l414, rowE .u8 5 A455 c456 l457, rowE .u8 5 (some ⟨w452.heap.size, 0, none⟩) 1 ([0])] := hS466
                            obtain ⟨l467, ha468, hL459⟩ := bind_in hL459
                            obtain ⟨ha468, hq469⟩ := apx_in ha468
                            refine gx_R (by kernel_rfl) (st_append rfl (by kernel_rfl) (by kernel_rfl) hS466 2 rfl (hS466.row 3 rfl).1 (hS466.row 3 rfl).2 ha468 (by kernel_rfl) (by kernel_rfl)) ?_
                            rintro _ w472 ⟨A470, c471, rfl, hS473⟩
                            rw [← hq469] at hS473 ⊢
                            have hS473 : St _ _ w472 [poolE ([]) w0, rowE .u8 5 A417 c418 l414, rowE .u8 5 A470 c471 l467, rowE .u8 5 (some ⟨w452.heap.size, 0, none⟩) 1 ([0])] := hS473
                            refine gx_val (.slice A470 l467.length c471) w472 (by kernel_rfl) (by kernel_rfl) ?_
                            refine gx_nil ?_
                            refine gx_blkN ?_
                            refine gx_thenN ?_
                            exact ⟨k458, Nat.lt_succ_self k458, l467, A470, c471, (fun i => List.getD ((u454 0) :: (u454 1) :: (u454 2) :: (u454 3) :: (u454 4) :: (u454 5) :: (u454 6) :: (u454 7) :: (u454 8) :: (u454 9) :: (u454 10) :: (u454 11) :: (u454 12) :: (u454 13) :: (u454 14) :: (u454 15) :: (u454 16) :: (u454 17) :: (u454 18) :: (u454 19) :: (u454 20) :: (u454 21) :: (u454 22) :: (u454 23) :: (u454 24) :: (u454 25) :: (u454 26) :: (u454 27) :: (u454 28) :: (u454 29) :: (u454 30) :: (u454 31) :: (u454 32) :: (u454 33) :: (u454 34) :: (u454 35) :: (u454 36) :: (.slice A455 l457.length c456) :: (.int .i64 ((l457.length : Nat) : Int)) :: (.int .i64 (Int.tmod ((l457.length : Nat) : Int) 4)) :: (.bool true) :: (.slice A455 l457.length c456) :: (.slice (some ⟨w452.heap.size, 0, none⟩) (([0]).length) 1) :: (.slice A470 l467.length c471) :: []) i undef), by kernel_rfl, hL459, (hS473.pick [0, 1, 2] rfl rfl)⟩
                          · refine gx_val (.bool false) w452 (by kernel_rfl) (run_boolE (ne_no h464) (by kernel_rfl)) ?_
                            refine gx_nil ?_
                            refine gx_thenN ?_
                            refine hK463 _ _ ?_
                            refine gx_no (by kernel_rfl) ?_
                            refine gx_exit ?_
                            refine gx_thenE ?_
                            refine gx_thenE ?_
                            refine gx_blkE ?_
                            refine gx_thenN ?_
                            exact ⟨l457, A455, c456, (fun i => List.getD ((u454 0) :: (u454 1) :: (u454 2) :: (u454 3) :: (u454 4) :: (u454 5) :: (u454 6) :: (u454 7) :: (u454 8) :: (u454 9) :: (u454 10) :: (u454 11) :: (u454 12) :: (u454 13) :: (u454 14) :: (u454 15) :: (u454 16) :: (u454 17) :: (u454 18) :: (u454 19) :: (u454 20) :: (u454 21) :: (u454 22) :: (u454 23) :: (u454 24) :: (u454 25) :: (u454 26) :: (u454 27) :: (u454 28) :: (u454 29) :: (u454 30) :: (u454 31) :: (u454 32) :: (u454 33) :: (u454 34) :: (u454 35) :: (u454 36) :: (.slice A455 l457.length c456) :: (.int .i64 ((l457.length : Nat) : Int)) :: (.int .i64 (Int.tmod ((l457.length : Nat) : Int) 4)) :: (.bool false) :: (u454 41) :: (u454 42) :: (u454 43) :: []) i undef), by kernel_rfl, (Option.some.inj hL459), hS453⟩
                    · rintro _ w443 ⟨l448, A446, c447, u445, rfl, rfl, hS444⟩
                      try dsimp only at hO451
                      refine gx_region ?_
                      refine gx_val (.int .i64 x138) w443 (by kernel_rfl) (by kernel_rfl) ?_
                      refine gx_val (.slice A1 p1.length c1) w443 (by kernel_rfl) (by kernel_rfl) ?_
                      refine gx_val (.int .i64 x146) w443 (by kernel_rfl) (by kernel_rfl) ?_
                      obtain ⟨x474, hx475, hO451⟩ := bind_in hO451
                      obtain ⟨g476, o477, e478, hA479, he480, h481, ha482⟩ := elem_at (e := (rowOf (intE .u8))) (sl_lies (hS444.inn ho1 hv1)) (sl_each hv1) hx475 (by decide)
                      obtain ⟨A483, c484, vs485, rfl, hf486⟩ := h481
                      have ha482 : ∀ w', Lies w' A1 vs1 → w'.rangeAt g476 o477 [.slice A483 x474.length c484] := ha482
                      refine gx_val (.pointer (some ⟨g476, o477, none⟩)) w443 (by kernel_rfl) (run_ixaddrN (E := 22) (s := 1) (k := .i64) (c := c1) rfl (by kernel_rfl) (by kernel_rfl) (by kernel_rfl) (fun _ => by kernel_rfl) (ixg_in hx475).1 (ixg_in hx475).2.1 hA479) ?_
                      refine gx_val (.slice A483 x474.length c484) w443 (by kernel_rfl) (run_loadN1 0 rfl (by kernel_rfl) (fun _ => by kernel_rfl) (ha482 _ (sl_lies (hS444.inn ho1 hv1))) rfl) ?_
                      refine gx_val (.int .i64 ((x474.length : Nat) : Int)) w443 (by kernel_rfl) (by kernel_rfl) ?_
                      have hP487 : St _ _ w443 ([] ++ [poolE ([]) w0, rowE .u8 5 A417 c418 l414, rowE .u8 5 A446 c447 l448]) := hS444
                      obtain ⟨x489, hc488, hO451⟩ := bind_in hO451
                      try dsimp only at hO451
                      refine gx_call (rUp_R x489 w443) (by kernel_rfl) (by kernel_rfl) (rUp_ok N ((x474.length : Nat) : Int) _ hc488 w443 ) ?_
                      rintro _ w490 ⟨rfl, hT492⟩
                      have hS491 : St _ _ w490 [poolE ([]) w0, rowE .u8 5 A417 c418 l414, rowE .u8 5 A446 c447 l448] := hS444.take _ hT492
                      refine gx_val (.int .i64 (IntKind.i64.wrap (x138 + x489))) w490 (by kernel_rfl) (by kernel_rfl) ?_
                      refine gx_val (.int .i64 (IntKind.i64.wrap (x138 + x489))) w490 (by kernel_rfl) (by kernel_rfl) ?_
                      refine gx_nil ?_
                      refine gx_blkN ?_
                      refine gx_thenN ?_
                      exact ⟨(IntKind.i64.wrap (x138 + x489)), l414, l448, x200, A417, c418, A446, c447, (fun i => List.getD ((u170 0) :: (u170 1) :: (u445 0) :: (.int .i64 x408) :: (u170 2) :: (u170 3) :: (u170 4) :: (u170 5) :: (u170 6) :: (u170 7) :: (u170 8) :: (u170 9) :: (u170 10) :: (u170 11) :: (u199 0) :: (u199 1) :: (u199 2) :: (u199 3) :: (u199 4) :: (u199 5) :: (u199 6) :: (u199 7) :: (u199 8) :: (u199 9) :: (u199 10) :: (u199 11) :: (u199 12) :: (u199 13) :: (u199 14) :: (u445 1) :: (u445 2) :: (.int .i64 x146) :: (u445 3) :: (u445 4) :: (.int .u8 x251.1) :: (u445 5) :: (.int .i64 x146) :: (u445 6) :: (u445 7) :: (.int .u8 x272.2.1) :: (u445 8) :: (.int .i64 x146) :: (u445 9) :: (u445 10) :: (.int .u8 x293.2.2.1) :: (u445 11) :: (.int .i64 x146) :: (u445 12) :: (u445 13) :: (.int .u8 x314.2.2.2) :: (u445 14) :: (u445 15) :: (u445 16) :: (u445 17) :: (.int .i64 x146) :: (u445 18) :: (u445 19) :: (u445 20) :: (.int .i64 x146) :: (u445 21) :: (u445 22) :: (.int .u32 x397) :: (.int .i64 (IntKind.i64.wrap x397)) :: (.int .i64 x138) :: (u445 23) :: (.int .i64 x146) :: (u445 24) :: (u445 25) :: (.int .i64 ((x382.length : Nat) : Int)) :: (u445 26) :: (u445 27) :: (u445 28) :: (.int .i64 x408) :: (u445 29) :: (u445 30) :: (u445 31) :: (u445 32) :: (u445 33) :: (.int .i64 x146) :: (u445 34) :: (u445 35) :: (u445 36) :: (u445 37) :: (u445 38) :: (u445 39) :: (u445 40) :: (u445 41) :: (u445 42) :: (u445 43) :: (.int .i64 x138) :: (.slice A1 p1.length c1) :: (.int .i64 x146) :: (.pointer (some ⟨g476, o477, none⟩)) :: (.slice A483 x474.length c484) :: (.int .i64 ((x474.length : Nat) : Int)) :: (.int .i64 x489) :: (.int .i64 (IntKind.i64.wrap (x138 + x489))) :: []) i undef), by kernel_rfl, (Option.some.inj hO451), hS491⟩
              · rintro _ w154 ⟨x157, l160, l163, x164, A158, c159, A161, c162, u156, rfl, rfl, hS155⟩
                try dsimp only at hO167
                refine gx_region ?_
                refine gx_val (.int .i64 x146) w154 (by kernel_rfl) (by kernel_rfl) ?_
                refine gx_val (.int .i64 (IntKind.i64.wrap (x146 + 1))) w154 (by kernel_rfl) (by kernel_rfl) ?_
                refine gx_val (.int .i64 (IntKind.i64.wrap (x146 + 1))) w154 (by kernel_rfl) (by kernel_rfl) ?_
                refine gx_nil ?_
                refine gx_thenN ?_
                exact ⟨k147, Nat.lt_succ_self k147, x157, l160, l163, x164, (IntKind.i64.wrap (x146 + 1)), A158, c159, A161, c162, (fun i => List.getD ((u156 0) :: (u156 1) :: (u156 2) :: (u156 3) :: (.int .i64 x146) :: (.int .i64 ((p0.length : Nat) : Int)) :: (.bool true) :: (.int .i64 x146) :: (.int .i64 (IntKind.i64.wrap (x146 + 1))) :: (u156 4) :: (u156 5) :: (u156 6) :: (u156 7) :: (u156 8) :: (u156 9) :: (u156 10) :: (u156 11) :: (u156 12) :: (u156 13) :: (u156 14) :: (u156 15) :: (u156 16) :: (u156 17) :: (u156 18) :: (u156 19) :: (u156 20) :: (u156 21) :: (u156 22) :: (u156 23) :: (u156 24) :: (u156 25) :: (u156 26) :: (u156 27) :: (u156 28) :: (u156 29) :: (u156 30) :: (u156 31) :: (u156 32) :: (u156 33) :: (u156 34) :: (u156 35) :: (u156 36) :: (u156 37) :: (u156 38) :: (u156 39) :: (u156 40) :: (u156 41) :: (u156 42) :: (u156 43) :: (u156 44) :: (u156 45) :: (u156 46) :: (u156 47) :: (u156 48) :: (u156 49) :: (u156 50) :: (u156 51) :: (u156 52) :: (u156 53) :: (u156 54) :: (u156 55) :: (u156 56) :: (u156 57) :: (u156 58) :: (u156 59) :: (u156 60) :: (u156 61) :: (u156 62) :: (u156 63) :: (u156 64) :: (u156 65) :: (u156 66) :: (u156 67) :: (u156 68) :: (u156 69) :: (u156 70) :: (u156 71) :: (u156 72) :: (u156 73) :: (u156 74) :: (u156 75) :: (u156 76) :: (u156 77) :: (u156 78) :: (u156 79) :: (u156 80) :: (u156 81) :: (u156 82) :: (u156 83) :: (u156 84) :: (u156 85) :: (u156 86) :: (u156 87) :: (u156 88) :: (u156 89) :: (u156 90) :: (u156 91) :: (u156 92) :: (u156 93) :: (u156 94) :: (u156 95) :: (u156 96) :: []) i undef), by kernel_rfl, hO167, hS155⟩
            · refine gx_val (.bool false) w135 (by kernel_rfl) (run_boolE (decide_eq_false h153) (by kernel_rfl)) ?_
              refine gx_nil ?_
              refine gx_thenN ?_
              refine hK152 _ _ ?_
              refine gx_no (by kernel_rfl) ?_
              refine gx_exit ?_
              refine gx_thenE ?_
              refine gx_thenE ?_
              refine gx_blkE ?_
              refine gx_thenN ?_
              exact ⟨x138, l141, l144, x145, A139, c140, A142, c143, (fun i => List.getD ((.slice A0 p0.length c0) :: (.slice A1 p1.length c1) :: (u137 0) :: (u137 1) :: (.int .i64 x146) :: (u137 2) :: (u137 3) :: (.int .i64 x146) :: (.int .i64 ((p0.length : Nat) : Int)) :: (.bool false) :: (u137 7) :: (u137 8) :: (u137 9) :: (u137 10) :: (u137 11) :: (u137 12) :: (u137 13) :: (u137 14) :: (u137 15) :: (u137 16) :: (u137 17) :: (u137 18) :: (u137 19) :: (u137 20) :: (u137 21) :: (u137 22) :: (u137 23) :: (u137 24) :: (u137 25) :: (u137 26) :: (u137 27) :: (u137 28) :: (u137 29) :: (u137 30) :: (u137 31) :: (u137 32) :: (u137 33) :: (u137 34) :: (u137 35) :: (u137 36) :: (u137 37) :: (u137 38) :: (u137 39) :: (u137 40) :: (u137 41) :: (u137 42) :: (u137 43) :: (u137 44) :: (u137 45) :: (u137 46) :: (u137 47) :: (u137 48) :: (u137 49) :: (u137 50) :: (u137 51) :: (u137 52) :: (u137 53) :: (u137 54) :: (u137 55) :: (u137 56) :: (u137 57) :: (u137 58) :: (u137 59) :: (u137 60) :: (u137 61) :: (u137 62) :: (u137 63) :: (u137 64) :: (u137 65) :: (u137 66) :: (u137 67) :: (u137 68) :: (u137 69) :: (u137 70) :: (u137 71) :: (u137 72) :: (u137 73) :: (u137 74) :: (u137 75) :: (u137 76) :: (u137 77) :: (u137 78) :: (u137 79) :: (u137 80) :: (u137 81) :: (u137 82) :: (u137 83) :: (u137 84) :: (u137 85) :: (u137 86) :: (u137 87) :: (u137 88) :: (u137 89) :: (u137 90) :: (u137 91) :: (u137 92) :: (u137 93) :: (u137 94) :: (u137 95) :: (u137 96) :: (u137 97) :: (u137 98) :: (u137 99) :: (u137 100) :: (u137 101) :: []) i undef), by kernel_rfl, (Option.some.inj hL148), hS136⟩
      · rintro _ w118 ⟨x121, l124, l127, x128, A122, c123, A125, c126, u120, rfl, rfl, hS119⟩
        try dsimp only at hO131
        refine gx_seq (fun K493 hK494 => ?_)
        refine gx_seq (fun K495 hK496 => ?_)
        refine gx_region ?_
        refine gx_val (.int .i64 x121) w118 (by kernel_rfl) (by kernel_rfl) ?_
        rcases if_in hO131 with ⟨h497, hO131⟩ | ⟨h497, hO131⟩
        · refine gx_val (.bool true) w118 (by kernel_rfl) (run_boolE (decide_eq_true h497) (by kernel_rfl)) ?_
          refine gx_nil ?_
          refine gx_thenN ?_
          refine hK496 _ _ ?_
          refine gx_yes (by kernel_rfl) ?_
          refine gx_seq (fun K498 hK499 => ?_)
          refine gx_region ?_
          refine gx_val (.slice none 0 0) w118 (by kernel_rfl) (by kernel_rfl) ?_
          refine gx_val (.int .i64 3) w118 (by kernel_rfl) (by kernel_rfl) ?_
          refine gx_nil ?_
          refine gx_thenN ?_
          refine hK499 _ _ ?_
          refine gx_ret ?_
          refine gx_thenR ?_
          have hS500 : St _ _ w118 [poolE ([]) w0, rowE .u8 5 A122 c123 l124, rowE .u8 5 A125 c126 l127, rowE .u8 5 none 0 ([])] := hS119.nilrow .u8 5
          obtain rfl := Option.some.inj hO131
          exact gx_fin (.tuple #[.slice none (([] : List Int).length) 0, .int .i64 3]) (by kernel_rfl) (by kernel_rfl) ⟨_, rfl, none, 0, rfl, (hS500.pick [3] rfl rfl)⟩
        · refine gx_val (.bool false) w118 (by kernel_rfl) (run_boolE (decide_eq_false h497) (by kernel_rfl)) ?_
          refine gx_nil ?_
          refine gx_thenN ?_
          refine hK496 _ _ ?_
          refine gx_no (by kernel_rfl) ?_
          refine gx_pass ?_
          refine gx_thenN ?_
          refine hK494 _ _ ?_
          refine gx_seq (fun K501 hK502 => ?_)
          refine gx_region ?_
          refine gx_val (.slice A122 l124.length c123) w118 (by kernel_rfl) (by kernel_rfl) ?_
          refine gx_val (.slice A125 l127.length c126) w118 (by kernel_rfl) (by kernel_rfl) ?_
          obtain ⟨l503, ha504, hO131⟩ := bind_in hO131
          obtain ⟨ha504, hq505⟩ := apx_in ha504
          refine gx_R (by kernel_rfl) (st_append rfl (by kernel_rfl) (by kernel_rfl) hS119 1 rfl (hS119.row 2 rfl).1 (hS119.row 2 rfl).2 ha504 (by kernel_rfl) (by kernel_rfl)) ?_
          rintro _ w508 ⟨A506, c507, rfl, hS509⟩
          rw [← hq505] at hS509 ⊢
          have hS509 : St _ _ w508 [poolE ([]) w0, rowE .u8 5 A506 c507 l503, rowE .u8 5 A125 c126 l127] := hS509
          refine gx_val (.slice A506 l503.length c507) w508 (by kernel_rfl) (by kernel_rfl) ?_
          refine gx_nil ?_
          refine gx_thenN ?_
          refine hK502 _ _ ?_
          obtain ⟨c515, hE516, hO517⟩ := bind_in hO131
          refine gx_cut (fun a w => ∃ (l514 : List Int) (u512 : Nat → Value), a = ⟨((u120 0) :: (u120 1) :: undef :: undef :: (u120 2) :: (u120 3) :: (.int .i64 ((p0.length : Nat) : Int)) :: (.int .i64 x121) :: (u512 0) :: (u512 1) :: (.int .i64 x128) :: (u43 2) :: (u120 4) :: (u120 5) :: (u120 6) :: (.slice A506 l503.length c507) :: (u512 2) :: (u512 3) :: (u512 4) :: (u512 5) :: (u7 2) :: (.int .i64 ((p0.length : Nat) : Int)) :: (u7 3) :: (u7 4) :: (u7 5) :: (u7 6) :: (u7 7) :: (u7 8) :: (u7 9) :: (u7 10) :: (u7 11) :: (u7 12) :: (u7 13) :: (u7 14) :: (.int .i64 ((p0.length : Nat) : Int)) :: (.int .i64 (IntKind.i64.wrap ((16 : Int) * ((p0.length : Nat) : Int)))) :: (.int .i64 (IntKind.i64.wrap ((12 : Int) + (IntKind.i64.wrap ((16 : Int) * ((p0.length : Nat) : Int)))))) :: (.int .i64 ((p0.length : Nat) : Int)) :: (u43 3) :: (u43 4) :: (u43 5) :: (u43 6) :: (u43 7) :: (u43 8) :: (u43 9) :: (u43 10) :: (u43 11) :: (u43 12) :: (u43 13) :: (u43 14) :: (u43 15) :: (u43 16) :: (u43 17) :: (u43 18) :: (u43 19) :: (u43 20) :: (u43 21) :: (u43 22) :: (u43 23) :: (u120 7) :: (u120 8) :: (u120 9) :: (u120 10) :: (u120 11) :: (u120 12) :: (u120 13) :: (u120 14) :: (u120 15) :: (u120 16) :: (u120 17) :: (u120 18) :: (u120 19) :: (u120 20) :: (u120 21) :: (u120 22) :: (u120 23) :: (u120 24) :: (u120 25) :: (u120 26) :: (u120 27) :: (u120 28) :: (u120 29) :: (u120 30) :: (u120 31) :: (u120 32) :: (u120 33) :: (u120 34) :: (u120 35) :: (u120 36) :: (u120 37) :: (u120 38) :: (u120 39) :: (u120 40) :: (u120 41) :: (u120 42) :: (u120 43) :: (u120 44) :: (u120 45) :: (u120 46) :: (u120 47) :: (u120 48) :: (u120 49) :: (u120 50) :: (u120 51) :: (u120 52) :: (u120 53) :: (u120 54) :: (u120 55) :: (u120 56) :: (u120 57) :: (u120 58) :: (u120 59) :: (u120 60) :: (u120 61) :: (u120 62) :: (u120 63) :: (u120 64) :: (u120 65) :: (u120 66) :: (u120 67) :: (u120 68) :: (u120 69) :: (u120 70) :: (u120 71) :: (u120 72) :: (u120 73) :: (u120 74) :: (u120 75) :: (u120 76) :: (u120 77) :: (u120 78) :: (u120 79) :: (u120 80) :: (u120 81) :: (u120 82) :: (u120 83) :: (u120 84) :: (u120 85) :: (u120 86) :: (u120 87) :: (u120 88) :: (u120 89) :: (u120 90) :: (u120 91) :: (u120 92) :: (u120 93) :: (u120 94) :: (u120 95) :: (u120 96) :: (u120 97) :: (u120 98) :: (u120 99) :: (u120 100) :: (u120 101) :: (u120 102) :: (u120 103) :: (u120 104) :: (.int .i64 x121) :: (.bool false) :: (u512 6) :: (u512 7) :: (u512 8) :: (u512 9) :: (u512 10) :: (u512 11) :: (u512 12) :: (u512 13) :: (u512 14) :: (u512 15) :: (u512 16) :: (u512 17) :: (u512 18) :: (u512 19) :: (u512 20) :: (u512 21) :: (u512 22) :: (u512 23) :: (u512 24) :: (u512 25) :: (u512 26) :: (u512 27) :: (u512 28) :: (u512 29) :: (u512 30) :: (u512 31) :: (u512 32) :: (u512 33) :: (u512 34) :: (u512 35) :: (u512 36) :: (u512 37) :: (u512 38) :: (u512 39) :: (u512 40) :: (u512 41) :: undef :: []).toArray, []⟩ ∧ l514 = c515 ∧ St [] w0 w [poolE ([]) w0, rowE .u8 5 A506 c507 l514] ∧ l503.length = l514.length) ?_ ?_
          · refine gx_seq (fun K518 hK519 => ?_)
            refine gx_region ?_
            refine gx_val (.int .i64 x128) w508 (by kernel_rfl) (by kernel_rfl) ?_
            rcases if_in hE516 with ⟨h520, hE516⟩ | ⟨h520, hE516⟩
            · refine gx_val (.bool true) w508 (by kernel_rfl) (run_boolE (decide_eq_true h520) (by kernel_rfl)) ?_
              refine gx_nil ?_
              refine gx_thenN ?_
              refine hK519 _ _ ?_
              refine gx_yes (by kernel_rfl) ?_
              obtain ⟨c526, hE527, hO528⟩ := bind_in hE516
              refine gx_cut (fun a w => ∃ (l525 : List Int) (u523 : Nat → Value), a = ⟨((u120 0) :: (u120 1) :: undef :: undef :: (u120 2) :: (u120 3) :: (.int .i64 ((p0.length : Nat) : Int)) :: (.int .i64 x121) :: (u523 0) :: (u523 1) :: (.int .i64 x128) :: (u43 2) :: (u120 4) :: (u120 5) :: (u120 6) :: (.slice A506 l503.length c507) :: (u523 2) :: undef :: undef :: undef :: (u7 2) :: (.int .i64 ((p0.length : Nat) : Int)) :: (u7 3) :: (u7 4) :: (u7 5) :: (u7 6) :: (u7 7) :: (u7 8) :: (u7 9) :: (u7 10) :: (u7 11) :: (u7 12) :: (u7 13) :: (u7 14) :: (.int .i64 ((p0.length : Nat) : Int)) :: (.int .i64 (IntKind.i64.wrap ((16 : Int) * ((p0.length : Nat) : Int)))) :: (.int .i64 (IntKind.i64.wrap ((12 : Int) + (IntKind.i64.wrap ((16 : Int) * ((p0.length : Nat) : Int)))))) :: (.int .i64 ((p0.length : Nat) : Int)) :: (u43 3) :: (u43 4) :: (u43 5) :: (u43 6) :: (u43 7) :: (u43 8) :: (u43 9) :: (u43 10) :: (u43 11) :: (u43 12) :: (u43 13) :: (u43 14) :: (u43 15) :: (u43 16) :: (u43 17) :: (u43 18) :: (u43 19) :: (u43 20) :: (u43 21) :: (u43 22) :: (u43 23) :: (u120 7) :: (u120 8) :: (u120 9) :: (u120 10) :: (u120 11) :: (u120 12) :: (u120 13) :: (u120 14) :: (u120 15) :: (u120 16) :: (u120 17) :: (u120 18) :: (u120 19) :: (u120 20) :: (u120 21) :: (u120 22) :: (u120 23) :: (u120 24) :: (u120 25) :: (u120 26) :: (u120 27) :: (u120 28) :: (u120 29) :: (u120 30) :: (u120 31) :: (u120 32) :: (u120 33) :: (u120 34) :: (u120 35) :: (u120 36) :: (u120 37) :: (u120 38) :: (u120 39) :: (u120 40) :: (u120 41) :: (u120 42) :: (u120 43) :: (u120 44) :: (u120 45) :: (u120 46) :: (u120 47) :: (u120 48) :: (u120 49) :: (u120 50) :: (u120 51) :: (u120 52) :: (u120 53) :: (u120 54) :: (u120 55) :: (u120 56) :: (u120 57) :: (u120 58) :: (u120 59) :: (u120 60) :: (u120 61) :: (u120 62) :: (u120 63) :: (u120 64) :: (u120 65) :: (u120 66) :: (u120 67) :: (u120 68) :: (u120 69) :: (u120 70) :: (u120 71) :: (u120 72) :: (u120 73) :: (u120 74) :: (u120 75) :: (u120 76) :: (u120 77) :: (u120 78) :: (u120 79) :: (u120 80) :: (u120 81) :: (u120 82) :: (u120 83) :: (u120 84) :: (u120 85) :: (u120 86) :: (u120 87) :: (u120 88) :: (u120 89) :: (u120 90) :: (u120 91) :: (u120 92) :: (u120 93) :: (u120 94) :: (u120 95) :: (u120 96) :: (u120 97) :: (u120 98) :: (u120 99) :: (u120 100) :: (u120 101) :: (u120 102) :: (u120 103) :: (u120 104) :: (.int .i64 x121) :: (.bool false) :: (u523 3) :: (u523 4) :: (u523 5) :: (.int .i64 x128) :: (.bool true) :: (u523 6) :: (u523 7) :: (u523 8) :: (u523 9) :: (u523 10) :: (u523 11) :: (u523 12) :: (u523 13) :: (u523 14) :: undef :: undef :: undef :: undef :: undef :: undef :: undef :: undef :: undef :: undef :: undef :: undef :: undef :: undef :: undef :: undef :: undef :: undef :: undef :: undef :: undef :: undef :: undef :: []).toArray, []⟩ ∧ l525 = c526 ∧ St [] w0 w [poolE ([]) w0, rowE .u8 5 A506 c507 l525] ∧ l503.length = l525.length) ?_ ?_
              · refine gx_seq (fun K529 hK530 => ?_)
                refine gx_region ?_
                refine gx_val (.int .i64 0) w508 (by kernel_rfl) (by kernel_rfl) ?_
                refine gx_nil ?_
                refine gx_thenN ?_
                refine hK530 _ _ ?_
                refine gx_block ?_
                refine gx_loop (fun k a w => ∃ (l535 : List Int) (x536 : Int) (u533 : Nat → Value), a = ⟨((u120 0) :: (u120 1) :: undef :: undef :: (u120 2) :: (u120 3) :: (.int .i64 ((p0.length : Nat) : Int)) :: (.int .i64 x121) :: (u533 0) :: (u533 1) :: (.int .i64 x128) :: (u43 2) :: (u120 4) :: (u120 5) :: (u120 6) :: (.slice A506 l503.length c507) :: (.int .i64 x536) :: undef :: undef :: undef :: (u7 2) :: (.int .i64 ((p0.length : Nat) : Int)) :: (u7 3) :: (u7 4) :: (u7 5) :: (u7 6) :: (u7 7) :: (u7 8) :: (u7 9) :: (u7 10) :: (u7 11) :: (u7 12) :: (u7 13) :: (u7 14) :: (.int .i64 ((p0.length : Nat) : Int)) :: (.int .i64 (IntKind.i64.wrap ((16 : Int) * ((p0.length : Nat) : Int)))) :: (.int .i64 (IntKind.i64.wrap ((12 : Int) + (IntKind.i64.wrap ((16 : Int) * ((p0.length : Nat) : Int)))))) :: (.int .i64 ((p0.length : Nat) : Int)) :: (u43 3) :: (u43 4) :: (u43 5) :: (u43 6) :: (u43 7) :: (u43 8) :: (u43 9) :: (u43 10) :: (u43 11) :: (u43 12) :: (u43 13) :: (u43 14) :: (u43 15) :: (u43 16) :: (u43 17) :: (u43 18) :: (u43 19) :: (u43 20) :: (u43 21) :: (u43 22) :: (u43 23) :: (u120 7) :: (u120 8) :: (u120 9) :: (u120 10) :: (u120 11) :: (u120 12) :: (u120 13) :: (u120 14) :: (u120 15) :: (u120 16) :: (u120 17) :: (u120 18) :: (u120 19) :: (u120 20) :: (u120 21) :: (u120 22) :: (u120 23) :: (u120 24) :: (u120 25) :: (u120 26) :: (u120 27) :: (u120 28) :: (u120 29) :: (u120 30) :: (u120 31) :: (u120 32) :: (u120 33) :: (u120 34) :: (u120 35) :: (u120 36) :: (u120 37) :: (u120 38) :: (u120 39) :: (u120 40) :: (u120 41) :: (u120 42) :: (u120 43) :: (u120 44) :: (u120 45) :: (u120 46) :: (u120 47) :: (u120 48) :: (u120 49) :: (u120 50) :: (u120 51) :: (u120 52) :: (u120 53) :: (u120 54) :: (u120 55) :: (u120 56) :: (u120 57) :: (u120 58) :: (u120 59) :: (u120 60) :: (u120 61) :: (u120 62) :: (u120 63) :: (u120 64) :: (u120 65) :: (u120 66) :: (u120 67) :: (u120 68) :: (u120 69) :: (u120 70) :: (u120 71) :: (u120 72) :: (u120 73) :: (u120 74) :: (u120 75) :: (u120 76) :: (u120 77) :: (u120 78) :: (u120 79) :: (u120 80) :: (u120 81) :: (u120 82) :: (u120 83) :: (u120 84) :: (u120 85) :: (u120 86) :: (u120 87) :: (u120 88) :: (u120 89) :: (u120 90) :: (u120 91) :: (u120 92) :: (u120 93) :: (u120 94) :: (u120 95) :: (u120 96) :: (u120 97) :: (u120 98) :: (u120 99) :: (u120 100) :: (u120 101) :: (u120 102) :: (u120 103) :: (u120 104) :: (.int .i64 x121) :: (.bool false) :: (u533 2) :: (u533 3) :: (u533 4) :: (.int .i64 x128) :: (.bool true) :: (u533 5) :: (u533 6) :: (u533 7) :: (u533 8) :: (u533 9) :: (u533 10) :: (u533 11) :: (u533 12) :: (u533 13) :: undef :: undef :: undef :: undef :: undef :: undef :: undef :: undef :: undef :: undef :: undef :: undef :: undef :: undef :: undef :: undef :: undef :: undef :: undef :: undef :: undef :: undef :: undef :: []).toArray, []⟩ ∧ rJoin_L4 N x128 k l535 x536 = some c526 ∧ St [] w0 w [poolE ([]) w0, rowE .u8 5 A506 c507 l535] ∧ l503.length = l535.length) N ?_ ?_
                · exact ⟨l503, 0, (fun i => List.getD ((.slice A122 l124.length c123) :: (.slice A125 l127.length c126) :: (.slice A122 l124.length c123) :: (.slice A125 l127.length c126) :: (.slice A506 l503.length c507) :: undef :: undef :: undef :: undef :: undef :: undef :: undef :: undef :: undef :: []) i undef), by kernel_rfl, hE527, (hS509.pick [0, 1] rfl rfl), rfl⟩
                · rintro k537 _ w531 ⟨l535, x536, u533, rfl, hL538, hS532, hn534⟩
                  cases k537 with
                  | zero => cases hL538
                  | succ k537 =>
                    rw [rJoin_L4] at hL538
                    refine gx_seq (fun K539 hK540 => ?_)
                    refine gx_seq (fun K541 hK542 => ?_)
                    refine gx_region ?_
                    refine gx_val (.int .i64 x536) w531 (by kernel_rfl) (by kernel_rfl) ?_
                    rcases if_in hL538 with ⟨h543, hL538⟩ | ⟨h543, hL538⟩
                    · refine gx_val (.bool true) w531 (by kernel_rfl) (run_boolE (decide_eq_true h543) (by kernel_rfl)) ?_
                      refine gx_nil ?_
                      refine gx_thenN ?_
                      refine hK542 _ _ ?_
                      refine gx_yes (by kernel_rfl) ?_
                      refine gx_pass ?_
                      refine gx_thenN ?_
                      refine hK540 _ _ ?_
                      refine gx_seq (fun K544 hK545 => ?_)
                      refine gx_block ?_
                      refine gx_region ?_
                      refine gx_val (.slice A506 l503.length c507) w531 (by kernel_rfl) (by kernel_rfl) ?_
                      refine gx_val (.int .i64 x128) w531 (by kernel_rfl) (by kernel_rfl) ?_
                      refine gx_val (.int .i64 x536) w531 (by kernel_rfl) (by kernel_rfl) ?_
                      refine gx_val (.int .i64 (IntKind.i64.wrap (x128 + x536))) w531 (by kernel_rfl) (by kernel_rfl) ?_
                      obtain ⟨x546, hx547, hL538⟩ := bind_in hL538
                      refine gx_val (.pointer (Option.map (fun p => p.add (Int.toNat (IntKind.i64.wrap (x128 + x536)) * 1)) A506)) w531 (by kernel_rfl) (run_ixaddr (E := 5) (s := 1) (k := .i64) (c := c507) rfl (by kernel_rfl) (by kernel_rfl) (by kernel_rfl) (fun _ => by kernel_rfl) (ix_in hx547).1 (lt_len hn534 (ix_in hx547).2.1) (nil_len hn534 (num_nil (hS532.row 1 rfl).1))) ?_
                      obtain ⟨l550, hx551, hL538⟩ := bind_in hL538
                      refine gx_S (by kernel_rfl) (st_storeix rfl (by kernel_rfl) (by kernel_rfl) (fun _ => by kernel_rfl) hS532 1 rfl hx551) ?_
                      rintro w548 hS549
                      have hS549 : St _ _ w548 [poolE ([]) w0, rowE .u8 5 A506 c507 l550] := hS549
                      refine gx_nil ?_
                      refine gx_blkN ?_
                      refine gx_thenN ?_
                      refine hK545 _ _ ?_
                      refine gx_region ?_
                      refine gx_val (.int .i64 x536) w548 (by kernel_rfl) (by kernel_rfl) ?_
                      refine gx_val (.int .i64 (IntKind.i64.wrap (x536 + 1))) w548 (by kernel_rfl) (by kernel_rfl) ?_
                      refine gx_val (.int .i64 (IntKind.i64.wrap (x536 + 1))) w548 (by kernel_rfl) (by kernel_rfl) ?_
                      refine gx_nil ?_
                      refine gx_thenN ?_
                      exact ⟨k537, Nat.lt_succ_self k537, l550, (IntKind.i64.wrap (x536 + 1)), (fun i => List.getD ((u533 0) :: (u533 1) :: (u533 2) :: (u533 3) :: (u533 4) :: (.int .i64 x536) :: (.bool true) :: (.int .i64 x536) :: (.int .i64 (IntKind.i64.wrap (x536 + 1))) :: (.slice A506 l503.length c507) :: (.int .i64 x128) :: (.int .i64 x536) :: (.int .i64 (IntKind.i64.wrap (x128 + x536))) :: (.pointer (Option.map (fun p => p.add (Int.toNat (IntKind.i64.wrap (x128 + x536)) * 1)) A506)) :: []) i undef), by kernel_rfl, hL538, hS549, (hn534.trans (setx_len hx551).symm)⟩
                    · refine gx_val (.bool false) w531 (by kernel_rfl) (run_boolE (decide_eq_false h543) (by kernel_rfl)) ?_
                      refine gx_nil ?_
                      refine gx_thenN ?_
                      refine hK542 _ _ ?_
                      refine gx_no (by kernel_rfl) ?_
                      refine gx_exit ?_
                      refine gx_thenE ?_
                      refine gx_thenE ?_
                      refine gx_blkE ?_
                      refine gx_thenN ?_
                      exact ⟨l535, (fun i => List.getD ((u533 0) :: (u533 1) :: (.int .i64 x536) :: (u533 2) :: (u533 3) :: (u533 4) :: (.int .i64 x536) :: (.bool false) :: (u533 7) :: (u533 8) :: (u533 9) :: (u533 10) :: (u533 11) :: (u533 12) :: (u533 13) :: []) i undef), by kernel_rfl, (Option.some.inj hL538), hS532, hn534⟩
              · rintro _ w521 ⟨l525, u523, rfl, rfl, hS522, hn524⟩
                try dsimp only at hO528
                refine gx_seq (fun K552 hK553 => ?_)
                refine gx_region ?_
                refine gx_val (.slice A506 l503.length c507) w521 (by kernel_rfl) (by kernel_rfl) ?_
                have hP554 : St _ _ w521 ([] ++ [poolE ([]) w0, rowE .u8 5 A506 c507 l525]) := hS522
                obtain ⟨x556, hc555, hO528⟩ := bind_in hO528
                try dsimp only at hO528
                refine gx_call (hSum_R x556 w521) (by kernel_rfl) (by rw [← hn524] <;> kernel_rfl) (hSum_ok N l525 A506 c507 _ hc555 w521 (hP554.vwB 1 rfl)) ?_
                rintro _ w557 ⟨rfl, hT559⟩
                have hS558 : St _ _ w557 [poolE ([]) w0, rowE .u8 5 A506 c507 l525] := hS522.take _ hT559
                refine gx_val (.int .u32 (IntKind.u32.wrap ((2981146554 : Int) - x556))) w557 (by kernel_rfl) (by kernel_rfl) ?_
                refine gx_val (.int .i64 (IntKind.i64.wrap (IntKind.u32.wrap ((2981146554 : Int) - x556)))) w557 (by kernel_rfl) (by kernel_rfl) ?_
                refine gx_R (by kernel_rfl) (st_made .i64 2 [(IntKind.i64.wrap (IntKind.u32.wrap ((2981146554 : Int) - x556)))] hS558 (by show 1 ≤ 1000000000; decide) (by kernel_rfl)) ?_
                rintro _ w560 ⟨rfl, hS561⟩
                have hS561 : St _ _ w560 [poolE ([]) w0, rowE .u8 5 A506 c507 l525, rowE .i64 2 (some ⟨w557.heap.size, 0, none⟩) 1 ([(IntKind.i64.wrap (IntKind.u32.wrap ((2981146554 : Int) - x556)))])] := hS561
                have hP562 : St _ _ w560 ([] ++ [poolE ([]) w0, rowE .u8 5 A506 c507 l525, rowE .i64 2 (some ⟨w557.heap.size, 0, none⟩) 1 ([(IntKind.i64.wrap (IntKind.u32.wrap ((2981146554 : Int) - x556)))])]) := hS561
                obtain ⟨⟨l564, x567⟩, hc563, hO528⟩ := bind_in hO528
                try dsimp only at hO528
                refine gx_call (hPut_R (l564, x567) w560) (by kernel_rfl) (by kernel_rfl) (hPut_ok N ([(IntKind.i64.wrap (IntKind.u32.wrap ((2981146554 : Int) - x556)))]) (⟨#[73]⟩ : ByteArray) (some ⟨w557.heap.size, 0, none⟩) 1 _ hc563 w560 (hP562.vwB 2 rfl)) ?_
                rintro _ w568 ⟨A565, c566, rfl, hT570⟩
                have hS569 : St _ _ w568 [poolE ([]) w0, rowE .u8 5 A506 c507 l525, rowE .i64 2 (some ⟨w557.heap.size, 0, none⟩) 1 ([(IntKind.i64.wrap (IntKind.u32.wrap ((2981146554 : Int) - x556)))]), rowE .u8 5 A565 c566 l564] := hS561.take _ hT570
                refine gx_val (.tuple #[.slice A565 l564.length c566, .int .i64 x567]) w568 (by kernel_rfl) (by kernel_rfl) ?_
                refine gx_val (.slice A565 l564.length c566) w568 (by kernel_rfl) (by kernel_rfl) ?_
                refine gx_val (.int .i64 x567) w568 (by kernel_rfl) (by kernel_rfl) ?_
                refine gx_val (.slice A565 l564.length c566) w568 (by kernel_rfl) (by kernel_rfl) ?_
                refine gx_val (.int .i64 x567) w568 (by kernel_rfl) (by kernel_rfl) ?_
                refine gx_nil ?_
                refine gx_thenN ?_
                refine hK553 _ _ ?_
                refine gx_seq (fun K571 hK572 => ?_)
                refine gx_region ?_
                refine gx_val (.int .i64 0) w568 (by kernel_rfl) (by kernel_rfl) ?_
                refine gx_nil ?_
                refine gx_thenN ?_
                refine hK572 _ _ ?_
                refine gx_block ?_
                refine gx_loop (fun k a w => ∃ (l577 : List Int) (x578 : Int) (u575 : Nat → Value), a = ⟨((u120 0) :: (u120 1) :: undef :: undef :: (u120 2) :: (u120 3) :: (.int .i64 ((p0.length : Nat) : Int)) :: (.int .i64 x121) :: (u523 0) :: (u523 1) :: (.int .i64 x128) :: (u43 2) :: (u120 4) :: (u120 5) :: (u120 6) :: (.slice A506 l503.length c507) :: (u523 2) :: (.slice A565 l564.length c566) :: (.int .i64 x567) :: (.int .i64 x578) :: (u7 2) :: (.int .i64 ((p0.length : Nat) : Int)) :: (u7 3) :: (u7 4) :: (u7 5) :: (u7 6) :: (u7 7) :: (u7 8) :: (u7 9) :: (u7 10) :: (u7 11) :: (u7 12) :: (u7 13) :: (u7 14) :: (.int .i64 ((p0.length : Nat) : Int)) :: (.int .i64 (IntKind.i64.wrap ((16 : Int) * ((p0.length : Nat) : Int)))) :: (.int .i64 (IntKind.i64.wrap ((12 : Int) + (IntKind.i64.wrap ((16 : Int) * ((p0.length : Nat) : Int)))))) :: (.int .i64 ((p0.length : Nat) : Int)) :: (u43 3) :: (u43 4) :: (u43 5) :: (u43 6) :: (u43 7) :: (u43 8) :: (u43 9) :: (u43 10) :: (u43 11) :: (u43 12) :: (u43 13) :: (u43 14) :: (u43 15) :: (u43 16) :: (u43 17) :: (u43 18) :: (u43 19) :: (u43 20) :: (u43 21) :: (u43 22) :: (u43 23) :: (u120 7) :: (u120 8) :: (u120 9) :: (u120 10) :: (u120 11) :: (u120 12) :: (u120 13) :: (u120 14) :: (u120 15) :: (u120 16) :: (u120 17) :: (u120 18) :: (u120 19) :: (u120 20) :: (u120 21) :: (u120 22) :: (u120 23) :: (u120 24) :: (u120 25) :: (u120 26) :: (u120 27) :: (u120 28) :: (u120 29) :: (u120 30) :: (u120 31) :: (u120 32) :: (u120 33) :: (u120 34) :: (u120 35) :: (u120 36) :: (u120 37) :: (u120 38) :: (u120 39) :: (u120 40) :: (u120 41) :: (u120 42) :: (u120 43) :: (u120 44) :: (u120 45) :: (u120 46) :: (u120 47) :: (u120 48) :: (u120 49) :: (u120 50) :: (u120 51) :: (u120 52) :: (u120 53) :: (u120 54) :: (u120 55) :: (u120 56) :: (u120 57) :: (u120 58) :: (u120 59) :: (u120 60) :: (u120 61) :: (u120 62) :: (u120 63) :: (u120 64) :: (u120 65) :: (u120 66) :: (u120 67) :: (u120 68) :: (u120 69) :: (u120 70) :: (u120 71) :: (u120 72) :: (u120 73) :: (u120 74) :: (u120 75) :: (u120 76) :: (u120 77) :: (u120 78) :: (u120 79) :: (u120 80) :: (u120 81) :: (u120 82) :: (u120 83) :: (u120 84) :: (u120 85) :: (u120 86) :: (u120 87) :: (u120 88) :: (u120 89) :: (u120 90) :: (u120 91) :: (u120 92) :: (u120 93) :: (u120 94) :: (u120 95) :: (u120 96) :: (u120 97) :: (u120 98) :: (u120 99) :: (u120 100) :: (u120 101) :: (u120 102) :: (u120 103) :: (u120 104) :: (.int .i64 x121) :: (.bool false) :: (u523 3) :: (u523 4) :: (u523 5) :: (.int .i64 x128) :: (.bool true) :: (u523 6) :: (u523 7) :: (u523 8) :: (u523 9) :: (u523 10) :: (u523 11) :: (u523 12) :: (u523 13) :: (u523 14) :: (u575 0) :: (u575 1) :: (.int .u32 x556) :: (.int .u32 (IntKind.u32.wrap ((2981146554 : Int) - x556))) :: (.int .i64 (IntKind.i64.wrap (IntKind.u32.wrap ((2981146554 : Int) - x556)))) :: (u575 2) :: (u575 3) :: (u575 4) :: (.int .i64 x567) :: (u575 5) :: (u575 6) :: (u575 7) :: (u575 8) :: (u575 9) :: (u575 10) :: (u575 11) :: (u575 12) :: (u575 13) :: (u575 14) :: (u575 15) :: (u575 16) :: (u575 17) :: undef :: []).toArray, []⟩ ∧ rJoin_L5 N x128 l564 k l577 x578 = some c515 ∧ St [] w0 w [poolE ([]) w0, rowE .u8 5 A506 c507 l577, rowE .u8 5 A565 c566 l564] ∧ l503.length = l577.length) N ?_ ?_
                · exact ⟨l525, 0, (fun i => List.getD ((.tuple #[.slice A565 l564.length c566, .int .i64 x567]) :: (.slice A506 l503.length c507) :: (.slice (some ⟨w557.heap.size, 0, none⟩) (([(IntKind.i64.wrap (IntKind.u32.wrap ((2981146554 : Int) - x556)))]).length) 1) :: (.tuple #[.slice A565 l564.length c566, .int .i64 x567]) :: (.slice A565 l564.length c566) :: undef :: undef :: undef :: undef :: undef :: undef :: undef :: undef :: undef :: undef :: undef :: undef :: undef :: []) i undef), by kernel_rfl, hO528, (hS569.pick [0, 1, 3] rfl rfl), hn524⟩
                · rintro k579 _ w573 ⟨l577, x578, u575, rfl, hL580, hS574, hn576⟩
                  cases k579 with
                  | zero => cases hL580
                  | succ k579 =>
                    rw [rJoin_L5] at hL580
                    refine gx_seq (fun K581 hK582 => ?_)
                    refine gx_seq (fun K583 hK584 => ?_)
                    refine gx_region ?_
                    refine gx_val (.int .i64 x578) w573 (by kernel_rfl) (by kernel_rfl) ?_
                    rcases if_in hL580 with ⟨h585, hL580⟩ | ⟨h585, hL580⟩
                    · refine gx_val (.bool true) w573 (by kernel_rfl) (run_boolE (decide_eq_true h585) (by kernel_rfl)) ?_
                      refine gx_nil ?_
                      refine gx_thenN ?_
                      refine hK584 _ _ ?_
                      refine gx_yes (by kernel_rfl) ?_
                      refine gx_pass ?_
                      refine gx_thenN ?_
                      refine hK582 _ _ ?_
                      refine gx_seq (fun K586 hK587 => ?_)
                      refine gx_block ?_
                      refine gx_region ?_
                      refine gx_val (.slice A506 l503.length c507) w573 (by kernel_rfl) (by kernel_rfl) ?_
                      refine gx_val (.int .i64 x128) w573 (by kernel_rfl) (by kernel_rfl) ?_
                      refine gx_val (.int .i64 x578) w573 (by kernel_rfl) (by kernel_rfl) ?_
                      refine gx_val (.int .i64 (IntKind.i64.wrap (x128 + x578))) w573 (by kernel_rfl) (by kernel_rfl) ?_
                      refine gx_val (.slice A565 l564.length c566) w573 (by kernel_rfl) (by kernel_rfl) ?_
                      refine gx_val (.int .i64 x578) w573 (by kernel_rfl) (by kernel_rfl) ?_
                      obtain ⟨x588, hx589, hL580⟩ := bind_in hL580
                      refine gx_val (.pointer (Option.map (fun p => p.add (Int.toNat x578 * 1)) A565)) w573 (by kernel_rfl) (run_ixaddr (E := 5) (s := 1) (k := .i64) (c := c566) rfl (by kernel_rfl) (by kernel_rfl) (by kernel_rfl) (fun _ => by kernel_rfl) (ix_in hx589).1 (ix_in hx589).2.1 (num_nil (hS574.row 2 rfl).1)) ?_
                      refine gx_val (.int .u8 x588) w573 (by kernel_rfl) (run_loadix rfl (by kernel_rfl) (fun _ => by kernel_rfl) (hS574.row 2 rfl).1 hx589) ?_
                      obtain ⟨x590, hx591, hL580⟩ := bind_in hL580
                      refine gx_val (.pointer (Option.map (fun p => p.add (Int.toNat (IntKind.i64.wrap (x128 + x578)) * 1)) A506)) w573 (by kernel_rfl) (run_ixaddr (E := 5) (s := 1) (k := .i64) (c := c507) rfl (by kernel_rfl) (by kernel_rfl) (by kernel_rfl) (fun _ => by kernel_rfl) (ix_in hx591).1 (lt_len hn576 (ix_in hx591).2.1) (nil_len hn576 (num_nil (hS574.row 1 rfl).1))) ?_
                      obtain ⟨l594, hx595, hL580⟩ := bind_in hL580
                      refine gx_S (by kernel_rfl) (st_storeix rfl (by kernel_rfl) (by kernel_rfl) (fun _ => by kernel_rfl) hS574 1 rfl hx595) ?_
                      rintro w592 hS593
                      have hS593 : St _ _ w592 [poolE ([]) w0, rowE .u8 5 A506 c507 l594, rowE .u8 5 A565 c566 l564] := hS593
                      refine gx_nil ?_
                      refine gx_blkN ?_
                      refine gx_thenN ?_
                      refine hK587 _ _ ?_
                      refine gx_region ?_
                      refine gx_val (.int .i64 x578) w592 (by kernel_rfl) (by kernel_rfl) ?_
                      refine gx_val (.int .i64 (IntKind.i64.wrap (x578 + 1))) w592 (by kernel_rfl) (by kernel_rfl) ?_
                      refine gx_val (.int .i64 (IntKind.i64.wrap (x578 + 1))) w592 (by kernel_rfl) (by kernel_rfl) ?_
                      refine gx_nil ?_
                      refine gx_thenN ?_
                      exact ⟨k579, Nat.lt_succ_self k579, l594, (IntKind.i64.wrap (x578 + 1)), (fun i => List.getD ((u575 0) :: (u575 1) :: (u575 2) :: (u575 3) :: (u575 4) :: (.int .i64 x578) :: (.bool true) :: (.int .i64 x578) :: (.int .i64 (IntKind.i64.wrap (x578 + 1))) :: (.slice A506 l503.length c507) :: (.int .i64 x128) :: (.int .i64 x578) :: (.int .i64 (IntKind.i64.wrap (x128 + x578))) :: (.slice A565 l564.length c566) :: (.int .i64 x578) :: (.pointer (Option.map (fun p => p.add (Int.toNat x578 * 1)) A565)) :: (.int .u8 x588) :: (.pointer (Option.map (fun p => p.add (Int.toNat (IntKind.i64.wrap (x128 + x578)) * 1)) A506)) :: []) i undef), by kernel_rfl, hL580, hS593, (hn576.trans (setx_len hx595).symm)⟩
                    · refine gx_val (.bool false) w573 (by kernel_rfl) (run_boolE (decide_eq_false h585) (by kernel_rfl)) ?_
                      refine gx_nil ?_
                      refine gx_thenN ?_
                      refine hK584 _ _ ?_
                      refine gx_no (by kernel_rfl) ?_
                      refine gx_exit ?_
                      refine gx_thenE ?_
                      refine gx_thenE ?_
                      refine gx_blkE ?_
                      refine gx_thenN ?_
                      exact ⟨l577, (fun i => List.getD ((u523 0) :: (u523 1) :: (u523 2) :: (.slice A565 l564.length c566) :: (.int .i64 x567) :: (.int .i64 x578) :: (u523 3) :: (u523 4) :: (u523 5) :: (.int .i64 x128) :: (.bool true) :: (u523 6) :: (u523 7) :: (u523 8) :: (u523 9) :: (u523 10) :: (u523 11) :: (u523 12) :: (u523 13) :: (u523 14) :: (u575 0) :: (u575 1) :: (.int .u32 x556) :: (.int .u32 (IntKind.u32.wrap ((2981146554 : Int) - x556))) :: (.int .i64 (IntKind.i64.wrap (IntKind.u32.wrap ((2981146554 : Int) - x556)))) :: (u575 2) :: (u575 3) :: (u575 4) :: (.int .i64 x567) :: (.int .i64 x578) :: (.bool false) :: (u575 7) :: (u575 8) :: (u575 9) :: (u575 10) :: (u575 11) :: (u575 12) :: (u575 13) :: (u575 14) :: (u575 15) :: (u575 16) :: (u575 17) :: []) i undef), by kernel_rfl, (Option.some.inj hL580), (hS574.pick [0, 1] rfl rfl), hn576⟩
            · refine gx_val (.bool false) w508 (by kernel_rfl) (run_boolE (decide_eq_false h520) (by kernel_rfl)) ?_
              refine gx_nil ?_
              refine gx_thenN ?_
              refine hK519 _ _ ?_
              refine gx_no (by kernel_rfl) ?_
              refine gx_pass ?_
              refine gx_thenN ?_
              exact ⟨l503, (fun i => List.getD ((.slice A122 l124.length c123) :: (.slice A125 l127.length c126) :: undef :: undef :: undef :: undef :: (.slice A122 l124.length c123) :: (.slice A125 l127.length c126) :: (.slice A506 l503.length c507) :: (.int .i64 x128) :: (.bool false) :: undef :: undef :: undef :: undef :: undef :: undef :: undef :: undef :: undef :: undef :: undef :: undef :: undef :: undef :: undef :: undef :: undef :: undef :: undef :: undef :: undef :: undef :: undef :: undef :: undef :: undef :: undef :: undef :: undef :: undef :: undef :: []) i undef), by kernel_rfl, (Option.some.inj hE516), (hS509.pick [0, 1] rfl rfl), rfl⟩
          · rintro _ w510 ⟨l514, u512, rfl, rfl, hS511, hn513⟩
            try dsimp only at hO517
            refine gx_seq (fun K596 hK597 => ?_)
            refine gx_region ?_
            refine gx_val (.slice A506 l503.length c507) w510 (by kernel_rfl) (by kernel_rfl) ?_
            refine gx_val (.slice A506 l503.length c507) w510 (by kernel_rfl) (by kernel_rfl) ?_
            refine gx_val (.int .i64 0) w510 (by kernel_rfl) (by kernel_rfl) ?_
            refine gx_nil ?_
            refine gx_thenN ?_
            refine hK597 _ _ ?_
            refine gx_ret ?_
            obtain rfl := Option.some.inj hO517
            exact gx_fin (.tuple #[.slice A506 l503.length c507, .int .i64 0]) (by kernel_rfl) (by kernel_rfl) ⟨_, rfl, A506, c507, by rw [← hn513] <;> kernel_rfl, (hS511.pick [1] rfl rfl)⟩

end Go.Proofs.Ytijmponhkabeiaa

/-
  JoiningKnown, walked.
-/
import Derived.Test.YtbdhgjaoojimmaaDoorFForms
import Derived.Test.YtbdhgjaoojimmaaDoorFPairs
import Derived.Test.YtbdhgjaoojimmaaDoorFPasses
import Derived.Test.YtbdhgjaoojimmaaDoorFAgree
namespace Go.Proofs.YtbdhgjaoojimmaaDoor
open Go Go.RowKit
set_option linter.unusedVariables false

def fKnown_L4 (N : Nat) (x80 : Int) (x82 : Int) (x84 : Int) (x87 : Int) : Nat → Int → Option (Ctl (Unit) (Bool))
 | 0, _ => none
 | k97+1, x96 => (if x96 ≤ 4 then ((cutx ([x80, x82, x84, x87]) (0 : Int) x96).bind fun l108 => ((fForms N l108).bind fun b116 => (((match b116 with | true => ((fPasses N ([x80, x82, x84, x87]) x96).bind fun b130 => (match b130 with | true => some (false) | false => some (true))) | false => some (true)) : Option (Bool)).bind fun b123 => (match b123 with | true => some (Ctl.ret false) | false => ((cutx ([x80, x82, x84, x87]) (0 : Int) x96).bind fun l136 => ((fAgree N l136).bind fun b144 => (match b144 with | true => fKnown_L4 N x80 x82 x84 x87 k97 (IntKind.i64.wrap (x96 + 1)) | false => some (Ctl.ret false)))))))) else some (Ctl.go ()))
def fKnown_L3 (N : Nat) (x18 : Int) (x37 : Int) : Nat → Int → Option (Ctl (Unit) (Bool))
 | 0, _ => none
 | k63+1, x62 => (if x62 < ((([1576, 1575, 1614, 1600, 97, 1604, 1583, 8205, 32, 1587]).length : Nat) : Int) then ((((ix ([1576, 1575, 1614, 1600, 97, 1604, 1583, 8205, 32, 1587]) x18).bind fun x80 => ((ix ([1576, 1575, 1614, 1600, 97, 1604, 1583, 8205, 32, 1587]) x37).bind fun x82 => ((ix ([1576, 1575, 1614, 1600, 97, 1604, 1583, 8205, 32, 1587]) x62).bind fun x84 => (if ((([1576, 1575, 1614, 1600, 97, 1604, 1583, 8205, 32, 1587]).length : Nat) : Int) = 0 then none else ((ix ([1576, 1575, 1614, 1600, 97, 1604, 1583, 8205, 32, 1587]) (Int.tmod (IntKind.i64.wrap ((IntKind.i64.wrap (x18 + x37)) + x62)) ((([1576, 1575, 1614, 1600, 97, 1604, 1583, 8205, 32, 1587]).length : Nat) : Int))).bind fun x87 => fKnown_L4 N x80 x82 x84 x87 N 0))))) : Option (Ctl (Unit) (Bool))).bind fun | Ctl.go () => fKnown_L3 N x18 x37 k63 (IntKind.i64.wrap (x62 + 1)) | Ctl.ret r => some (Ctl.ret r)) else some (Ctl.go ()))
def fKnown_L2 (N : Nat) (x18 : Int) : Nat → Int → Option (Ctl (Unit) (Bool))
 | 0, _ => none
 | k38+1, x37 => (if x37 < ((([1576, 1575, 1614, 1600, 97, 1604, 1583, 8205, 32, 1587]).length : Nat) : Int) then ((((fKnown_L3 N x18 x37 N 0 : Option (Ctl (Unit) (Bool))).bind fun | Ctl.go () => ((ix ([1576, 1575, 1614, 1600, 97, 1604, 1583, 8205, 32, 1587]) x18).bind fun x157 => ((ix ([1576, 1575, 1614, 1600, 97, 1604, 1583, 8205, 32, 1587]) x37).bind fun x159 => ((fPairs N x157 x159).bind fun b163 => (match b163 with | true => some (Ctl.go ()) | false => some (Ctl.ret false))))) | Ctl.ret r => some (Ctl.ret r)) : Option (Ctl (Unit) (Bool))).bind fun | Ctl.go () => fKnown_L2 N x18 k38 (IntKind.i64.wrap (x37 + 1)) | Ctl.ret r => some (Ctl.ret r)) else some (Ctl.go ()))
def fKnown_L1 (N : Nat) : Nat → Int → Option (Ctl (Unit) (Bool))
 | 0, _ => none
 | k19+1, x18 => (if x18 < ((([1576, 1575, 1614, 1600, 97, 1604, 1583, 8205, 32, 1587]).length : Nat) : Int) then ((fKnown_L2 N x18 N 0 : Option (Ctl (Unit) (Bool))).bind fun | Ctl.go () => fKnown_L1 N k19 (IntKind.i64.wrap (x18 + 1)) | Ctl.ret r => some (Ctl.ret r)) else some (Ctl.go ()))
def fKnown (N : Nat) : Option (Bool) :=
 ((fKnown_L1 N N 0 : Option (Ctl (Unit) (Bool))).bind fun | Ctl.go () => ((fForms N ([])).bind fun b179 => (match b179 with | true => ((fPairs N (-1 : Int) (1114112 : Int)).bind fun b185 => (match b185 with | true => ((kWorks N ).bind fun b191 => some b191) | false => some false)) | false => some false)) | Ctl.ret r => some r)

set_option linter.unusedVariables false in
def fKnown_R (r : Bool) (w0 : World) (v : Value) (w : World) : Prop := v = .bool r ∧ St [] w0 w []

set_option maxRecDepth 100000 in
set_option maxHeartbeats 4000000 in
theorem fKnown_ok (N : Nat)  (r : Bool) (hF : fKnown N = some r) (w0 : World) (hcd : MirB [] w0) :
  Calls Tryd.prog 7 #[] w0 fun e w => ∃ v, e = .returned v ∧ fKnown_R r w0 v w := by
 have hS0 := St.start w0
 unfold fKnown at hF
 refine calls_of Tryd.func7 rfl ⟨(un 89 ([])).toArray, []⟩ (by kernel_rfl) ?_
 refine gx_seq (fun K1 hK2 => ?_)
 refine gx_region ?_
 refine gx_k (.bool false) w0 ?_
 refine gx_nil ?_
 refine gx_thenN ?_
 refine hK2 _ _ ?_
 refine gx_seq (fun K3 hK4 => ?_)
 refine gx_region ?_
 refine gx_r (st_made .i32 21 [1576, 1575, 1614, 1600, 97, 1604, 1583, 8205, 32, 1587] hS0 (by show 10 ≤ 1000000000; decide) (by kernel_rfl)) ?_
 rintro _ w5 ⟨rfl, hS6⟩
 have hS6 : St _ _ w5 [rowE .i32 21 (some ⟨w0.heap.size, 0, none⟩) 10 ([1576, 1575, 1614, 1600, 97, 1604, 1583, 8205, 32, 1587])] := hS6
 refine gx_k (.slice (some ⟨w0.heap.size, 0, none⟩) (([1576, 1575, 1614, 1600, 97, 1604, 1583, 8205, 32, 1587]).length) 10) w5 ?_
 refine gx_nil ?_
 refine gx_thenN ?_
 refine hK4 _ _ ?_
 obtain ⟨c10, hE11, hO12⟩ := bind_in hF
 refine gx_cut (fun a w => selfA (fun u9 => ⟨(dd u9 0 82 (un 7 ([]))).toArray, []⟩) a ∧ Ctl.go () = c10 ∧ St [] w0 w []) ?_ ?_
 ·refine gx_seq (fun K13 hK14 => ?_)
  refine gx_region ?_
  refine gx_k (.int .i64 0) w5 ?_
  refine gx_nil ?_
  refine gx_thenN ?_
  refine hK14 _ _ ?_
  refine gx_block ?_
  refine gx_loop (fun k a w => ∃ (x18 : Int), selfA (fun u17 => ⟨((u17 0) :: (.slice (some ⟨w0.heap.size, 0, none⟩) (([1576, 1575, 1614, 1600, 97, 1604, 1583, 8205, 32, 1587]).length) 10) :: (.int .i64 x18) :: dd u17 3 79 (un 7 ([]))).toArray, []⟩) a ∧ fKnown_L1 N k x18 = some c10 ∧ St [] w0 w [rowE .i32 21 (some ⟨w0.heap.size, 0, none⟩) 10 ([1576, 1575, 1614, 1600, 97, 1604, 1583, 8205, 32, 1587])]) N ?_ ?_
  ·exact ⟨0, selfA_i (by kernel_rfl), hE11, hS6⟩
  ·rintro k19 _ w15 ⟨x18, hq173, hL20, hS16⟩
   obtain ⟨u17, rfl⟩ := selfA_u hq173
   cases k19 with
   | zero => cases hL20
   | succ k19 =>
    first | rw [fKnown_L1] at hL20 | unfold fKnown_L1 at hL20
    refine gx_seq (fun K21 hK22 => ?_)
    refine gx_seq (fun K23 hK24 => ?_)
    refine gx_region ?_
    refine gx_k (.int .i64 x18) w15 (gx_k (.slice (some ⟨w0.heap.size, 0, none⟩) (([1576, 1575, 1614, 1600, 97, 1604, 1583, 8205, 32, 1587]).length) 10) w15 (gx_k (.int .i64 ((([1576, 1575, 1614, 1600, 97, 1604, 1583, 8205, 32, 1587]).length : Nat) : Int)) w15 ?_))
    rcases if_in hL20 with ⟨h25, hL20⟩ | ⟨h25, hL20⟩
    ·refine gx_v (.bool true) w15 (run_boolE (decide_eq_true h25) (by kernel_rfl)) ?_
     refine gx_nil ?_
     refine gx_thenN ?_
     refine hK24 _ _ ?_
     refine gx_yes (by kernel_rfl) ?_
     refine gx_pass ?_
     refine gx_thenN ?_
     refine hK22 _ _ ?_
     obtain ⟨c29, hE30, hO31⟩ := bind_in hL20
     refine gx_cut (fun a w => selfA (fun u28 => ⟨((u28 0) :: (.slice (some ⟨w0.heap.size, 0, none⟩) (([1576, 1575, 1614, 1600, 97, 1604, 1583, 8205, 32, 1587]).length) 10) :: (.int .i64 x18) :: dd u28 3 4 ((u17 7) :: (.int .i64 x18) :: (u28 9) :: (.int .i64 ((([1576, 1575, 1614, 1600, 97, 1604, 1583, 8205, 32, 1587]).length : Nat) : Int)) :: (.bool true) :: dd u17 12 2 (dd u28 14 68 (un 7 ([]))))).toArray, []⟩) a ∧ Ctl.go () = c29 ∧ St [] w0 w [rowE .i32 21 (some ⟨w0.heap.size, 0, none⟩) 10 ([1576, 1575, 1614, 1600, 97, 1604, 1583, 8205, 32, 1587])]) ?_ ?_
     ·refine gx_block ?_
      refine gx_seq (fun K32 hK33 => ?_)
      refine gx_region ?_
      refine gx_k (.int .i64 0) w15 ?_
      refine gx_nil ?_
      refine gx_thenN ?_
      refine hK33 _ _ ?_
      refine gx_block ?_
      refine gx_loop (fun k a w => ∃ (x37 : Int), selfA (fun u36 => ⟨((u36 0) :: (.slice (some ⟨w0.heap.size, 0, none⟩) (([1576, 1575, 1614, 1600, 97, 1604, 1583, 8205, 32, 1587]).length) 10) :: (.int .i64 x18) :: (.int .i64 x37) :: dd u36 4 3 ((u17 7) :: (.int .i64 x18) :: (u36 9) :: (.int .i64 ((([1576, 1575, 1614, 1600, 97, 1604, 1583, 8205, 32, 1587]).length : Nat) : Int)) :: (.bool true) :: dd u17 12 2 (dd u36 14 68 (un 7 ([]))))).toArray, []⟩) a ∧ fKnown_L2 N x18 k x37 = some c29 ∧ St [] w0 w [rowE .i32 21 (some ⟨w0.heap.size, 0, none⟩) 10 ([1576, 1575, 1614, 1600, 97, 1604, 1583, 8205, 32, 1587])]) N ?_ ?_
      ·exact ⟨0, selfA_i (by kernel_rfl), hE30, hS16⟩
      ·rintro k38 _ w34 ⟨x37, hq171, hL39, hS35⟩
       obtain ⟨u36, rfl⟩ := selfA_u hq171
       cases k38 with
       | zero => cases hL39
       | succ k38 =>
        first | rw [fKnown_L2] at hL39 | unfold fKnown_L2 at hL39
        refine gx_seq (fun K40 hK41 => ?_)
        refine gx_seq (fun K42 hK43 => ?_)
        refine gx_region ?_
        refine gx_k (.int .i64 x37) w34 (gx_k (.slice (some ⟨w0.heap.size, 0, none⟩) (([1576, 1575, 1614, 1600, 97, 1604, 1583, 8205, 32, 1587]).length) 10) w34 (gx_k (.int .i64 ((([1576, 1575, 1614, 1600, 97, 1604, 1583, 8205, 32, 1587]).length : Nat) : Int)) w34 ?_))
        rcases if_in hL39 with ⟨h44, hL39⟩ | ⟨h44, hL39⟩
        ·refine gx_v (.bool true) w34 (run_boolE (decide_eq_true h44) (by kernel_rfl)) ?_
         refine gx_nil ?_
         refine gx_thenN ?_
         refine hK43 _ _ ?_
         refine gx_yes (by kernel_rfl) ?_
         refine gx_pass ?_
         refine gx_thenN ?_
         refine hK41 _ _ ?_
         obtain ⟨c48, hE49, hO50⟩ := bind_in hL39
         refine gx_cut (fun a w => selfA (fun u47 => ⟨((u47 0) :: (.slice (some ⟨w0.heap.size, 0, none⟩) (([1576, 1575, 1614, 1600, 97, 1604, 1583, 8205, 32, 1587]).length) 10) :: (.int .i64 x18) :: (.int .i64 x37) :: dd u47 4 3 ((u17 7) :: (.int .i64 x18) :: (u36 9) :: (.int .i64 ((([1576, 1575, 1614, 1600, 97, 1604, 1583, 8205, 32, 1587]).length : Nat) : Int)) :: (.bool true) :: dd u17 12 2 ((.int .i64 x37) :: (u47 15) :: (.int .i64 ((([1576, 1575, 1614, 1600, 97, 1604, 1583, 8205, 32, 1587]).length : Nat) : Int)) :: (.bool true) :: dd u36 18 2 (dd u47 20 62 (un 7 ([])))))).toArray, []⟩) a ∧ Ctl.go () = c48 ∧ St [] w0 w [rowE .i32 21 (some ⟨w0.heap.size, 0, none⟩) 10 ([1576, 1575, 1614, 1600, 97, 1604, 1583, 8205, 32, 1587])]) ?_ ?_
         ·refine gx_block ?_
          obtain ⟨c54, hE55, hO56⟩ := bind_in hE49
          refine gx_cut (fun a w => selfA (fun u53 => ⟨((u53 0) :: (.slice (some ⟨w0.heap.size, 0, none⟩) (([1576, 1575, 1614, 1600, 97, 1604, 1583, 8205, 32, 1587]).length) 10) :: (.int .i64 x18) :: (.int .i64 x37) :: dd u53 4 3 ((u17 7) :: (.int .i64 x18) :: (u36 9) :: (.int .i64 ((([1576, 1575, 1614, 1600, 97, 1604, 1583, 8205, 32, 1587]).length : Nat) : Int)) :: (.bool true) :: dd u17 12 2 ((.int .i64 x37) :: (u53 15) :: (.int .i64 ((([1576, 1575, 1614, 1600, 97, 1604, 1583, 8205, 32, 1587]).length : Nat) : Int)) :: (.bool true) :: dd u36 18 2 (dd u53 20 52 (dd u36 72 10 (un 7 ([]))))))).toArray, []⟩) a ∧ Ctl.go () = c54 ∧ St [] w0 w [rowE .i32 21 (some ⟨w0.heap.size, 0, none⟩) 10 ([1576, 1575, 1614, 1600, 97, 1604, 1583, 8205, 32, 1587])]) ?_ ?_
          ·refine gx_seq (fun K57 hK58 => ?_)
           refine gx_region ?_
           refine gx_k (.int .i64 0) w34 ?_
           refine gx_nil ?_
           refine gx_thenN ?_
           refine hK58 _ _ ?_
           refine gx_block ?_
           refine gx_loop (fun k a w => ∃ (x62 : Int), selfA (fun u61 => ⟨((u61 0) :: (.slice (some ⟨w0.heap.size, 0, none⟩) (([1576, 1575, 1614, 1600, 97, 1604, 1583, 8205, 32, 1587]).length) 10) :: (.int .i64 x18) :: (.int .i64 x37) :: (.int .i64 x62) :: dd u61 5 2 ((u17 7) :: (.int .i64 x18) :: (u36 9) :: (.int .i64 ((([1576, 1575, 1614, 1600, 97, 1604, 1583, 8205, 32, 1587]).length : Nat) : Int)) :: (.bool true) :: dd u17 12 2 ((.int .i64 x37) :: (u61 15) :: (.int .i64 ((([1576, 1575, 1614, 1600, 97, 1604, 1583, 8205, 32, 1587]).length : Nat) : Int)) :: (.bool true) :: dd u36 18 2 (dd u61 20 52 (dd u36 72 10 (un 7 ([]))))))).toArray, []⟩) a ∧ fKnown_L3 N x18 x37 k x62 = some c54 ∧ St [] w0 w [rowE .i32 21 (some ⟨w0.heap.size, 0, none⟩) 10 ([1576, 1575, 1614, 1600, 97, 1604, 1583, 8205, 32, 1587])]) N ?_ ?_
           ·exact ⟨0, selfA_i (by kernel_rfl), hE55, hS35⟩
           ·rintro k63 _ w59 ⟨x62, hq152, hL64, hS60⟩
            obtain ⟨u61, rfl⟩ := selfA_u hq152
            cases k63 with
            | zero => cases hL64
            | succ k63 =>
             first | rw [fKnown_L3] at hL64 | unfold fKnown_L3 at hL64
             refine gx_seq (fun K65 hK66 => ?_)
             refine gx_seq (fun K67 hK68 => ?_)
             refine gx_region ?_
             refine gx_k (.int .i64 x62) w59 (gx_k (.slice (some ⟨w0.heap.size, 0, none⟩) (([1576, 1575, 1614, 1600, 97, 1604, 1583, 8205, 32, 1587]).length) 10) w59 (gx_k (.int .i64 ((([1576, 1575, 1614, 1600, 97, 1604, 1583, 8205, 32, 1587]).length : Nat) : Int)) w59 ?_))
             rcases if_in hL64 with ⟨h69, hL64⟩ | ⟨h69, hL64⟩
             ·refine gx_v (.bool true) w59 (run_boolE (decide_eq_true h69) (by kernel_rfl)) ?_
              refine gx_nil ?_
              refine gx_thenN ?_
              refine hK68 _ _ ?_
              refine gx_yes (by kernel_rfl) ?_
              refine gx_pass ?_
              refine gx_thenN ?_
              refine hK66 _ _ ?_
              obtain ⟨c73, hE74, hO75⟩ := bind_in hL64
              refine gx_cut (fun a w => selfA (fun u72 => ⟨((u72 0) :: (.slice (some ⟨w0.heap.size, 0, none⟩) (([1576, 1575, 1614, 1600, 97, 1604, 1583, 8205, 32, 1587]).length) 10) :: (.int .i64 x18) :: (.int .i64 x37) :: (.int .i64 x62) :: dd u72 5 2 ((u17 7) :: (.int .i64 x18) :: (u36 9) :: (.int .i64 ((([1576, 1575, 1614, 1600, 97, 1604, 1583, 8205, 32, 1587]).length : Nat) : Int)) :: (.bool true) :: dd u17 12 2 ((.int .i64 x37) :: (u61 15) :: (.int .i64 ((([1576, 1575, 1614, 1600, 97, 1604, 1583, 8205, 32, 1587]).length : Nat) : Int)) :: (.bool true) :: dd u36 18 2 ((.int .i64 x62) :: (u72 21) :: (.int .i64 ((([1576, 1575, 1614, 1600, 97, 1604, 1583, 8205, 32, 1587]).length : Nat) : Int)) :: (.bool true) :: dd u61 24 2 (dd u72 26 46 (dd u36 72 10 (un 7 ([])))))))).toArray, []⟩) a ∧ Ctl.go () = c73 ∧ St [] w0 w [rowE .i32 21 (some ⟨w0.heap.size, 0, none⟩) 10 ([1576, 1575, 1614, 1600, 97, 1604, 1583, 8205, 32, 1587])]) ?_ ?_
              ·refine gx_block ?_
               refine gx_seq (fun K76 hK77 => ?_)
               refine gd_start (fun w => St [] w0 w [rowE .i32 21 (some ⟨w0.heap.size, 0, none⟩) 10 ([1576, 1575, 1614, 1600, 97, 1604, 1583, 8205, 32, 1587])]) 25 #[false, false, false, false, false, false, false, false, false, false, false, false, false, false, false, false, false, false, false, false, false, false, false, false, false] (by kernel_rfl) (by kernel_rfl) ?_
               have hS79 := hS60.drew
               generalize w59.drew = w78 at hS79 ⊢
               refine gv1 0 26 (.slice (some ⟨w0.heap.size, 0, none⟩) (([1576, 1575, 1614, 1600, 97, 1604, 1583, 8205, 32, 1587]).length) 10) rfl hS79 ?_
               refine gv1 1 27 (.int .i64 x18) rfl hS79 ?_
               obtain ⟨x80, hx81, hE74⟩ := bind_in hE74
               refine gu1 2 28 (.pointer (Option.map (fun (p : Addr) => p.add (Int.toNat x18 * 1)) (some ⟨w0.heap.size, 0, none⟩))) rfl hS79 (fun w hSw => run_ixaddr (E := 21) (s := 1) (k := .i64) (c := 10) rfl (by kernel_rfl) (by kernel_rfl) (by kernel_rfl) (fun _ => by kernel_rfl) (ix_in hx81).1 (ix_in hx81).2.1 (num_nil (hS79.row 0 rfl).1)) ?_
               refine gu1 3 29 (.int .i32 x80) rfl hS79 (fun w hSw => run_loadix rfl (by kernel_rfl) (fun _ => by kernel_rfl) (hSw.row 0 rfl).1 hx81) ?_
               refine gv1 4 30 (.slice (some ⟨w0.heap.size, 0, none⟩) (([1576, 1575, 1614, 1600, 97, 1604, 1583, 8205, 32, 1587]).length) 10) rfl hS79 ?_
               refine gv1 5 31 (.int .i64 x37) rfl hS79 ?_
               obtain ⟨x82, hx83, hE74⟩ := bind_in hE74
               refine gu1 6 32 (.pointer (Option.map (fun (p : Addr) => p.add (Int.toNat x37 * 1)) (some ⟨w0.heap.size, 0, none⟩))) rfl hS79 (fun w hSw => run_ixaddr (E := 21) (s := 1) (k := .i64) (c := 10) rfl (by kernel_rfl) (by kernel_rfl) (by kernel_rfl) (fun _ => by kernel_rfl) (ix_in hx83).1 (ix_in hx83).2.1 (num_nil (hS79.row 0 rfl).1)) ?_
               refine gu1 7 33 (.int .i32 x82) rfl hS79 (fun w hSw => run_loadix rfl (by kernel_rfl) (fun _ => by kernel_rfl) (hSw.row 0 rfl).1 hx83) ?_
               refine gv1 8 34 (.slice (some ⟨w0.heap.size, 0, none⟩) (([1576, 1575, 1614, 1600, 97, 1604, 1583, 8205, 32, 1587]).length) 10) rfl hS79 ?_
               refine gv1 9 35 (.int .i64 x62) rfl hS79 ?_
               obtain ⟨x84, hx85, hE74⟩ := bind_in hE74
               refine gu1 10 36 (.pointer (Option.map (fun (p : Addr) => p.add (Int.toNat x62 * 1)) (some ⟨w0.heap.size, 0, none⟩))) rfl hS79 (fun w hSw => run_ixaddr (E := 21) (s := 1) (k := .i64) (c := 10) rfl (by kernel_rfl) (by kernel_rfl) (by kernel_rfl) (fun _ => by kernel_rfl) (ix_in hx85).1 (ix_in hx85).2.1 (num_nil (hS79.row 0 rfl).1)) ?_
               refine gu1 11 37 (.int .i32 x84) rfl hS79 (fun w hSw => run_loadix rfl (by kernel_rfl) (fun _ => by kernel_rfl) (hSw.row 0 rfl).1 hx85) ?_
               refine gv1 12 38 (.slice (some ⟨w0.heap.size, 0, none⟩) (([1576, 1575, 1614, 1600, 97, 1604, 1583, 8205, 32, 1587]).length) 10) rfl hS79 ?_
               refine gv1 13 39 (.int .i64 x18) rfl hS79 ?_
               refine gv1 14 40 (.int .i64 x37) rfl hS79 ?_
               refine gv1 15 41 (.int .i64 (IntKind.i64.wrap (x18 + x37))) rfl hS79 ?_
               refine gv1 16 42 (.int .i64 x62) rfl hS79 ?_
               refine gv1 17 43 (.int .i64 (IntKind.i64.wrap ((IntKind.i64.wrap (x18 + x37)) + x62))) rfl hS79 ?_
               refine gv1 18 44 (.slice (some ⟨w0.heap.size, 0, none⟩) (([1576, 1575, 1614, 1600, 97, 1604, 1583, 8205, 32, 1587]).length) 10) rfl hS79 ?_
               refine gv1 19 45 (.int .i64 ((([1576, 1575, 1614, 1600, 97, 1604, 1583, 8205, 32, 1587]).length : Nat) : Int)) rfl hS79 ?_
               rcases if_in hE74 with ⟨h86, hE74⟩ | ⟨h86, hE74⟩
               ·cases hE74
               ·refine gu1 20 46 (.int .i64 (Int.tmod (IntKind.i64.wrap ((IntKind.i64.wrap (x18 + x37)) + x62)) ((([1576, 1575, 1614, 1600, 97, 1604, 1583, 8205, 32, 1587]).length : Nat) : Int))) rfl hS79 (fun w hSw => run_rem (T := 3) rfl (by kernel_rfl) (by kernel_rfl) rfl h86) ?_
                obtain ⟨x87, hx88, hE74⟩ := bind_in hE74
                refine gu1 21 47 (.pointer (Option.map (fun (p : Addr) => p.add (Int.toNat (Int.tmod (IntKind.i64.wrap ((IntKind.i64.wrap (x18 + x37)) + x62)) ((([1576, 1575, 1614, 1600, 97, 1604, 1583, 8205, 32, 1587]).length : Nat) : Int)) * 1)) (some ⟨w0.heap.size, 0, none⟩))) rfl hS79 (fun w hSw => run_ixaddr (E := 21) (s := 1) (k := .i64) (c := 10) rfl (by kernel_rfl) (by kernel_rfl) (by kernel_rfl) (fun _ => by kernel_rfl) (ix_in hx88).1 (ix_in hx88).2.1 (num_nil (hS79.row 0 rfl).1)) ?_
                refine gu1 22 48 (.int .i32 x87) rfl hS79 (fun w hSw => run_loadix rfl (by kernel_rfl) (fun _ => by kernel_rfl) (hSw.row 0 rfl).1 hx88) ?_
                refine gdR 23 { dst := some 49, op := _, type := _, pos := _, after := _, guard := _ } rfl (st_made .i32 21 [x80, x82, x84, x87] hS79 (by show 4 ≤ 1000000000; decide) (by kernel_rfl)) ?_
                rintro _ w89 ⟨rfl, hS90⟩
                have hS90 : St _ _ w89 [rowE .i32 21 (some ⟨w0.heap.size, 0, none⟩) 10 ([1576, 1575, 1614, 1600, 97, 1604, 1583, 8205, 32, 1587]), rowE .i32 21 (some ⟨w78.heap.size, 0, none⟩) 4 ([x80, x82, x84, x87])] := hS90
                refine ⟨(hS90.pick [0] rfl rfl), ?_⟩
                refine gv1 24 5 (.slice (some ⟨w78.heap.size, 0, none⟩) (([x80, x82, x84, x87]).length) 4) rfl (hS90.pick [0] rfl rfl) ?_
                refine gd_done (by kernel_rfl) ?_
                refine gx_thenN ?_
                refine hK77 _ _ ?_
                refine gx_seq (fun K91 hK92 => ?_)
                refine gx_region ?_
                refine gx_k (.int .i64 0) w89 ?_
                refine gx_nil ?_
                refine gx_thenN ?_
                refine hK92 _ _ ?_
                refine gx_block ?_
                refine gx_loop (fun k a w => ∃ (x96 : Int), selfA (fun u95 => ⟨((u95 0) :: (.slice (some ⟨w0.heap.size, 0, none⟩) (([1576, 1575, 1614, 1600, 97, 1604, 1583, 8205, 32, 1587]).length) 10) :: (.int .i64 x18) :: (.int .i64 x37) :: (.int .i64 x62) :: (.slice (some ⟨w78.heap.size, 0, none⟩) (([x80, x82, x84, x87]).length) 4) :: (.int .i64 x96) :: (u17 7) :: (.int .i64 x18) :: (u36 9) :: (.int .i64 ((([1576, 1575, 1614, 1600, 97, 1604, 1583, 8205, 32, 1587]).length : Nat) : Int)) :: (.bool true) :: dd u17 12 2 ((.int .i64 x37) :: (u61 15) :: (.int .i64 ((([1576, 1575, 1614, 1600, 97, 1604, 1583, 8205, 32, 1587]).length : Nat) : Int)) :: (.bool true) :: dd u36 18 2 ((.int .i64 x62) :: (u95 21) :: (.int .i64 ((([1576, 1575, 1614, 1600, 97, 1604, 1583, 8205, 32, 1587]).length : Nat) : Int)) :: (.bool true) :: dd u61 24 2 ((u95 26) :: (.int .i64 x18) :: (.pointer (Option.map (fun (p : Addr) => p.add (Int.toNat x18 * 1)) (some ⟨w0.heap.size, 0, none⟩))) :: (.int .i32 x80) :: (u95 30) :: (.int .i64 x37) :: (.pointer (Option.map (fun (p : Addr) => p.add (Int.toNat x37 * 1)) (some ⟨w0.heap.size, 0, none⟩))) :: (.int .i32 x82) :: (u95 34) :: (.int .i64 x62) :: (.pointer (Option.map (fun (p : Addr) => p.add (Int.toNat x62 * 1)) (some ⟨w0.heap.size, 0, none⟩))) :: (.int .i32 x84) :: (u95 38) :: (.int .i64 x18) :: (.int .i64 x37) :: (.int .i64 (IntKind.i64.wrap (x18 + x37))) :: (.int .i64 x62) :: (.int .i64 (IntKind.i64.wrap ((IntKind.i64.wrap (x18 + x37)) + x62))) :: (u95 44) :: (.int .i64 ((([1576, 1575, 1614, 1600, 97, 1604, 1583, 8205, 32, 1587]).length : Nat) : Int)) :: (.int .i64 (Int.tmod (IntKind.i64.wrap ((IntKind.i64.wrap (x18 + x37)) + x62)) ((([1576, 1575, 1614, 1600, 97, 1604, 1583, 8205, 32, 1587]).length : Nat) : Int))) :: (.pointer (Option.map (fun (p : Addr) => p.add (Int.toNat (Int.tmod (IntKind.i64.wrap ((IntKind.i64.wrap (x18 + x37)) + x62)) ((([1576, 1575, 1614, 1600, 97, 1604, 1583, 8205, 32, 1587]).length : Nat) : Int)) * 1)) (some ⟨w0.heap.size, 0, none⟩))) :: (.int .i32 x87) :: dd u95 49 23 (dd u36 72 10 (un 7 ([]))))))).toArray, []⟩) a ∧ fKnown_L4 N x80 x82 x84 x87 k x96 = some c73 ∧ St [] w0 w [rowE .i32 21 (some ⟨w0.heap.size, 0, none⟩) 10 ([1576, 1575, 1614, 1600, 97, 1604, 1583, 8205, 32, 1587]), rowE .i32 21 (some ⟨w78.heap.size, 0, none⟩) 4 ([x80, x82, x84, x87])]) N ?_ ?_
                ·exact ⟨0, selfA_i (by kernel_rfl), hE74, hS90⟩
                ·rintro k97 _ w93 ⟨x96, hq150, hL98, hS94⟩
                 obtain ⟨u95, rfl⟩ := selfA_u hq150
                 cases k97 with
                 | zero => cases hL98
                 | succ k97 =>
                  first | rw [fKnown_L4] at hL98 | unfold fKnown_L4 at hL98
                  refine gx_seq (fun K99 hK100 => ?_)
                  refine gx_seq (fun K101 hK102 => ?_)
                  refine gx_region ?_
                  refine gx_k (.int .i64 x96) w93 ?_
                  rcases if_in hL98 with ⟨h103, hL98⟩ | ⟨h103, hL98⟩
                  ·refine gx_v (.bool true) w93 (run_boolE (decide_eq_true h103) (by kernel_rfl)) ?_
                   refine gx_nil ?_
                   refine gx_thenN ?_
                   refine hK102 _ _ ?_
                   refine gx_yes (by kernel_rfl) ?_
                   refine gx_pass ?_
                   refine gx_thenN ?_
                   refine hK100 _ _ ?_
                   refine gx_seq (fun K104 hK105 => ?_)
                   refine gx_block ?_
                   refine gx_seq (fun K106 hK107 => ?_)
                   refine gx_region ?_
                   refine gx_k (.slice (some ⟨w78.heap.size, 0, none⟩) (([x80, x82, x84, x87]).length) 4) w93 (gx_k (.int .i64 x96) w93 ?_)
                   obtain ⟨l108, hx109, hL98⟩ := bind_in hL98
                   obtain ⟨A110, c111, hA112⟩ := cut_is (some ⟨w78.heap.size, 0, none⟩) (Int.toNat (0 : Int)) (Int.toNat x96) 4
                   rw [← cutx_len hx109] at hA112
                   refine gx_v (.slice A110 l108.length c111) w93 (run_cut (TE := 21) (n := ([x80, x82, x84, x87]).length) (l := Int.toNat (0 : Int)) (h := Int.toNat x96) none (some (.int .i64 x96)) rfl (by kernel_rfl) (by kernel_rfl) (by kernel_rfl) (by kernel_rfl) (fun _ => by kernel_rfl) (bnd_h (cutx_in hx109).2.1 (Int.le_trans (cutx_in hx109).2.2.1 (by exact_mod_cast num_room (hS94.row 1 rfl).1))) hA112) ?_
                   have hP114 : St _ _ w93 ([] ++ [rowE .i32 21 (some ⟨w0.heap.size, 0, none⟩) 10 ([1576, 1575, 1614, 1600, 97, 1604, 1583, 8205, 32, 1587]), rowE .i32 21 (some ⟨w78.heap.size, 0, none⟩) 4 ([x80, x82, x84, x87])]) := hS94
                   obtain ⟨b116, hc115, hL98⟩ := bind_in hL98
                   try dsimp only at hL98
                   refine gx_c (fForms_R b116 w93) (fForms_ok N l108 A110 c111 _ hc115 w93 (Vw.of (num_cut (hS94.row 1 rfl).1 hx109 hA112) (cut_nn (hS94.row 1 rfl).2 hA112)) (MirB.atL hcd hP114)) ?_
                   rintro _ w117 ⟨rfl, hT119⟩
                   have hS118 : St _ _ w117 [rowE .i32 21 (some ⟨w0.heap.size, 0, none⟩) 10 ([1576, 1575, 1614, 1600, 97, 1604, 1583, 8205, 32, 1587]), rowE .i32 21 (some ⟨w78.heap.size, 0, none⟩) 4 ([x80, x82, x84, x87])] := hS94.take _ hT119
                   obtain ⟨c124, hE125, hO126⟩ := bind_in hL98
                   refine gx_part (l1 := [_, _, _, _, _, _, _]) (fun a w => ∃ (b123 : Bool), selfA (fun u122 => ⟨((u95 0) :: (.slice (some ⟨w0.heap.size, 0, none⟩) (([1576, 1575, 1614, 1600, 97, 1604, 1583, 8205, 32, 1587]).length) 10) :: (.int .i64 x18) :: (.int .i64 x37) :: (.int .i64 x62) :: (.slice (some ⟨w78.heap.size, 0, none⟩) (([x80, x82, x84, x87]).length) 4) :: (.int .i64 x96) :: (u17 7) :: (.int .i64 x18) :: (u36 9) :: (.int .i64 ((([1576, 1575, 1614, 1600, 97, 1604, 1583, 8205, 32, 1587]).length : Nat) : Int)) :: (.bool true) :: dd u17 12 2 ((.int .i64 x37) :: (u61 15) :: (.int .i64 ((([1576, 1575, 1614, 1600, 97, 1604, 1583, 8205, 32, 1587]).length : Nat) : Int)) :: (.bool true) :: dd u36 18 2 ((.int .i64 x62) :: (u95 21) :: (.int .i64 ((([1576, 1575, 1614, 1600, 97, 1604, 1583, 8205, 32, 1587]).length : Nat) : Int)) :: (.bool true) :: dd u61 24 2 ((u95 26) :: (.int .i64 x18) :: (.pointer (Option.map (fun (p : Addr) => p.add (Int.toNat x18 * 1)) (some ⟨w0.heap.size, 0, none⟩))) :: (.int .i32 x80) :: (u95 30) :: (.int .i64 x37) :: (.pointer (Option.map (fun (p : Addr) => p.add (Int.toNat x37 * 1)) (some ⟨w0.heap.size, 0, none⟩))) :: (.int .i32 x82) :: (u95 34) :: (.int .i64 x62) :: (.pointer (Option.map (fun (p : Addr) => p.add (Int.toNat x62 * 1)) (some ⟨w0.heap.size, 0, none⟩))) :: (.int .i32 x84) :: (u95 38) :: (.int .i64 x18) :: (.int .i64 x37) :: (.int .i64 (IntKind.i64.wrap (x18 + x37))) :: (.int .i64 x62) :: (.int .i64 (IntKind.i64.wrap ((IntKind.i64.wrap (x18 + x37)) + x62))) :: (u95 44) :: (.int .i64 ((([1576, 1575, 1614, 1600, 97, 1604, 1583, 8205, 32, 1587]).length : Nat) : Int)) :: (.int .i64 (Int.tmod (IntKind.i64.wrap ((IntKind.i64.wrap (x18 + x37)) + x62)) ((([1576, 1575, 1614, 1600, 97, 1604, 1583, 8205, 32, 1587]).length : Nat) : Int))) :: (.pointer (Option.map (fun (p : Addr) => p.add (Int.toNat (Int.tmod (IntKind.i64.wrap ((IntKind.i64.wrap (x18 + x37)) + x62)) ((([1576, 1575, 1614, 1600, 97, 1604, 1583, 8205, 32, 1587]).length : Nat) : Int)) * 1)) (some ⟨w0.heap.size, 0, none⟩))) :: (.int .i32 x87) :: (u95 49) :: (.int .i64 x96) :: (.bool true) :: dd u95 52 2 ((u122 54) :: (.int .i64 x96) :: (u122 56) :: (.bool b116) :: dd u122 58 6 ((.bool b123) :: dd u95 65 7 (dd u36 72 10 (un 7 ([]))))))))).toArray, []⟩) a ∧ b123 = c124 ∧ St [] w0 w [rowE .i32 21 (some ⟨w0.heap.size, 0, none⟩) 10 ([1576, 1575, 1614, 1600, 97, 1604, 1583, 8205, 32, 1587]), rowE .i32 21 (some ⟨w78.heap.size, 0, none⟩) 4 ([x80, x82, x84, x87])]) rfl ?_ ?_
                   ·cases b116 with
                    | true =>
                     try dsimp only at hE125
                     refine gx_k (.bool false) w117 (gx_k (.bool false) w117 (gx_k (.slice (some ⟨w78.heap.size, 0, none⟩) (([x80, x82, x84, x87]).length) 4) w117 (gx_k (.int .i64 x96) w117 ?_)))
                     have hP128 : St _ _ w117 ([] ++ [rowE .i32 21 (some ⟨w0.heap.size, 0, none⟩) 10 ([1576, 1575, 1614, 1600, 97, 1604, 1583, 8205, 32, 1587]), rowE .i32 21 (some ⟨w78.heap.size, 0, none⟩) 4 ([x80, x82, x84, x87])]) := hS118
                     obtain ⟨b130, hc129, hE125⟩ := bind_in hE125
                     try dsimp only at hE125
                     refine gx_c (fPasses_R b130 w117) (fPasses_ok N ([x80, x82, x84, x87]) x96 (some ⟨w78.heap.size, 0, none⟩) 4 _ hc129 w117 (hP128.vwB 1 rfl) (MirB.atL hcd hP128)) ?_
                     rintro _ w131 ⟨rfl, hT133⟩
                     have hS132 : St _ _ w131 [rowE .i32 21 (some ⟨w0.heap.size, 0, none⟩) 10 ([1576, 1575, 1614, 1600, 97, 1604, 1583, 8205, 32, 1587]), rowE .i32 21 (some ⟨w78.heap.size, 0, none⟩) 4 ([x80, x82, x84, x87])] := hS118.take _ hT133
                     cases b130 with
                     | true =>
                      try dsimp only at hE125
                      refine gx_k (.bool false) w131 (gx_k (.bool false) w131 ?_)
                      refine gx_nil ?_
                      refine gx_thenN ?_
                      exact ⟨false, selfA_i (by kernel_rfl), (Option.some.inj hE125), hS132⟩
                     | false =>
                      try dsimp only at hE125
                      refine gx_k (.bool true) w131 (gx_k (.bool true) w131 ?_)
                      refine gx_nil ?_
                      refine gx_thenN ?_
                      exact ⟨true, selfA_i (by kernel_rfl), (Option.some.inj hE125), hS132⟩
                    | false =>
                     try dsimp only at hE125
                     refine gx_k (.bool true) w117 (gx_k (.bool true) w117 (gx_o (gx_o (gx_o (gx_o (gx_k (.bool true) w117 ?_))))))
                     refine gx_nil ?_
                     refine gx_thenN ?_
                     exact ⟨true, selfA_i (by kernel_rfl), (Option.some.inj hE125), hS118⟩
                   ·rintro _ w120 ⟨b123, hq127, rfl, hS121⟩
                    obtain ⟨u122, rfl⟩ := selfA_u hq127
                    try dsimp only at hO126
                    refine gx_k (.bool b123) w120 ?_
                    cases b123 with
                    | true =>
                     try dsimp only at hO126
                     refine gx_o (gx_o (gx_o (gx_o (gx_o (gx_k (.bool true) w120 ?_)))))
                     refine gx_nil ?_
                     refine gx_thenN ?_
                     refine hK107 _ _ ?_
                     refine gx_yes (by kernel_rfl) ?_
                     refine gx_seq (fun K134 hK135 => ?_)
                     refine gx_region ?_
                     refine gx_k (.bool false) w120 ?_
                     refine gx_nil ?_
                     refine gx_thenN ?_
                     refine hK135 _ _ ?_
                     refine gx_ret ?_
                     refine gx_blkR ?_
                     refine gx_thenR ?_
                     refine gx_thenR ?_
                     refine gx_blkR ?_
                     refine gx_blkR ?_
                     refine gx_thenR ?_
                     obtain rfl := Option.some.inj hO126
                     try dsimp only at hO75
                     refine gx_thenR ?_
                     refine gx_blkR ?_
                     refine gx_thenR ?_
                     obtain rfl := Option.some.inj hO75
                     try dsimp only at hO56
                     refine gx_blkR ?_
                     refine gx_thenR ?_
                     obtain rfl := Option.some.inj hO56
                     try dsimp only at hO50
                     refine gx_thenR ?_
                     refine gx_blkR ?_
                     refine gx_blkR ?_
                     refine gx_thenR ?_
                     obtain rfl := Option.some.inj hO50
                     try dsimp only at hO31
                     refine gx_thenR ?_
                     refine gx_blkR ?_
                     refine gx_thenR ?_
                     obtain rfl := Option.some.inj hO31
                     try dsimp only at hO12
                     obtain rfl := Option.some.inj hO12
                     exact gx_fin (.bool false) (by kernel_rfl) (by kernel_rfl) ⟨_, rfl, rfl, (hS121.pick [] rfl rfl)⟩
                    | false =>
                     try dsimp only at hO126
                     refine gx_k (.slice (some ⟨w78.heap.size, 0, none⟩) (([x80, x82, x84, x87]).length) 4) w120 (gx_k (.int .i64 x96) w120 ?_)
                     obtain ⟨l136, hx137, hO126⟩ := bind_in hO126
                     obtain ⟨A138, c139, hA140⟩ := cut_is (some ⟨w78.heap.size, 0, none⟩) (Int.toNat (0 : Int)) (Int.toNat x96) 4
                     rw [← cutx_len hx137] at hA140
                     refine gx_v (.slice A138 l136.length c139) w120 (run_cut (TE := 21) (n := ([x80, x82, x84, x87]).length) (l := Int.toNat (0 : Int)) (h := Int.toNat x96) none (some (.int .i64 x96)) rfl (by kernel_rfl) (by kernel_rfl) (by kernel_rfl) (by kernel_rfl) (fun _ => by kernel_rfl) (bnd_h (cutx_in hx137).2.1 (Int.le_trans (cutx_in hx137).2.2.1 (by exact_mod_cast num_room (hS121.row 1 rfl).1))) hA140) ?_
                     have hP142 : St _ _ w120 ([] ++ [rowE .i32 21 (some ⟨w0.heap.size, 0, none⟩) 10 ([1576, 1575, 1614, 1600, 97, 1604, 1583, 8205, 32, 1587]), rowE .i32 21 (some ⟨w78.heap.size, 0, none⟩) 4 ([x80, x82, x84, x87])]) := hS121
                     obtain ⟨b144, hc143, hO126⟩ := bind_in hO126
                     try dsimp only at hO126
                     refine gx_c (fAgree_R b144 w120) (fAgree_ok N l136 A138 c139 _ hc143 w120 (Vw.of (num_cut (hS121.row 1 rfl).1 hx137 hA140) (cut_nn (hS121.row 1 rfl).2 hA140)) (MirB.atL hcd hP142)) ?_
                     rintro _ w145 ⟨rfl, hT147⟩
                     have hS146 : St _ _ w145 [rowE .i32 21 (some ⟨w0.heap.size, 0, none⟩) 10 ([1576, 1575, 1614, 1600, 97, 1604, 1583, 8205, 32, 1587]), rowE .i32 21 (some ⟨w78.heap.size, 0, none⟩) 4 ([x80, x82, x84, x87])] := hS121.take _ hT147
                     cases b144 with
                     | true =>
                      try dsimp only at hO126
                      refine gx_k (.bool false) w145 (gx_k (.bool false) w145 ?_)
                      refine gx_nil ?_
                      refine gx_thenN ?_
                      refine hK107 _ _ ?_
                      refine gx_no (by kernel_rfl) ?_
                      refine gx_pass ?_
                      refine gx_blkN ?_
                      refine gx_thenN ?_
                      refine hK105 _ _ ?_
                      refine gx_region ?_
                      refine gx_k (.int .i64 x96) w145 (gx_k (.int .i64 (IntKind.i64.wrap (x96 + 1))) w145 (gx_k (.int .i64 (IntKind.i64.wrap (x96 + 1))) w145 ?_))
                      refine gx_nil ?_
                      refine gx_thenN ?_
                      exact ⟨k97, Nat.lt_succ_self k97, (IntKind.i64.wrap (x96 + 1)), selfA_i (by kernel_rfl), hO126, hS146⟩
                     | false =>
                      try dsimp only at hO126
                      refine gx_k (.bool true) w145 (gx_k (.bool true) w145 ?_)
                      refine gx_nil ?_
                      refine gx_thenN ?_
                      refine hK107 _ _ ?_
                      refine gx_yes (by kernel_rfl) ?_
                      refine gx_seq (fun K148 hK149 => ?_)
                      refine gx_region ?_
                      refine gx_k (.bool false) w145 ?_
                      refine gx_nil ?_
                      refine gx_thenN ?_
                      refine hK149 _ _ ?_
                      refine gx_ret ?_
                      refine gx_blkR ?_
                      refine gx_thenR ?_
                      refine gx_thenR ?_
                      refine gx_blkR ?_
                      refine gx_blkR ?_
                      refine gx_thenR ?_
                      obtain rfl := Option.some.inj hO126
                      try dsimp only at hO75
                      refine gx_thenR ?_
                      refine gx_blkR ?_
                      refine gx_thenR ?_
                      obtain rfl := Option.some.inj hO75
                      try dsimp only at hO56
                      refine gx_blkR ?_
                      refine gx_thenR ?_
                      obtain rfl := Option.some.inj hO56
                      try dsimp only at hO50
                      refine gx_thenR ?_
                      refine gx_blkR ?_
                      refine gx_blkR ?_
                      refine gx_thenR ?_
                      obtain rfl := Option.some.inj hO50
                      try dsimp only at hO31
                      refine gx_thenR ?_
                      refine gx_blkR ?_
                      refine gx_thenR ?_
                      obtain rfl := Option.some.inj hO31
                      try dsimp only at hO12
                      obtain rfl := Option.some.inj hO12
                      exact gx_fin (.bool false) (by kernel_rfl) (by kernel_rfl) ⟨_, rfl, rfl, (hS146.pick [] rfl rfl)⟩
                  ·refine gx_v (.bool false) w93 (run_boolE (decide_eq_false h103) (by kernel_rfl)) ?_
                   refine gx_nil ?_
                   refine gx_thenN ?_
                   refine hK102 _ _ ?_
                   refine gx_no (by kernel_rfl) ?_
                   refine gx_exit ?_
                   refine gx_thenE ?_
                   refine gx_thenE ?_
                   refine gx_blkE ?_
                   refine gx_blkN ?_
                   refine gx_thenN ?_
                   exact ⟨selfA_i (by kernel_rfl), (Option.some.inj hL98), (hS94.pick [0] rfl rfl)⟩
              ·rintro _ w70 ⟨hq151, rfl, hS71⟩
               obtain ⟨u72, rfl⟩ := selfA_u hq151
               try dsimp only at hO75
               refine gx_region ?_
               refine gx_k (.int .i64 x62) w70 (gx_k (.int .i64 (IntKind.i64.wrap (x62 + 1))) w70 (gx_k (.int .i64 (IntKind.i64.wrap (x62 + 1))) w70 ?_))
               refine gx_nil ?_
               refine gx_thenN ?_
               exact ⟨k63, Nat.lt_succ_self k63, (IntKind.i64.wrap (x62 + 1)), selfA_i (by kernel_rfl), hO75, hS71⟩
             ·refine gx_v (.bool false) w59 (run_boolE (decide_eq_false h69) (by kernel_rfl)) ?_
              refine gx_nil ?_
              refine gx_thenN ?_
              refine hK68 _ _ ?_
              refine gx_no (by kernel_rfl) ?_
              refine gx_exit ?_
              refine gx_thenE ?_
              refine gx_thenE ?_
              refine gx_blkE ?_
              refine gx_thenN ?_
              exact ⟨selfA_i (by kernel_rfl), (Option.some.inj hL64), hS60⟩
          ·rintro _ w51 ⟨hq169, rfl, hS52⟩
           obtain ⟨u53, rfl⟩ := selfA_u hq169
           try dsimp only at hO56
           refine gx_seq (fun K153 hK154 => ?_)
           refine gd_start (fun w => St [] w0 w [rowE .i32 21 (some ⟨w0.heap.size, 0, none⟩) 10 ([1576, 1575, 1614, 1600, 97, 1604, 1583, 8205, 32, 1587])]) 10 #[false, false, false, false, false, false, false, false, false, false] (by kernel_rfl) (by kernel_rfl) ?_
           have hS156 := hS52.drew
           generalize w51.drew = w155 at hS156 ⊢
           refine gv1 0 72 (.slice (some ⟨w0.heap.size, 0, none⟩) (([1576, 1575, 1614, 1600, 97, 1604, 1583, 8205, 32, 1587]).length) 10) rfl hS156 ?_
           refine gv1 1 73 (.int .i64 x18) rfl hS156 ?_
           obtain ⟨x157, hx158, hO56⟩ := bind_in hO56
           refine gu1 2 74 (.pointer (Option.map (fun (p : Addr) => p.add (Int.toNat x18 * 1)) (some ⟨w0.heap.size, 0, none⟩))) rfl hS156 (fun w hSw => run_ixaddr (E := 21) (s := 1) (k := .i64) (c := 10) rfl (by kernel_rfl) (by kernel_rfl) (by kernel_rfl) (fun _ => by kernel_rfl) (ix_in hx158).1 (ix_in hx158).2.1 (num_nil (hS156.row 0 rfl).1)) ?_
           refine gu1 3 75 (.int .i32 x157) rfl hS156 (fun w hSw => run_loadix rfl (by kernel_rfl) (fun _ => by kernel_rfl) (hSw.row 0 rfl).1 hx158) ?_
           refine gv1 4 76 (.slice (some ⟨w0.heap.size, 0, none⟩) (([1576, 1575, 1614, 1600, 97, 1604, 1583, 8205, 32, 1587]).length) 10) rfl hS156 ?_
           refine gv1 5 77 (.int .i64 x37) rfl hS156 ?_
           obtain ⟨x159, hx160, hO56⟩ := bind_in hO56
           refine gu1 6 78 (.pointer (Option.map (fun (p : Addr) => p.add (Int.toNat x37 * 1)) (some ⟨w0.heap.size, 0, none⟩))) rfl hS156 (fun w hSw => run_ixaddr (E := 21) (s := 1) (k := .i64) (c := 10) rfl (by kernel_rfl) (by kernel_rfl) (by kernel_rfl) (fun _ => by kernel_rfl) (ix_in hx160).1 (ix_in hx160).2.1 (num_nil (hS156.row 0 rfl).1)) ?_
           refine gu1 7 79 (.int .i32 x159) rfl hS156 (fun w hSw => run_loadix rfl (by kernel_rfl) (fun _ => by kernel_rfl) (hSw.row 0 rfl).1 hx160) ?_
           have hP161 : St _ _ w155 ([] ++ [rowE .i32 21 (some ⟨w0.heap.size, 0, none⟩) 10 ([1576, 1575, 1614, 1600, 97, 1604, 1583, 8205, 32, 1587])]) := hS156
           obtain ⟨b163, hc162, hO56⟩ := bind_in hO56
           try dsimp only at hO56
           refine gdC 8 { dst := some 80, op := _, type := _, pos := _, after := _, guard := _ } (fPairs_R b163 w155) rfl (by kernel_rfl) (fPairs_ok N x157 x159 _ hc162 w155 (MirB.atL hcd hP161)) ?_
           rintro _ w164 ⟨rfl, hT166⟩
           have hS165 : St _ _ w164 [rowE .i32 21 (some ⟨w0.heap.size, 0, none⟩) 10 ([1576, 1575, 1614, 1600, 97, 1604, 1583, 8205, 32, 1587])] := hS156.take _ hT166
           refine ⟨hS165, ?_⟩
           cases b163 with
           | true =>
            try dsimp only at hO56
            refine gv1 9 81 (.bool false) rfl hS165 ?_
            refine gd_done (by kernel_rfl) ?_
            refine gx_thenN ?_
            refine hK154 _ _ ?_
            refine gx_no (by kernel_rfl) ?_
            refine gx_pass ?_
            refine gx_blkN ?_
            refine gx_thenN ?_
            exact ⟨selfA_i (by kernel_rfl), (Option.some.inj hO56), hS165⟩
           | false =>
            try dsimp only at hO56
            refine gv1 9 81 (.bool true) rfl hS165 ?_
            refine gd_done (by kernel_rfl) ?_
            refine gx_thenN ?_
            refine hK154 _ _ ?_
            refine gx_yes (by kernel_rfl) ?_
            refine gx_seq (fun K167 hK168 => ?_)
            refine gx_region ?_
            refine gx_k (.bool false) w164 ?_
            refine gx_nil ?_
            refine gx_thenN ?_
            refine hK168 _ _ ?_
            refine gx_ret ?_
            refine gx_blkR ?_
            refine gx_thenR ?_
            obtain rfl := Option.some.inj hO56
            try dsimp only at hO50
            refine gx_thenR ?_
            refine gx_blkR ?_
            refine gx_blkR ?_
            refine gx_thenR ?_
            obtain rfl := Option.some.inj hO50
            try dsimp only at hO31
            refine gx_thenR ?_
            refine gx_blkR ?_
            refine gx_thenR ?_
            obtain rfl := Option.some.inj hO31
            try dsimp only at hO12
            obtain rfl := Option.some.inj hO12
            exact gx_fin (.bool false) (by kernel_rfl) (by kernel_rfl) ⟨_, rfl, rfl, (hS165.pick [] rfl rfl)⟩
         ·rintro _ w45 ⟨hq170, rfl, hS46⟩
          obtain ⟨u47, rfl⟩ := selfA_u hq170
          try dsimp only at hO50
          refine gx_region ?_
          refine gx_k (.int .i64 x37) w45 (gx_k (.int .i64 (IntKind.i64.wrap (x37 + 1))) w45 (gx_k (.int .i64 (IntKind.i64.wrap (x37 + 1))) w45 ?_))
          refine gx_nil ?_
          refine gx_thenN ?_
          exact ⟨k38, Nat.lt_succ_self k38, (IntKind.i64.wrap (x37 + 1)), selfA_i (by kernel_rfl), hO50, hS46⟩
        ·refine gx_v (.bool false) w34 (run_boolE (decide_eq_false h44) (by kernel_rfl)) ?_
         refine gx_nil ?_
         refine gx_thenN ?_
         refine hK43 _ _ ?_
         refine gx_no (by kernel_rfl) ?_
         refine gx_exit ?_
         refine gx_thenE ?_
         refine gx_thenE ?_
         refine gx_blkE ?_
         refine gx_blkN ?_
         refine gx_thenN ?_
         exact ⟨selfA_i (by kernel_rfl), (Option.some.inj hL39), hS35⟩
     ·rintro _ w26 ⟨hq172, rfl, hS27⟩
      obtain ⟨u28, rfl⟩ := selfA_u hq172
      try dsimp only at hO31
      refine gx_region ?_
      refine gx_k (.int .i64 x18) w26 (gx_k (.int .i64 (IntKind.i64.wrap (x18 + 1))) w26 (gx_k (.int .i64 (IntKind.i64.wrap (x18 + 1))) w26 ?_))
      refine gx_nil ?_
      refine gx_thenN ?_
      exact ⟨k19, Nat.lt_succ_self k19, (IntKind.i64.wrap (x18 + 1)), selfA_i (by kernel_rfl), hO31, hS27⟩
    ·refine gx_v (.bool false) w15 (run_boolE (decide_eq_false h25) (by kernel_rfl)) ?_
     refine gx_nil ?_
     refine gx_thenN ?_
     refine hK24 _ _ ?_
     refine gx_no (by kernel_rfl) ?_
     refine gx_exit ?_
     refine gx_thenE ?_
     refine gx_thenE ?_
     refine gx_blkE ?_
     refine gx_thenN ?_
     exact ⟨selfA_i (by kernel_rfl), (Option.some.inj hL20), (hS16.pick [] rfl rfl)⟩
 ·rintro _ w7 ⟨hq195, rfl, hS8⟩
  obtain ⟨u9, rfl⟩ := selfA_u hq195
  try dsimp only at hO12
  refine gx_seq (fun K174 hK175 => ?_)
  refine gx_region ?_
  have hS176 : St _ _ w7 [rowE .i32 21 none 0 ([])] := hS8.nilrow .i32 21
  have hP177 : St _ _ w7 ([] ++ [rowE .i32 21 none 0 ([])]) := hS176
  obtain ⟨b179, hc178, hO12⟩ := bind_in hO12
  try dsimp only at hO12
  refine gx_c (fForms_R b179 w7) (fForms_ok N ([]) none 0 _ hc178 w7 (hP177.vwB 0 rfl) (MirB.atL hcd hP177)) ?_
  rintro _ w180 ⟨rfl, hT182⟩
  have hS181 : St _ _ w180 [rowE .i32 21 none 0 ([])] := hS176.take _ hT182
  refine gx_k (.bool b179) w180 ?_
  cases b179 with
  | true =>
   try dsimp only at hO12
   have hP183 : St _ _ w180 ([] ++ [rowE .i32 21 none 0 ([])]) := hS181
   obtain ⟨b185, hc184, hO12⟩ := bind_in hO12
   try dsimp only at hO12
   refine gx_c (fPairs_R b185 w180) (fPairs_ok N (-1 : Int) (1114112 : Int) _ hc184 w180 (MirB.atL hcd hP183)) ?_
   rintro _ w186 ⟨rfl, hT188⟩
   have hS187 : St _ _ w186 [rowE .i32 21 none 0 ([])] := hS181.take _ hT188
   refine gx_k (.bool b185) w186 (gx_k (.bool b185) w186 ?_)
   cases b185 with
   | true =>
    try dsimp only at hO12
    have hP189 : St _ _ w186 ([] ++ [rowE .i32 21 none 0 ([])]) := hS187
    obtain ⟨b191, hc190, hO12⟩ := bind_in hO12
    try dsimp only at hO12
    refine gx_c (kWorks_R b191 w186) (kWorks_ok N  _ hc190 w186 (MirB.atL hcd hP189)) ?_
    rintro _ w192 ⟨rfl, hT194⟩
    have hS193 : St _ _ w192 [rowE .i32 21 none 0 ([])] := hS187.take _ hT194
    refine gx_k (.bool b191) w192 (gx_k (.bool b191) w192 ?_)
    refine gx_nil ?_
    refine gx_thenN ?_
    refine hK175 _ _ ?_
    refine gx_ret ?_
    obtain rfl := Option.some.inj hO12
    exact gx_fin (.bool b191) (by kernel_rfl) (by kernel_rfl) ⟨_, rfl, rfl, (hS193.pick [] rfl rfl)⟩
   | false =>
    try dsimp only at hO12
    refine gx_o (gx_k (.bool false) w186 (gx_k (.bool false) w186 ?_))
    refine gx_nil ?_
    refine gx_thenN ?_
    refine hK175 _ _ ?_
    refine gx_ret ?_
    obtain rfl := Option.some.inj hO12
    exact gx_fin (.bool false) (by kernel_rfl) (by kernel_rfl) ⟨_, rfl, rfl, (hS187.pick [] rfl rfl)⟩
  | false =>
   try dsimp only at hO12
   refine gx_o (gx_k (.bool false) w180 (gx_k (.bool false) w180 (gx_o (gx_k (.bool false) w180 (gx_k (.bool false) w180 ?_)))))
   refine gx_nil ?_
   refine gx_thenN ?_
   refine hK175 _ _ ?_
   refine gx_ret ?_
   obtain rfl := Option.some.inj hO12
   exact gx_fin (.bool false) (by kernel_rfl) (by kernel_rfl) ⟨_, rfl, rfl, (hS181.pick [] rfl rfl)⟩

end Go.Proofs.YtbdhgjaoojimmaaDoor

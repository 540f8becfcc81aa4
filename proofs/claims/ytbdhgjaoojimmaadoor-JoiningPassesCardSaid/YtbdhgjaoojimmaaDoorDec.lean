/-
  A function of one character that is a chain of tests: what it answers, read off its own text, by the kernel.
-/
import Derived.Test.YtbdhgjaoojimmaaDoorProg
import Derived.WalkKit
import Derived.KernelRfl
import Derived.Below
namespace Go.Proofs.YtbdhgjaoojimmaaDoor
open Go Go.RowKit

/-- a test of a character -/
inductive Cnd where
  | rng (a b : Int)
  | eqc (c : Int)
  | ltc (c : Int)
  | ext (k : Nat)
deriving DecidableEq, Inhabited

/-- does it hold? E tells the tests that other functions make. -/
def Cnd.holds (E : Nat → Int → Bool) (r : Int) : Cnd → Bool
  | .rng a b => decide (a ≤ r) && decide (r ≤ b)
  | .eqc c => decide (r = c)
  | .ltc c => decide (r < c)
  | .ext k => E k r

/-- a slot: a value, the character, a test's answer, another function's answer -/
inductive SV where
  | con (v : Value)
  | rv
  | cnd (c : Cnd)
  | val (k : Nat)
deriving Inhabited

def SV.at (E : Nat → Int → Bool) (G : Nat → Int → Value) (r : Int) : SV → Value
  | .con v => v
  | .rv => .int .i32 r
  | .cnd c => .bool (c.holds E r)
  | .val k => G k r

/-- what is called: a range's test, another test, another function -/
inductive CK where
  | rng
  | ext (k : Nat)
  | val (k : Nat)
deriving Inhabited

def lookCK : List (Nat × CK) → Nat → Option CK
  | [], _ => none
  | x :: t, f => if x.1 = f then some x.2 else lookCK t f

/-- answers -/
inductive Dec where
  | leaf (x : SV)
  | node (c : Cnd) (t e : Dec)
deriving Inhabited

def Dec.sem (E : Nat → Int → Bool) (G : Nat → Int → Value) (r : Int) : Dec → Value
  | .leaf x => x.at E G r
  | .node c t e => if c.holds E r then t.sem E G r else e.sem E G r

def sEval (s : List SV) : Operand → Option SV
  | .tmp t => s[t]?
  | .const v => some (.con v)
  | _ => none

def sArgs (s : List SV) : List Operand → Option (List SV)
  | [] => some []
  | x :: l => match sEval s x, sArgs s l with
    | some v, some vs => some (v :: vs)
    | _, _ => none

def sBin (op : BinOp) (x y : SV) : Option SV :=
  match op, x, y with
  | .eql, .rv, .con (.int .i32 c) => some (.cnd (.eqc c))
  | .lss, .rv, .con (.int .i32 c) => some (.cnd (.ltc c))
  | _, _, _ => none

def sCall (k : CK) (vs : List SV) : Option SV := match k with
  | .rng => match vs with
    | [.rv, .con (.int .i32 a), .con (.int .i32 b)] => some (.cnd (.rng a b))
    | _ => none
  | .ext k => match vs with
    | [.rv] => some (.cnd (.ext k))
    | _ => none
  | .val k => match vs with
    | [.rv] => some (.val k)
    | _ => none

def sOp (cs : List (Nat × CK)) (s : List SV) (o : Op) : Option SV :=
  match o with
  | .move x | .assign x => sEval s x
  | .pick c a b => match sEval s c with
    | some (.con (.bool true)) => sEval s a
    | some (.con (.bool false)) => sEval s b
    | _ => none
  | .binOp op _ x y _ => match sEval s x, sEval s y with
    | some x, some y => sBin op x y
    | _, _ => none
  | .call { callee := .value (.func f), args, .. } => match lookCK cs f with
    | some k => match sArgs s args.toList with
      | some vs => sCall k vs
      | none => none
    | none => none
  | _ => none

def sPut (s : List SV) (d : Option Nat) (v : SV) : List SV := match d with
  | some d => s.set d v
  | none => s

/-- a test has been decided -/
def sFix (c : Cnd) (b : Bool) (s : List SV) : List SV := s.map fun x => match x with
  | .cnd d => if d = c then .con (.bool b) else .cnd d
  | y => y

/-- what is left to do -/
inductive It where
  | ops (all : Array Oper) (l : List Oper)
  | code (c : Code)
  | blk (id : Nat)

def unwindI (id : Nat) : List It → Option (List It)
  | [] => none
  | .blk i :: k => if id = i then some k else unwindI id k
  | .ops _ _ :: _ => none
  | .code _ :: k => unwindI id k

def forkD (c : Cnd) (t e : Option Dec) : Option Dec := match t, e with
  | some t, some e => some (.node c t e)
  | _, _ => none

def runS (cs : List (Nat × CK)) (res : Nat) : Nat → List It → List SV → Option Dec
  | 0, _, _ => none
  | _ + 1, [], s => (s[res]?).map .leaf
  | n + 1, .blk _ :: k, s => runS cs res n k s
  | n + 1, .ops _ [] :: k, s => runS cs res n k s
  | n + 1, .ops all (o :: l) :: k, s => match o.guard with
    | none => match sOp cs s o.op with
      | some v => runS cs res n (.ops all l :: k) (sPut s o.dst v)
      | none => none
    | some (j, want) => match (all[j]?).bind (·.dst) with
      | none => none
      | some d => match s[d]? with
        | some (.con (.bool b)) => if b = want then (match sOp cs s o.op with
            | some v => runS cs res n (.ops all l :: k) (sPut s o.dst v)
            | none => none)
          else runS cs res n (.ops all l :: k) (sPut s o.dst (.con undef))
        | some (.cnd c) => forkD c (runS cs res n (.ops all (o :: l) :: k) (sFix c true s)) (runS cs res n (.ops all (o :: l) :: k) (sFix c false s))
        | _ => none
  | n + 1, .code c :: k, s => match c with
    | .skip => runS cs res n k s
    | .seq a b => runS cs res n (.code a :: .code b :: k) s
    | .region _ ops false => runS cs res n (.ops ops ops.toList :: k) s
    | .cond c a b => match sEval s c with
      | some (.con (.bool t)) => runS cs res n (.code (if t then a else b) :: k) s
      | some (.cnd d) => forkD d (runS cs res n (.code a :: k) (sFix d true s)) (runS cs res n (.code b :: k) (sFix d false s))
      | _ => none
    | .block id c => runS cs res n (.code c :: .blk id :: k) s
    | .exit id => match unwindI id k with
      | some k => runS cs res n k s
      | none => none
    | .ret => (s[res]?).map .leaf
    | _ => none

/-! ### it is so -/

/-- what stands behind, as a condition on how this ends -/
def postI (P : Program) (Q : Exit → Act → World → Prop) : List It → Exit → Act → World → Prop
  | [] => Q
  | .code c :: k => Exit.then (c.wp P (postI P Q k)) (postI P Q k)
  | .blk id :: k => Exit.inBlock id (postI P Q k)
  | .ops all l :: k => Exit.then (wpList P all (postI P Q k) l) (postI P Q k)

theorem postI_ret {P : Program} {Q : Exit → Act → World → Prop} (k : List It) {a : Act} {w : World} (h : Q .ret a w) : postI P Q k .ret a w := by
  induction k with
  | nil => exact h
  | cons x k ih => cases x <;> exact ih

theorem postI_exit {P : Program} {Q : Exit → Act → World → Prop} (id : Nat) : ∀ (k k' : List It) {a : Act} {w : World}, unwindI id k = some k' → postI P Q k' .normal a w → postI P Q k (.exit id) a w := by
  intro k
  induction k with
  | nil => intro k' a w h; cases h
  | cons x k ih =>
    intro k' a w h hq
    cases x with
    | ops all l => cases h
    | code c => exact ih k' h hq
    | blk i =>
      rw [unwindI] at h
      by_cases hi : id = i
      · rw [if_pos hi] at h
        injection h with h
        subst h
        show (if id = i then postI P Q k .normal a w else postI P Q k (.exit id) a w)
        rw [if_pos hi]
        exact hq
      · rw [if_neg hi] at h
        show (if id = i then postI P Q k .normal a w else postI P Q k (.exit id) a w)
        rw [if_neg hi]
        exact ih k' h hq

variable {P : Program} {E : Nat → Int → Bool} {G : Nat → Int → Value} {r : Int} {w : World}

/-- slots as they are -/
def IsAt (E : Nat → Int → Bool) (G : Nat → Int → Value) (r : Int) (s : List SV) (a : Act) : Prop := a.tmps.toList = s.map (·.at E G r) ∧ a.defers = []

theorem IsAt.get {s : List SV} {a : Act} (h : IsAt E G r s a) {t : Nat} {v : SV} (hv : s[t]? = some v) : a.tmps[t]? = some (v.at E G r) := by
  rw [← Array.getElem?_toList, h.1, List.getElem?_map, hv]; rfl

theorem IsAt.eval {s : List SV} {a : Act} (h : IsAt E G r s a) (x : Operand) {v : SV} (hv : sEval s x = some v) : a.eval x = v.at E G r := by
  cases x with
  | tmp t =>
    have := h.get (show s[t]? = some v from hv)
    show a.tmps.getD t undef = _
    rw [Array.getD_eq_getD_getElem?, this]; rfl
  | const c => simp only [sEval, Option.some.injEq] at hv; subst hv; rfl
  | _ => cases hv

theorem IsAt.args {s : List SV} {a : Act} (h : IsAt E G r s a) : ∀ (l : List Operand) {vs : List SV}, sArgs s l = some vs → l.map a.eval = vs.map (·.at E G r) := by
  intro l
  induction l with
  | nil => intro vs hv; simp only [sArgs, Option.some.injEq] at hv; subst hv; rfl
  | cons x l ih =>
    intro vs hv
    rw [sArgs] at hv
    cases h1 : sEval s x with
    | none => simp [h1] at hv
    | some v =>
      cases h2 : sArgs s l with
      | none => simp [h1, h2] at hv
      | some us =>
        simp only [h1, h2, Option.some.injEq] at hv
        subst hv
        rw [List.map_cons, List.map_cons, h.eval x h1, ih h2]

theorem IsAt.put {s : List SV} {a : Act} (h : IsAt E G r s a) (d : Option Nat) (v : SV) : IsAt E G r (sPut s d v) (a.put d (v.at E G r)) := by
  cases d with
  | none => exact h
  | some d =>
    refine ⟨?_, h.2⟩
    show (a.tmps.setIfInBounds d _).toList = _
    rw [Array.toList_setIfInBounds, h.1, sPut, List.map_set]

theorem IsAt.fix {s : List SV} {a : Act} (h : IsAt E G r s a) (c : Cnd) (b : Bool) (hc : c.holds E r = b) : IsAt E G r (sFix c b s) a := by
  refine ⟨?_, h.2⟩
  rw [h.1, sFix, List.map_map]
  refine List.map_congr_left fun x _ => ?_
  cases x with
  | cnd d =>
    show SV.at E G r (.cnd d) = SV.at E G r (if d = c then .con (.bool b) else .cnd d)
    by_cases hd : d = c
    · subst hd; rw [if_pos rfl]; show Value.bool _ = Value.bool _; rw [hc]
    · rw [if_neg hd]
  | _ => rfl

/-- what the called functions do -/
def CKs (P : Program) (E : Nat → Int → Bool) (G : Nat → Int → Value) (r : Int) (cs : List (Nat × CK)) : Prop := ∀ f k, lookCK cs f = some k →
  (∀ args w, (callFunc f args).run P w = .ok (.enter f args) w) ∧ match k with
  | .rng => ∀ a b w, Calls P f #[.int .i32 r, .int .i32 a, .int .i32 b] w fun e w' => e = .returned (.bool (decide (a ≤ r) && decide (r ≤ b))) ∧ w = w'
  | .ext k => ∀ w, Calls P f #[.int .i32 r] w fun e w' => e = .returned (.bool (E k r)) ∧ w = w'
  | .val k => ∀ w, Calls P f #[.int .i32 r] w fun e w' => e = .returned (G k r) ∧ w = w'

theorem sBin_run {op : BinOp} {x y v : SV} (ty : TypeId) (h : sBin op x y = some v) (ox oy : Operand) :
    (do eqGuard op ty ox oy (x.at E G r) (y.at E G r); binOp op ty (x.at E G r) (y.at E G r) : Sem Value).run P w = .ok (v.at E G r) w := by
  unfold sBin at h
  split at h
  · injection h with h
    subst h
    simp [SV.at, eqGuard, binOp, Op.intCmp, Cnd.holds, BEq.beq]
  · injection h with h
    subst h
    simp [SV.at, eqGuard, binOp, Op.intCmp, Cnd.holds]
  · cases h

theorem sOp_wp {cs : List (Nat × CK)} (hcs : CKs P E G r cs) {s : List SV} {a : Act} (h : IsAt E G r s a) (o : Oper) {v : SV} (hv : sOp cs s o.op = some v)
    {K : Act → World → Prop} {Q : Exit → Act → World → Prop} (hK : K (a.put o.dst (v.at E G r)) w) : o.wp P a w K Q := by
  unfold Oper.wp execOp
  unfold sOp at hv
  split at hv
  · rename_i x hx
    rw [hx]
    simp only []
    rw [h.eval x hv]
    exact hK
  · rename_i x hx
    rw [hx]
    simp only []
    rw [h.eval x hv]
    exact hK
  · rename_i c x y hx
    rw [hx]
    simp only []
    split at hv
    · rename_i hc
      rw [h.eval c hc, h.eval x hv]
      exact hK
    · rename_i hc
      rw [h.eval c hc, h.eval y hv]
      exact hK
    · cases hv
  · rename_i op ty x y ty2 hx
    rw [hx]
    simp only []
    split at hv
    · rename_i x' y' hx' hy'
      rw [h.eval x hx', h.eval y hy']
      have := sBin_run (P := P) (E := E) (G := G) (r := r) (w := w) ty hv x y
      revert this
      generalize (do eqGuard op ty x y (x'.at E G r) (y'.at E G r); binOp op ty (x'.at E G r) (y'.at E G r) : Sem Value) = M
      intro hM
      have e : (do pure (Next.value (← M)) : Sem Next).run P w = .ok (.value (v.at E G r)) w := by
        simp [hM]
      rw [e]
      exact hK
    · cases hv
  · rename_i f args tys hx
    rw [hx]
    simp only []
    cases hk : lookCK cs f with
    | none => rw [hk] at hv; simp at hv
    | some k =>
      obtain ⟨hen, hcall⟩ := hcs f k hk
      cases ha : sArgs s args.toList with
      | none => rw [hk, ha] at hv; cases k <;> simp at hv
      | some vs =>
        have hargs : args.map a.eval = (vs.map (·.at E G r)).toArray := by
          apply Array.toList_inj.1
          rw [Array.toList_map, h.args _ ha]
        have e : (do let d ← resolve a.eval { callee := .value (.func f), args := args, argTypes := tys } o.type; invoke d.target d.args : Sem Next).run P w = .ok (.enter f (vs.map (·.at E G r)).toArray) w := by
          have := hen (vs.map (·.at E G r)).toArray w
          simp [resolve, Act.eval, Deferred.ofValue, invoke, hargs] 
          simpa using this
        rw [e]
        rw [hk] at hv
        simp only [ha] at hv
        rw [Oper.upon_enter]
        unfold sCall at hv
        cases k with
        | rng =>
          simp only [] at hv
          split at hv
          · injection hv with hv
            subst hv
            refine (hcall _ _ w).mono ?_
            rintro e w' ⟨rfl, rfl⟩
            exact hK
          · cases hv
        | ext k =>
          simp only [] at hv
          split at hv
          · injection hv with hv
            subst hv
            refine (hcall w).mono ?_
            rintro e w' ⟨rfl, rfl⟩
            exact hK
          · cases hv
        | val k =>
          simp only [] at hv
          split at hv
          · injection hv with hv
            subst hv
            refine (hcall w).mono ?_
            rintro e w' ⟨rfl, rfl⟩
            exact hK
          · cases hv
  · cases hv

theorem forkD_some {c : Cnd} {t e : Option Dec} {d : Dec} (h : forkD c t e = some d) : ∃ x y, t = some x ∧ e = some y ∧ d = .node c x y := by
  unfold forkD at h
  split at h
  · injection h with h; exact ⟨_, _, rfl, rfl, h.symm⟩
  · cases h

/-- THE RUN IS THE FUNCTION's -/
theorem runS_wp {cs : List (Nat × CK)} (hcs : CKs P E G r cs) {res : Nat} {Q : Exit → Act → World → Prop} (w : World) : ∀ (n : Nat) (k : List It) (s : List SV) (a : Act) (d : Dec), IsAt E G r s a → runS cs res n k s = some d →
    (∀ a' e, (e = Exit.ret ∨ e = Exit.normal) → a'.defers = [] → a'.tmps.getD res undef = d.sem E G r → Q e a' w) → postI P Q k .normal a w := by
  intro n
  induction n with
  | zero => intro k s a d _ h; cases h
  | succ n ih =>
    intro k s a d hs h hQ
    have hfork : ∀ (c : Cnd) (t e : Option Dec) (kt ke : List It), forkD c t e = some d → t = runS cs res n kt (sFix c true s) → e = runS cs res n ke (sFix c false s) →
        (c.holds E r = true → postI P Q kt .normal a w) ∧ (c.holds E r = false → postI P Q ke .normal a w) := by
      intro c t e kt ke hf ht he
      obtain ⟨x, y, hx, hy, rfl⟩ := forkD_some hf
      refine ⟨fun hc => ih kt _ a x (hs.fix c true hc) (by rw [← ht, hx]) ?_, fun hc => ih ke _ a y (hs.fix c false hc) (by rw [← he, hy]) ?_⟩
      · intro a' e' h1 h2 h3
        refine hQ a' e' h1 h2 ?_
        rw [h3, Dec.sem, hc, if_pos rfl]
      · intro a' e' h1 h2 h3
        refine hQ a' e' h1 h2 ?_
        rw [h3, Dec.sem, hc, if_neg (by simp)]
    have hleaf : ∀ e, (e = Exit.ret ∨ e = Exit.normal) → (s[res]?).map Dec.leaf = some d → Q e a w := by
      intro e he hm
      cases hr : s[res]? with
      | none => rw [hr] at hm; cases hm
      | some x =>
        rw [hr] at hm
        simp only [Option.map_some, Option.some.injEq] at hm
        subst hm
        refine hQ a e he hs.2 ?_
        rw [Array.getD_eq_getD_getElem?, hs.get hr]; rfl
    cases k with
    | nil =>
      rw [runS] at h
      exact hleaf .normal (.inr rfl) h
    | cons x k =>
      cases x with
      | blk id =>
        rw [runS] at h
        exact ih k s a d hs h hQ
      | ops all l =>
        cases l with
        | nil =>
          rw [runS] at h
          exact ih k s a d hs h hQ
        | cons o l =>
          rw [runS] at h
          show wpList P all (postI P Q k) (o :: l) a w
          have hdo : Region.wanted o (yielded all a.tmps) = true → (match sOp cs s o.op with
              | some v => runS cs res n (.ops all l :: k) (sPut s o.dst v)
              | none => none) = some d → wpList P all (postI P Q k) (o :: l) a w := by
            intro hw hd
            cases hv : sOp cs s o.op with
            | none => rw [hv] at hd; cases hd
            | some v =>
              rw [hv] at hd
              unfold wpList
              rw [if_pos hw]
              refine .inl (sOp_wp hcs hs o hv ?_)
              exact ih (.ops all l :: k) _ _ d (hs.put o.dst v) hd hQ
          have hno : Region.wanted o (yielded all a.tmps) = false → runS cs res n (.ops all l :: k) (sPut s o.dst (.con undef)) = some d → wpList P all (postI P Q k) (o :: l) a w := by
            intro hw hd
            unfold wpList
            rw [if_neg (by simp [hw])]
            exact ih (.ops all l :: k) _ _ d (hs.put o.dst (.con undef)) hd hQ
          cases hg : o.guard with
          | none =>
            rw [hg] at h
            exact hdo (by simp [Region.wanted, hg]) h
          | some jw =>
            obtain ⟨j, want⟩ := jw
            rw [hg] at h
            simp only [] at h
            cases hd : (all[j]?).bind (·.dst) with
            | none => rw [hd] at h; cases h
            | some t =>
              rw [hd] at h
              simp only [] at h
              have hy : ∀ b, (∃ x, s[t]? = some x ∧ x.at E G r = .bool b) → Region.wanted o (yielded all a.tmps) = (b == want) := by
                rintro b ⟨x, hx, hb⟩
                have hh := hs.get hx
                rw [hb] at hh
                have e : yielded all a.tmps j = some b := by
                  unfold yielded
                  rw [hd]
                  show (match a.tmps[t]? with | some (.bool b) => some b | _ => none) = some b
                  rw [hh]
                unfold Region.wanted
                rw [hg]
                simp only []
                rw [e]
                cases b <;> cases want <;> rfl
              cases hx : s[t]? with
              | none => rw [hx] at h; cases h
              | some x =>
                rw [hx] at h
                cases x with
                | con v =>
                  cases v with
                  | bool b =>
                    simp only [] at h
                    by_cases hbw : b = want
                    · rw [if_pos hbw] at h
                      exact hdo (by rw [hy b ⟨_, hx, rfl⟩]; simp [hbw]) h
                    · rw [if_neg hbw] at h
                      exact hno (by rw [hy b ⟨_, hx, rfl⟩]; simpa using hbw) h
                  | _ => cases h
                | cnd c =>
                  simp only [] at h
                  obtain ⟨h1, h2⟩ := hfork c _ _ _ _ h rfl rfl
                  cases hc : c.holds E r with
                  | true => exact h1 hc
                  | false => exact h2 hc
                | _ => cases h
      | code c =>
        show c.wp P (postI P Q k) a w
        cases c with
        | skip =>
          rw [runS] at h
          exact wp_skip (ih k s a d hs h hQ)
        | seq x y =>
          rw [runS] at h
          refine wp_seq ?_
          exact ih (.code x :: .code y :: k) s a d hs h hQ
        | region id ops dr =>
          cases dr with
          | true => simp [runS] at h
          | false =>
            rw [runS] at h
            refine wp_region_list ?_
            exact ih (.ops ops ops.toList :: k) s a d hs h hQ
        | cond c x y =>
          rw [runS] at h
          cases hv : sEval s c with
          | none => rw [hv] at h; cases h
          | some v =>
            rw [hv] at h
            have he := hs.eval c hv
            cases v with
            | con v =>
              cases v with
              | bool t =>
                simp only [] at h
                exact wp_cond he (ih (.code (if t then x else y) :: k) s a d hs h hQ)
              | _ => cases h
            | cnd c =>
              simp only [] at h
              obtain ⟨h1, h2⟩ := hfork c _ _ _ _ h rfl rfl
              refine wp_cond he ?_
              cases hc : c.holds E r with
              | true => exact h1 hc
              | false => exact h2 hc
            | _ => cases h
        | block id c =>
          rw [runS] at h
          refine wp_block ?_
          exact ih (.code c :: .blk id :: k) s a d hs h hQ
        | exit id =>
          rw [runS] at h
          cases hu : unwindI id k with
          | none => rw [hu] at h; cases h
          | some k' =>
            rw [hu] at h
            exact wp_exit (postI_exit id k k' hu (ih k' s a d hs h hQ))
        | ret =>
          rw [runS] at h
          exact wp_ret (postI_ret k (hleaf .ret (.inl rfl) h))
        | loop x => simp [runS] at h
        | rangeFunc x y z u => simp [runS] at h
        | scope x => simp [runS] at h
        | label x => simp [runS] at h
        | goto x => simp [runS] at h
        | refuse x => simp [runS] at h

/-- what a function answers, of its own text -/
def decOf (cs : List (Nat × CK)) (fn : Func) (fuel : Nat) : Option Dec := match fn.body, fn.results.toList with
  | some c, [.tmp res] => runS cs res fuel [.code c] (.rv :: List.replicate (fn.ntmps - 1) (.con undef))
  | _, _ => none

theorem calls_decOf {cs : List (Nat × CK)} (hcs : CKs P E G r cs) {f : FuncId} {fn : Func} (hf : P.funcs[f]? = some fn) {fuel : Nat} {d : Dec} (h : decOf cs fn fuel = some d) (w : World) :
    Calls P f #[.int .i32 r] w fun e w' => e = .returned (d.sem E G r) ∧ w = w' := by
  unfold decOf at h
  cases hb : fn.body with
  | none => rw [hb] at h; cases h
  | some c =>
    rw [hb] at h
    split at h
    · rename_i c' res hc hres
      injection hc with hc
      subst hc
      have hres' : fn.results = #[.tmp res] := by
        apply Array.toList_inj.1
        rw [hres]
      refine calls_of_wp hf hb ?_
      refine runS_wp (P := P) (E := E) (G := G) (r := r) hcs w fuel [.code c] _ _ d ⟨?_, rfl⟩ h ?_
      · simp [SV.at]
      · intro a' e he hd ht
        rcases he with rfl | rfl
        · exact ⟨hd, _, results_tmp hres' _ _ _, by rw [ht], rfl⟩
        · exact ⟨hd, _, results_tmp hres' _ _ _, by rw [ht], rfl⟩
    · cases h
end Go.Proofs.YtbdhgjaoojimmaaDoor

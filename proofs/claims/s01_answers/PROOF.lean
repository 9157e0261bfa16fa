import PyProof.Rows.All
import Wide.All
import OpenK.AllK
import Wide.FinOn
import Open.SpecLaws
import KE.OsGo
import HandS.ForSpec
import HandS.ForMost
import HandS.Walk
import HandS.Zip
import PyFlatLaws
import PySem.Challenge.RW_hopperfill_s01_answers
set_option Elab.async false
set_option linter.all false
set_option maxRecDepth 100000
set_option maxHeartbeats 4000000
namespace Hop
open Kv334
structure GoodShip (x : Ship) : Prop where
  room1 : 1 ≤ x.room
  room2 : x.room ≤ 10000
  empty1 : 1 ≤ x.empty
  empty2 : x.empty ≤ 20000
  most1 : 1 ≤ x.most
  most2 : x.most ≤ 20000
  flow1 : 1 ≤ x.flow
  flow2 : x.flow ≤ 200
  solid1 : 1 ≤ x.solid
  solid2 : x.solid ≤ 60
  loss2 : x.loss ≤ 10
structure GoodLoad (x : Ship) (l : Load) : Prop where
  room : l.sand + l.water ≤ x.room * 100
  fresh : l.filled = 0 → l = none_
  some1 : l.filled ≠ 0 → 1 ≤ l.sand
theorem none_good (x : Ship) : GoodLoad x none_ := ⟨Nat.zero_le _, fun _ => rfl, fun h => absurd rfl h⟩
theorem minute_fit {x : Ship} {l : Load} (h : l.sand + l.water + x.flow * x.solid + x.flow * (100 - x.solid) ≤ x.room * 100) :
    x.minute l = ⟨l.sand + x.flow * x.solid, l.water + x.flow * (100 - x.solid), l.filled + 1, l.over, l.gone⟩ := by
  unfold Ship.minute
  rw [if_pos h]
def stays (x : Ship) (l : Load) : Nat := min (x.flow * x.solid * x.keeps (l.over + 1) / 100) (x.room * 100 - l.sand)
theorem minute_over {x : Ship} {l : Load} (h : ¬ l.sand + l.water + x.flow * x.solid + x.flow * (100 - x.solid) ≤ x.room * 100) :
    x.minute l = ⟨l.sand + stays x l, x.room * 100 - (l.sand + stays x l), l.filled + 1, l.over + 1, l.gone + (x.flow * x.solid - stays x l)⟩ := by
  unfold Ship.minute
  rw [if_neg h]
  rfl
theorem keeps_le (x : Ship) (k : Nat) : x.keeps k ≤ 100 := Nat.sub_le _ _
theorem stays_room (x : Ship) (l : Load) : stays x l ≤ x.room * 100 - l.sand := Nat.min_le_right _ _
theorem stays_came (x : Ship) (l : Load) : stays x l ≤ x.flow * x.solid := by
  refine Nat.le_trans (Nat.min_le_left _ _) ?_
  have h : x.flow * x.solid * x.keeps (l.over + 1) ≤ x.flow * x.solid * 100 := Nat.mul_le_mul_left _ (keeps_le x _)
  omega
theorem minute_filled (x : Ship) (l : Load) : (x.minute l).filled = l.filled + 1 := by
  by_cases h : l.sand + l.water + x.flow * x.solid + x.flow * (100 - x.solid) ≤ x.room * 100
  · rw [minute_fit h]
  · rw [minute_over h]
theorem flow_all (gs : GoodShip x) : x.flow * x.solid + x.flow * (100 - x.solid) = x.flow * 100 := by
  rw [← Nat.mul_add]
  have := gs.solid2
  congr 1
  omega
theorem minute_good {x : Ship} {l : Load} (gs : GoodShip x) (gl : GoodLoad x l) : GoodLoad x (x.minute l) := by
  have hr := gl.room
  have hf := flow_all gs
  have s1 : 1 ≤ x.flow * x.solid := Nat.mul_pos gs.flow1 gs.solid1
  by_cases h : l.sand + l.water + x.flow * x.solid + x.flow * (100 - x.solid) ≤ x.room * 100
  · rw [minute_fit h]
    exact ⟨by show l.sand + x.flow * x.solid + (l.water + x.flow * (100 - x.solid)) ≤ x.room * 100; omega, fun z => absurd z (Nat.succ_ne_zero _), fun _ => by show 1 ≤ l.sand + x.flow * x.solid; omega⟩
  · have h1 := stays_room x l
    rw [minute_over h]
    refine ⟨by show l.sand + stays x l + (x.room * 100 - (l.sand + stays x l)) ≤ x.room * 100; omega, fun z => absurd z (Nat.succ_ne_zero _), fun _ => ?_⟩
    show 1 ≤ l.sand + stays x l
    by_cases z : l.filled = 0
    · have e := gl.fresh z
      subst e
      have r1 := gs.room1
      have l2 := gs.loss2
      have hfl : x.room * 100 < x.flow * 100 := by
        have h' : ¬ (0 + 0 + x.flow * x.solid + x.flow * (100 - x.solid) ≤ x.room * 100) := h
        omega
      have s2 : 2 ≤ x.flow * x.solid := Nat.le_trans (by omega : 2 ≤ x.flow * 1) (Nat.mul_le_mul_left _ gs.solid1)
      have k90 : 90 ≤ x.keeps 1 := by show 90 ≤ 100 - x.loss * 1; omega
      have p : 2 * 90 ≤ x.flow * x.solid * x.keeps 1 := Nat.mul_le_mul s2 k90
      have q : 1 ≤ stays x none_ := by
        show 1 ≤ min (x.flow * x.solid * x.keeps (0 + 1) / 100) (x.room * 100 - 0)
        have p' : 2 * 90 ≤ x.flow * x.solid * x.keeps (0 + 1) := p
        exact Nat.le_min.mpr ⟨by omega, by omega⟩
      show 1 ≤ 0 + stays x none_
      omega
    · have := gl.some1 z
      omega
theorem minutes_good {x : Ship} (gs : GoodShip x) : ∀ (n : Nat) {l : Load}, GoodLoad x l → GoodLoad x (x.minutes n l)
  | 0, _, g => g
  | n + 1, _, g => minutes_good gs n (minute_good gs g)
theorem minutes_succ (x : Ship) : ∀ (n : Nat) (l : Load), x.minutes (n + 1) l = x.minute (x.minutes n l)
  | 0, _ => rfl
  | n + 1, l => minutes_succ x n (x.minute l)
theorem minutes_filled (x : Ship) : ∀ (n : Nat) (l : Load), (x.minutes n l).filled = l.filled + n
  | 0, _ => rfl
  | n + 1, l => by
    show (x.minutes n (x.minute l)).filled = l.filled + (n + 1)
    rw [minutes_filled x n, minute_filled]
    omega
theorem after_filled (x : Ship) (n : Nat) : (x.after n).filled = n := by
  unfold Ship.after
  rw [minutes_filled]
  show 0 + n = n
  omega
/-- the loads from l on, behind 0 to n - 1 minutes -/
def on (x : Ship) (l : Load) (n : Nat) : List Load := (List.range n).map fun m => x.minutes m l
theorem on_length (x : Ship) (l : Load) (n : Nat) : (on x l n).length = n := by simp [on]
theorem on_succ (x : Ship) (l : Load) (n : Nat) : on x l (n + 1) = on x l n ++ [x.minutes n l] := by
  unfold on
  rw [List.range_succ, List.map_append]
  rfl
theorem on_get {x : Ship} {l : Load} {n m : Nat} (h : m < n) : (on x l n)[m]? = some (x.minutes m l) := by
  unfold on
  rw [List.getElem?_map, List.getElem?_range h]
  rfl
theorem on_cons (x : Ship) (l : Load) (n : Nat) : on x l (n + 1) = l :: on x (x.minute l) n := by
  unfold on
  rw [List.range_succ_eq_map, List.map_cons, List.map_map]
  rfl
theorem curve_take (x : Ship) : ∀ (n : Nat) (l : Load), x.curve n l = (on x l n).takeWhile x.may
  | 0, _ => rfl
  | n + 1, l => by
    rw [on_cons]
    show (if x.may l then l :: x.curve n (x.minute l) else []) = _
    rw [List.takeWhile_cons]
    by_cases h : x.may l
    · rw [if_pos h, h, curve_take x n]
      rfl
    · have h' : x.may l = false := by simpa using h
      rw [if_neg h, h']
      rfl
theorem loads_take (x : Ship) : x.loads = (on x none_ 201).takeWhile x.may := curve_take x 201 none_
theorem take_get {α : Type} {p : α → Bool} : ∀ {l : List α} {m : Nat}, m < (l.takeWhile p).length → (l.takeWhile p)[m]? = l[m]?
  | [], m, h => by simp at h
  | a :: r, m, h => by
    rw [List.takeWhile_cons] at h ⊢
    by_cases hp : p a = true
    case neg => rw [if_neg hp] at h; simp at h
    case pos =>
      rw [if_pos hp] at h ⊢
      cases m with
      | zero => rfl
      | succ m =>
        have h' : m < (r.takeWhile p).length := by simpa using h
        exact take_get h'
theorem take_len {α : Type} {p : α → Bool} : ∀ (l : List α), (l.takeWhile p).length ≤ l.length
  | [] => Nat.le_refl _
  | a :: r => by
    rw [List.takeWhile_cons]
    cases p a with
    | false => exact Nat.zero_le _
    | true => exact Nat.succ_le_succ (take_len r)
theorem loads_len (x : Ship) : x.loads.length ≤ 201 := by
  rw [loads_take]
  have := take_len (p := x.may) (on x none_ 201)
  rw [on_length] at this
  exact this
theorem loads_get {x : Ship} {m : Nat} (h : m < x.loads.length) : x.loads[m]? = some (x.after m) := by
  have h2 := loads_len x
  rw [loads_take] at h ⊢
  rw [take_get h, on_get (by rw [loads_take] at h2; omega)]
  rfl
theorem loads_getD {x : Ship} {m : Nat} (h : m < x.loads.length) : x.loads.getD m none_ = x.after m := by
  rw [List.getD_eq_getElem?_getD, loads_get h]
  rfl
theorem loads_pos (x : Ship) : 0 < x.loads.length := by
  have e : x.loads = none_ :: x.curve 200 (x.minute none_) := by
    show (if x.may none_ then none_ :: x.curve 200 (x.minute none_) else []) = _
    have : x.may none_ = true := by
      show decide (0 ≤ x.most * 100) = true
      exact decide_eq_true (Nat.zero_le _)
    rw [if_pos this]
  rw [e]
  exact Nat.succ_pos _
end Hop

namespace Hop
open Kv334 (Load Ship none_ Abs Ans)
/-- a ship with what is in it -/
structure R where
  x : Ship
  l : Load
  t : Nat
  c : Nat
instance : Inhabited R := ⟨⟨⟨1, 1, 1, 1, 1, 0⟩, none_, 0, 0⟩⟩
structure GoodR (r : R) : Prop where
  gs : GoodShip r.x
  gl : GoodLoad r.x r.l
/-! ### the answers, ship by ship -/
def mFill (r : R) (n : Nat) : R × List Int := if n = 0 ∨ 200 < n ∨ 200 < r.l.filled + n then (r, [-22]) else
  if (List.range (n + 1)).any (fun m => !(r.x.may (r.x.minutes m r.l))) = true then (r, [-41]) else ({ r with l := r.x.minutes n r.l }, [((r.x.minutes n r.l).sand / 100 : Nat), ((r.x.minutes n r.l).water / 100 : Nat), ((r.x.minutes n r.l).over : Nat)])
def mDump (r : R) : R × List Int := if r.l.filled = 0 then (r, [-6]) else (⟨r.x, none_, r.t + 1, r.c + r.l.sand⟩, [(r.l.sand / 100 : Nat), (r.l.sand % 100 : Nat)])
def mPour (r : R) (n : Nat) : R × List Int := if n = 0 ∨ 10000 < n then (r, [-22]) else if r.l.water < n * 100 then (r, [-12]) else ({ r with l := { r.l with water := r.l.water - n * 100 } }, [((r.l.water - n * 100) / 100 : Nat)])
def mChange (r : R) (f p : Nat) : R × List Int := if f = 0 ∨ 200 < f ∨ p = 0 ∨ 60 < p then (r, [-22]) else if r.l.filled ≠ 0 then (r, [-16]) else ({ r with x := { r.x with flow := f, solid := p } }, [(r.x.flow : Nat)])
def mLoad (r : R) : List Int := [(r.l.filled : Nat), (r.l.sand : Nat), (r.l.water : Nat), (r.l.over : Nat), (r.l.gone : Nat)]
def mWeight (r : R) : List Int := [(r.l.weight / 100 : Nat), (r.x.empty + r.l.weight / 100 : Nat), (r.x.most : Nat)]
def mAfter (r : R) (n : Nat) : List Int := if 200 < n then [-22] else [((r.x.after n).sand : Nat), ((r.x.after n).water : Nat), ((r.x.after n).over : Nat), ((r.x.after n).gone : Nat), ((if r.x.may (r.x.after n) then 1 else 0 : Nat) : Nat)]
def mFull (r : R) : List Int := match (List.range 201).find? fun n => (r.x.after n).over != 0 with
  | none => [-33]
  | some n => [(n : Nat)]
def mLongest (r : R) : List Int := [(r.x.loads.length - 1 : Nat)]
def mBest (r : R) (rest : Nat) : List Int := if rest = 0 ∨ 2000 < rest then [-22] else [((r.x.best rest).1 : Nat), ((r.x.best rest).2 : Nat), ((r.x.best rest).2 * 60 / ((r.x.best rest).1 + rest) : Nat)]
def mRate (r : R) (n rest : Nat) : List Int := if 200 < n ∨ rest = 0 ∨ 2000 < rest then [-22] else [((r.x.after n).sand * 60 / (n + rest) : Nat), ((r.x.after n).sand * 60 % (n + rest) : Nat)]
def mTrips (r : R) (rest d : Nat) : List Int := if rest = 0 ∨ 2000 < rest ∨ 100000 < d then [-22] else [(d / ((r.x.best rest).1 + rest) : Nat), (d / ((r.x.best rest).1 + rest) * (r.x.best rest).2 : Nat), ((r.x.best rest).1 : Nat)]
def mKeeps (r : R) (k : Nat) : List Int := if 200 < k then [-22] else [(r.x.keeps k : Nat)]
def mLost (r : R) (n : Nat) : List Int := if n = 0 ∨ 200 < n then [-22] else [((r.x.after n).gone * 1000 / (n * r.x.flow * r.x.solid) : Nat), ((r.x.after n).gone : Nat)]
def mWet (r : R) : List Int := if r.l.filled = 0 then [-6] else [(r.l.water * 1000 / (r.l.sand + r.l.water) : Nat)]
def mDraft (r : R) (t : List Nat) : List Int := if Kv334.okTable t = false then [-22] else match Kv334.draft (Kv334.pairs t) (r.x.empty + r.l.weight / 100) with
  | none => [-33]
  | some d => [(d : Nat)]
def mReaches (r : R) (n : Nat) : List Int := if 10000 < n then [-22] else match (List.range r.x.loads.length).find? fun m => decide (n * 100 ≤ (r.x.loads.getD m none_).sand) with
  | none => [-33]
  | some m => [(m : Nat)]
def mLook (r : R) : List Int := [(r.x.room : Nat), (r.x.empty : Nat), (r.x.most : Nat), (r.x.flow : Nat), (r.x.solid : Nat), (r.x.loss : Nat)]
def absOf (rs : List R) : Abs := ⟨rs.map (·.x), rs.map (·.l), rs.map (·.t), rs.map (·.c)⟩
def mFullest (rs : List R) : List Int := match (absOf rs).fullest with
  | none => [-6]
  | some s => [(s : Nat), ((rs.getD s default).l.sand : Nat), ((rs.getD s default).x.room : Nat)]
def mSums (rs : List R) : List Int := [0, ((rs.map (·.t)).sum : Nat), ((rs.map (·.c)).sum : Nat), ((rs.map (·.l.sand)).sum : Nat)]
def mState (rs : List R) : List Int := (rs.length : Int) :: rs.flatMap fun r => [(r.t : Int), (r.c : Int)]
def mBegin : (Bool × List R) × List Int := ((true, []), [0])
def mShip (b : Bool) (rs : List R) (r e m f s l : Nat) : (Bool × List R) × List Int := if r = 0 ∨ 10000 < r ∨ e = 0 ∨ 20000 < e ∨ m = 0 ∨ 20000 < m ∨ f = 0 ∨ 200 < f ∨ s = 0 ∨ 60 < s ∨ 10 < l then ((b, rs), [-22]) else if 4 ≤ rs.length then ((b, rs), [-28]) else ((b, rs ++ [⟨⟨r, e, m, f, s, l⟩, none_, 0, 0⟩]), [(rs.length : Nat)])
/-- a call that names a ship -/
def mS (k : Nat) (r : R) (ns : List Nat) : R × List Int :=
  if k = 2 then mFill r (ns.getD 0 0) else if k = 3 then mDump r else if k = 4 then mPour r (ns.getD 0 0) else if k = 5 then mChange r (ns.getD 0 0) (ns.getD 1 0) else if k = 6 then (r, mLoad r) else if k = 7 then (r, mWeight r) else
  if k = 8 then (r, mAfter r (ns.getD 0 0)) else if k = 9 then (r, mFull r) else if k = 10 then (r, mLongest r) else if k = 11 then (r, mBest r (ns.getD 0 0)) else if k = 12 then (r, mRate r (ns.getD 0 0) (ns.getD 1 0)) else if k = 13 then (r, mTrips r (ns.getD 0 0) (ns.getD 1 0)) else
  if k = 14 then (r, mKeeps r (ns.getD 0 0)) else if k = 15 then (r, mLost r (ns.getD 0 0)) else if k = 16 then (r, mWet r) else if k = 17 then (r, mDraft r ns) else if k = 19 then (r, mReaches r (ns.getD 0 0)) else (r, mLook r)
/-- a call that names none -/
def mN (k : Nat) (b : Bool) (rs : List R) (ns : List Nat) : (Bool × List R) × List Int :=
  if k = 0 then mBegin else if k = 1 then mShip b rs (ns.getD 0 0) (ns.getD 1 0) (ns.getD 2 0) (ns.getD 3 0) (ns.getD 4 0) (ns.getD 5 0) else if k = 18 then ((b, rs), mFullest rs) else if k = 21 then ((b, rs), mSums rs) else ((b, rs), mState rs)
def bare (k : Nat) : Bool := k == 0 || k == 1 || k == 18 || k == 21 || k == 22
def mCall (b : Bool) (rs : List R) (k : Nat) (ns : List Nat) : (Bool × List R) × List Int :=
  if k ≠ 0 ∧ b = false then ((b, rs), [-11]) else if bare k = true then mN k b rs ns else
    if rs.length ≤ ns.getD 0 0 then ((b, rs), [-2]) else ((b, rs.set (ns.getD 0 0) (mS k (rs.getD (ns.getD 0 0) default) (ns.drop 1)).1), (mS k (rs.getD (ns.getD 0 0) default) (ns.drop 1)).2)
/-! ### they are the specification's -/
def stOf (b : Bool) (rs : List R) : Kv334.State := if b = true then some (absOf rs) else none
theorem set_same {α : Type} : ∀ {l : List α} {i : Nat} {a : α}, l[i]? = some a → l.set i a = l
  | [], _, _, h => by simp at h
  | b :: r, 0, a, h => by cases h; rfl
  | b :: r, i + 1, a, h => congrArg (List.cons b) (set_same (l := r) (i := i) (by simpa using h))
theorem modify_set {α : Type} {f : α → α} : ∀ {l : List α} {i : Nat} {a : α}, l[i]? = some a → l.modify i f = l.set i (f a)
  | [], _, _, h => by simp at h
  | b :: r, 0, a, h => by cases h; rfl
  | b :: r, i + 1, a, h => by
    have ih := modify_set (f := f) (l := r) (i := i) (a := a) (by simpa using h)
    rw [List.modify_succ_cons, ih]
    rfl
section
variable {rs : List R} {s : Nat} {r : R}
theorem map_at {β : Type} (f : R → β) (h : rs[s]? = some r) : (rs.map f)[s]? = some (f r) := by
  rw [List.getElem?_map, h]
  rfl
theorem ship_at (h : rs[s]? = some r) : (absOf rs).ship s = r.x := by
  show (rs.map (·.x)).getD s _ = r.x
  rw [List.getD_eq_getElem?_getD, map_at _ h]
  rfl
theorem load_at (h : rs[s]? = some r) : (absOf rs).load s = r.l := by
  show (rs.map (·.l)).getD s _ = r.l
  rw [List.getD_eq_getElem?_getD, map_at _ h]
  rfl
theorem getD_at (h : rs[s]? = some r) : rs.getD s default = r := by
  rw [List.getD_eq_getElem?_getD, h]
  rfl
theorem abs_set (h : rs[s]? = some r) (r' : R) : absOf (rs.set s r') = ⟨(rs.map (·.x)).set s r'.x, (rs.map (·.l)).set s r'.l, (rs.map (·.t)).set s r'.t, (rs.map (·.c)).set s r'.c⟩ := by
  unfold absOf
  rw [List.map_set, List.map_set, List.map_set, List.map_set]
theorem put_at (h : rs[s]? = some r) (l : Load) : (absOf rs).put s l = absOf (rs.set s { r with l := l }) := by
  rw [abs_set h]
  show (⟨rs.map (·.x), (rs.map (·.l)).set s l, rs.map (·.t), rs.map (·.c)⟩ : Abs) = _
  rw [set_same (map_at (·.x) h), set_same (map_at (·.t) h), set_same (map_at (·.c) h)]
theorem same_at (h : rs[s]? = some r) : rs.set s r = rs := set_same h
theorem has_at (h : rs[s]? = some r) : (absOf rs).has s = true := by
  have := (List.getElem?_eq_some_iff.mp h).1
  show decide (s < (rs.map (·.x)).length) = true
  rw [List.length_map]
  exact decide_eq_true this
theorem has_not (h : rs.length ≤ s) : (absOf rs).has s = false := by
  show decide (s < (rs.map (·.x)).length) = false
  rw [List.length_map]
  exact decide_eq_false (by omega)
end
open Kv334Neutral (row)
/-- of a call on the ship s: the object then, the numbers -/
def Does (rs : List R) (s : Nat) (c : Kv334.Call) (o : R × List Int) : Prop := (absOf rs).does c = (absOf (rs.set s o.1), ((absOf rs).does c).2) ∧ row ((absOf rs).does c).2 = o.2
section
variable {rs : List R} {s : Nat} {r : R}
theorem d_fill (h : rs[s]? = some r) (n : Nat) : Does rs s (.fill s n) (mFill r n) := by
  unfold Does mFill Kv334.Abs.does
  simp only [has_at h, Bool.true_eq_false, if_false, load_at h, ship_at h]
  by_cases c1 : n = 0 ∨ 200 < n ∨ 200 < r.l.filled + n
  · simp only [c1, if_true]
    exact ⟨by rw [same_at h], rfl⟩
  · simp only [c1, if_false]
    by_cases c2 : (List.range (n + 1)).any (fun m => !(r.x.may (r.x.minutes m r.l))) = true
    · simp only [c2, if_true]
      exact ⟨by rw [same_at h], rfl⟩
    · rw [if_neg c2, if_neg c2]
      exact ⟨by rw [put_at h], rfl⟩
theorem d_dump (h : rs[s]? = some r) : Does rs s (.dump s) (mDump r) := by
  unfold Does mDump Kv334.Abs.does
  simp only [has_at h, Bool.true_eq_false, if_false, load_at h, ship_at h]
  by_cases c1 : r.l.filled = 0
  · simp only [c1, if_true]
    exact ⟨by rw [same_at h], rfl⟩
  · simp only [c1, if_false]
    refine ⟨?_, rfl⟩
    rw [abs_set h]
    show ((⟨rs.map (·.x), (rs.map (·.l)).set s none_, (rs.map (·.t)).modify s _, (rs.map (·.c)).modify s _⟩ : Abs), _) = _
    rw [modify_set (map_at (·.t) h), modify_set (map_at (·.c) h), set_same (map_at (·.x) h)]
theorem d_pour (h : rs[s]? = some r) (n : Nat) : Does rs s (.pour s n) (mPour r n) := by
  unfold Does mPour Kv334.Abs.does
  simp only [has_at h, Bool.true_eq_false, if_false, load_at h, ship_at h]
  by_cases c1 : n = 0 ∨ 10000 < n
  · simp only [c1, if_true]
    exact ⟨by rw [same_at h], rfl⟩
  · simp only [c1, if_false]
    by_cases c2 : r.l.water < n * 100
    · simp only [c2, if_true]
      exact ⟨by rw [same_at h], rfl⟩
    · simp only [c2, if_false]
      exact ⟨by rw [put_at h], rfl⟩
theorem d_change (h : rs[s]? = some r) (f p : Nat) : Does rs s (.change s f p) (mChange r f p) := by
  unfold Does mChange Kv334.Abs.does
  simp only [has_at h, Bool.true_eq_false, if_false, load_at h, ship_at h]
  by_cases c1 : f = 0 ∨ 200 < f ∨ p = 0 ∨ 60 < p
  · simp only [c1, if_true]
    exact ⟨by rw [same_at h], rfl⟩
  · simp only [c1, if_false]
    by_cases c2 : r.l.filled ≠ 0
    · rw [if_pos c2, if_pos c2]
      exact ⟨by rw [same_at h], rfl⟩
    · rw [if_neg c2, if_neg c2]
      refine ⟨?_, rfl⟩
      rw [abs_set h]
      show ((⟨(rs.map (·.x)).modify s _, rs.map (·.l), rs.map (·.t), rs.map (·.c)⟩ : Abs), _) = _
      rw [modify_set (map_at (·.x) h), set_same (map_at (·.l) h), set_same (map_at (·.t) h), set_same (map_at (·.c) h)]
/-- a call that looks -/
theorem d_look {c : Kv334.Call} {out : List Int} {a : Ans} (h : rs[s]? = some r) (e : (absOf rs).does c = (absOf rs, a)) (e2 : row a = out) : Does rs s c (r, out) := by
  unfold Does
  rw [same_at h, e]
  exact ⟨rfl, e2⟩
theorem d_load (h : rs[s]? = some r) : Does rs s (.load s) (r, mLoad r) := by
  refine d_look h (a := ⟨(r.l.filled : Nat), [r.l.sand, r.l.water, r.l.over, r.l.gone]⟩) ?_ rfl
  simp only [Kv334.Abs.does, has_at h, Bool.true_eq_false, if_false, load_at h]
theorem d_weight (h : rs[s]? = some r) : Does rs s (.weight s) (r, mWeight r) := by
  refine d_look h (a := ⟨(r.l.weight / 100 : Nat), [r.x.empty + r.l.weight / 100, r.x.most]⟩) ?_ rfl
  simp only [Kv334.Abs.does, has_at h, Bool.true_eq_false, if_false, load_at h, ship_at h]
theorem d_after (h : rs[s]? = some r) (n : Nat) : Does rs s (.after s n) (r, mAfter r n) := by
  unfold mAfter
  by_cases c : 200 < n
  · rw [if_pos c]
    refine d_look h (a := Kv334.say (-22)) ?_ rfl
    simp only [Kv334.Abs.does, has_at h, Bool.true_eq_false, if_false, c, if_true]
  · rw [if_neg c]
    refine d_look h (a := ⟨((r.x.after n).sand : Nat), [(r.x.after n).water, (r.x.after n).over, (r.x.after n).gone, if r.x.may (r.x.after n) then 1 else 0]⟩) ?_ rfl
    simp only [Kv334.Abs.does, has_at h, Bool.true_eq_false, if_false, c, ship_at h]
theorem d_full (h : rs[s]? = some r) : Does rs s (.full s) (r, mFull r) := by
  unfold mFull
  cases c : (List.range 201).find? fun n => (r.x.after n).over != 0 with
  | none =>
    refine d_look h (a := Kv334.say (-33)) ?_ rfl
    simp only [Kv334.Abs.does, has_at h, Bool.true_eq_false, if_false, ship_at h, c]
  | some n =>
    refine d_look h (a := Kv334.say (n : Nat)) ?_ rfl
    simp only [Kv334.Abs.does, has_at h, Bool.true_eq_false, if_false, ship_at h, c]
theorem d_longest (h : rs[s]? = some r) : Does rs s (.longest s) (r, mLongest r) := by
  refine d_look h (a := Kv334.say (r.x.loads.length - 1 : Nat)) ?_ rfl
  simp only [Kv334.Abs.does, has_at h, Bool.true_eq_false, if_false, ship_at h]
theorem d_best (h : rs[s]? = some r) (n : Nat) : Does rs s (.best s n) (r, mBest r n) := by
  unfold mBest
  by_cases c : n = 0 ∨ 2000 < n
  · rw [if_pos c]
    refine d_look h (a := Kv334.say (-22)) ?_ rfl
    simp only [Kv334.Abs.does, has_at h, Bool.true_eq_false, if_false, c, if_true]
  · rw [if_neg c]
    refine d_look h (a := ⟨((r.x.best n).1 : Nat), [(r.x.best n).2, (r.x.best n).2 * 60 / ((r.x.best n).1 + n)]⟩) ?_ rfl
    simp only [Kv334.Abs.does, has_at h, Bool.true_eq_false, if_false, c, ship_at h]
theorem d_rate (h : rs[s]? = some r) (n m : Nat) : Does rs s (.rate s n m) (r, mRate r n m) := by
  unfold mRate
  by_cases c : 200 < n ∨ m = 0 ∨ 2000 < m
  · rw [if_pos c]
    refine d_look h (a := Kv334.say (-22)) ?_ rfl
    simp only [Kv334.Abs.does, has_at h, Bool.true_eq_false, if_false, c, if_true]
  · rw [if_neg c]
    refine d_look h (a := ⟨((r.x.after n).sand * 60 / (n + m) : Nat), [(r.x.after n).sand * 60 % (n + m)]⟩) ?_ rfl
    simp only [Kv334.Abs.does, has_at h, Bool.true_eq_false, if_false, c, ship_at h]
theorem d_trips (h : rs[s]? = some r) (n m : Nat) : Does rs s (.trips s n m) (r, mTrips r n m) := by
  unfold mTrips
  by_cases c : n = 0 ∨ 2000 < n ∨ 100000 < m
  · rw [if_pos c]
    refine d_look h (a := Kv334.say (-22)) ?_ rfl
    simp only [Kv334.Abs.does, has_at h, Bool.true_eq_false, if_false, c, if_true]
  · rw [if_neg c]
    refine d_look h (a := ⟨(m / ((r.x.best n).1 + n) : Nat), [m / ((r.x.best n).1 + n) * (r.x.best n).2, (r.x.best n).1]⟩) ?_ rfl
    simp only [Kv334.Abs.does, has_at h, Bool.true_eq_false, if_false, c, ship_at h]
theorem d_keeps (h : rs[s]? = some r) (n : Nat) : Does rs s (.keeps s n) (r, mKeeps r n) := by
  unfold mKeeps
  by_cases c : 200 < n
  · rw [if_pos c]
    refine d_look h (a := Kv334.say (-22)) ?_ rfl
    simp only [Kv334.Abs.does, has_at h, Bool.true_eq_false, if_false, c, if_true]
  · rw [if_neg c]
    refine d_look h (a := Kv334.say (r.x.keeps n : Nat)) ?_ rfl
    simp only [Kv334.Abs.does, has_at h, Bool.true_eq_false, if_false, c, ship_at h]
theorem d_lost (h : rs[s]? = some r) (n : Nat) : Does rs s (.lost s n) (r, mLost r n) := by
  unfold mLost
  by_cases c : n = 0 ∨ 200 < n
  · rw [if_pos c]
    refine d_look h (a := Kv334.say (-22)) ?_ rfl
    simp only [Kv334.Abs.does, has_at h, Bool.true_eq_false, if_false, c, if_true]
  · rw [if_neg c]
    refine d_look h (a := ⟨((r.x.after n).gone * 1000 / (n * r.x.flow * r.x.solid) : Nat), [(r.x.after n).gone]⟩) ?_ rfl
    simp only [Kv334.Abs.does, has_at h, Bool.true_eq_false, if_false, c, ship_at h]
theorem d_wet (h : rs[s]? = some r) : Does rs s (.wet s) (r, mWet r) := by
  unfold mWet
  by_cases c : r.l.filled = 0
  · rw [if_pos c]
    refine d_look h (a := Kv334.say (-6)) ?_ rfl
    simp only [Kv334.Abs.does, has_at h, Bool.true_eq_false, if_false, load_at h, c, if_true]
  · rw [if_neg c]
    refine d_look h (a := Kv334.say (r.l.water * 1000 / (r.l.sand + r.l.water) : Nat)) ?_ rfl
    simp only [Kv334.Abs.does, has_at h, Bool.true_eq_false, if_false, load_at h, c]
theorem d_draft (h : rs[s]? = some r) (t : List Nat) : Does rs s (.draft s t) (r, mDraft r t) := by
  unfold mDraft
  by_cases c : Kv334.okTable t = false
  · rw [if_pos c]
    refine d_look h (a := Kv334.say (-22)) ?_ rfl
    simp only [Kv334.Abs.does, has_at h, Bool.true_eq_false, if_false, c, if_true]
  · rw [if_neg c]
    cases c2 : Kv334.draft (Kv334.pairs t) (r.x.empty + r.l.weight / 100) with
    | none =>
      refine d_look h (a := Kv334.say (-33)) ?_ rfl
      simp only [Kv334.Abs.does, has_at h, Bool.true_eq_false, if_false, load_at h, ship_at h, c, c2]
    | some d =>
      refine d_look h (a := Kv334.say (d : Nat)) ?_ rfl
      simp only [Kv334.Abs.does, has_at h, Bool.true_eq_false, if_false, load_at h, ship_at h, c, c2]
theorem d_reaches (h : rs[s]? = some r) (n : Nat) : Does rs s (.reaches s n) (r, mReaches r n) := by
  unfold mReaches
  by_cases c : 10000 < n
  · rw [if_pos c]
    refine d_look h (a := Kv334.say (-22)) ?_ rfl
    simp only [Kv334.Abs.does, has_at h, Bool.true_eq_false, if_false, c, if_true]
  · rw [if_neg c]
    cases c2 : (List.range r.x.loads.length).find? fun m => decide (n * 100 ≤ (r.x.loads.getD m none_).sand) with
    | none =>
      refine d_look h (a := Kv334.say (-33)) ?_ rfl
      simp only [Kv334.Abs.does, has_at h, Bool.true_eq_false, if_false, ship_at h, c, c2]
    | some m =>
      refine d_look h (a := Kv334.say (m : Nat)) ?_ rfl
      simp only [Kv334.Abs.does, has_at h, Bool.true_eq_false, if_false, ship_at h, c, c2]
theorem d_lookc (h : rs[s]? = some r) : Does rs s (.look s) (r, mLook r) := by
  refine d_look h (a := ⟨(r.x.room : Nat), [r.x.empty, r.x.most, r.x.flow, r.x.solid, r.x.loss]⟩) ?_ rfl
  simp only [Kv334.Abs.does, has_at h, Bool.true_eq_false, if_false, ship_at h]
end
end Hop

namespace Hop
open Kv334 (Load Ship none_ Abs Ans)
open Kv334Neutral (row callOf step nat nats)
def numOf (c : List (List Int)) : Nat := ((c.headD []).headD 0).toNat
def natsOf (c : List (List Int)) : List Nat := (((c.headD []).drop 1) ++ (c.drop 1).flatten).map Int.toNat
/-- one call, the program's way and the specification's -/
def Is (b : Bool) (rs : List R) (c : List (List Int)) (o : (Bool × List R) × List Int) : Prop := step (stOf b rs) c = (stOf o.1.1 o.1.2, o.2)
section
variable {b : Bool} {rs : List R} {c : List (List Int)}
theorem is_none {cc : Kv334.Call} (hc : callOf c = some cc) (hn : Kv334.act none cc = (none, Kv334.say (-11))) : Is false rs c ((false, rs), [-11]) := by
  unfold Is step
  rw [hc]
  show ((Kv334.act none cc).1, row (Kv334.act none cc).2) = _
  rw [hn]
  rfl
theorem step_some {cc : Kv334.Call} (hc : callOf c = some cc) (ha : ∀ a, Kv334.act (some a) cc = (some (a.does cc).1, (a.does cc).2)) : step (stOf true rs) c = (some ((absOf rs).does cc).1, row ((absOf rs).does cc).2) := by
  unfold step
  rw [hc]
  show ((Kv334.act (some (absOf rs)) cc).1, row (Kv334.act (some (absOf rs)) cc).2) = _
  rw [ha]
/-- a call on a ship -/
theorem is_ship {cc : Kv334.Call} {k s : Nat} {ns : List Nat} (hc : callOf c = some cc) (hn : Kv334.act none cc = (none, Kv334.say (-11))) (ha : ∀ a, Kv334.act (some a) cc = (some (a.does cc).1, (a.does cc).2)) (hk : k ≠ 0) (hb : bare k = false)
    (hs : ∀ a : Abs, a.has s = false → a.does cc = (a, Kv334.say (-2))) (hd : ∀ r, rs[s]? = some r → Does rs s cc (mS k r ns)) : Is b rs c (mCall b rs k (s :: ns)) := by
  unfold mCall
  cases b with
  | false =>
    rw [if_pos ⟨hk, rfl⟩]
    exact is_none hc hn
  | true =>
    rw [if_neg (fun z => Bool.noConfusion z.2), if_neg (by rw [hb]; exact Bool.false_ne_true)]
    show Is true rs c (if rs.length ≤ s then ((true, rs), [-2]) else ((true, rs.set s (mS k (rs.getD s default) ns).1), (mS k (rs.getD s default) ns).2))
    unfold Is
    rw [step_some hc ha]
    by_cases h : rs.length ≤ s
    · rw [if_pos h, hs _ (has_not h)]
      rfl
    · rw [if_neg h]
      have hr : rs[s]? = some (rs.getD s default) := by
        rw [List.getD_eq_getElem?_getD, List.getElem?_eq_getElem (by omega)]
        rfl
      obtain ⟨d1, d2⟩ := hd _ hr
      rw [d2, d1]
      rfl
/-- a call on the object -/
theorem is_bare {cc : Kv334.Call} {k : Nat} {ns : List Nat} (hc : callOf c = some cc) (hn : k ≠ 0 → Kv334.act none cc = (none, Kv334.say (-11))) (ha : ∀ a, Kv334.act (some a) cc = (some (a.does cc).1, (a.does cc).2)) (hb : bare k = true) (h0 : k = 0 → ∀ b, Is b rs c mBegin)
    (hd : k ≠ 0 → (mN k true rs ns).1.1 = true ∧ (absOf rs).does cc = (absOf (mN k true rs ns).1.2, ((absOf rs).does cc).2) ∧ row ((absOf rs).does cc).2 = (mN k true rs ns).2) : Is b rs c (mCall b rs k ns) := by
  unfold mCall
  by_cases hk : k = 0
  · rw [if_neg (fun z => z.1 hk), if_pos hb]
    have e : mN k b rs ns = mBegin := by
      unfold mN
      rw [if_pos hk]
    rw [e]
    exact h0 hk b
  · cases b with
    | false =>
      rw [if_pos ⟨hk, rfl⟩]
      exact is_none hc (hn hk)
    | true =>
      rw [if_neg (fun z => Bool.noConfusion z.2), if_pos hb]
      unfold Is
      rw [step_some hc ha]
      obtain ⟨e0, e1, e2⟩ := hd hk
      rw [e2, e1, e0]
      rfl
theorem ship_does (rs : List R) (r e m f s l : Nat) : (mShip true rs r e m f s l).1.1 = true ∧ (absOf rs).does (.ship r e m f s l) = (absOf (mShip true rs r e m f s l).1.2, ((absOf rs).does (.ship r e m f s l)).2) ∧ row ((absOf rs).does (.ship r e m f s l)).2 = (mShip true rs r e m f s l).2 := by
  unfold mShip
  simp only [Kv334.Abs.does]
  have hl : (absOf rs).ships.length = rs.length := List.length_map _
  rw [hl]
  by_cases c1 : r = 0 ∨ 10000 < r ∨ e = 0 ∨ 20000 < e ∨ m = 0 ∨ 20000 < m ∨ f = 0 ∨ 200 < f ∨ s = 0 ∨ 60 < s ∨ 10 < l
  · rw [if_pos c1, if_pos c1]
    exact ⟨rfl, rfl, rfl⟩
  · rw [if_neg c1, if_neg c1]
    by_cases c2 : 4 ≤ rs.length
    · rw [if_pos c2, if_pos c2]
      exact ⟨rfl, rfl, rfl⟩
    · rw [if_neg c2, if_neg c2]
      refine ⟨rfl, ?_, rfl⟩
      unfold absOf
      simp only [List.map_append, List.map_cons, List.map_nil]
theorem fullest_lt (rs : List R) {s : Nat} (h : (absOf rs).fullest = some s) : s < rs.length := by
  have key : ∀ (f : Option Nat → Nat → Option Nat), (∀ b n, f b n = some n ∨ (f b n = b ∧ b ≠ none)) → ∀ (l : List Nat) (b : Option Nat) (s : Nat), l.foldl f b = some s → s ∈ l ∨ b = some s := by
    intro f hf l
    induction l with
    | nil => intro b s h; exact .inr h
    | cons a r ih =>
      intro b s h
      rcases ih _ _ h with z | z
      · exact .inl (List.mem_cons_of_mem _ z)
      · rcases hf b a with y | ⟨y, _⟩
        · rw [y] at z
          cases z
          exact .inl (List.mem_cons_self ..)
        · rw [y] at z
          exact .inr z
  have hl : (absOf rs).ships.length = rs.length := List.length_map _
  unfold Kv334.Abs.fullest at h
  rcases key _ (fun b n => by
    cases b with
    | none => exact .inl rfl
    | some t =>
      dsimp only
      split
      · exact .inl rfl
      · exact .inr ⟨rfl, nofun⟩) _ _ _ h with z | z
  · rw [List.mem_range, hl] at z
    exact z
  · cases z
theorem fullest_does (rs : List R) : (absOf rs).does .fullest = (absOf rs, ((absOf rs).does .fullest).2) ∧ row ((absOf rs).does .fullest).2 = mFullest rs := by
  unfold mFullest
  simp only [Kv334.Abs.does]
  cases e : (absOf rs).fullest with
  | none => exact ⟨rfl, rfl⟩
  | some s =>
    have hlt := fullest_lt rs e
    have hr : rs[s]? = some (rs.getD s default) := by
      rw [List.getD_eq_getElem?_getD, List.getElem?_eq_getElem hlt]
      rfl
    refine ⟨rfl, ?_⟩
    simp only [load_at hr, ship_at hr]
    rfl
theorem state_list : ∀ rs : List R, Kv334Neutral.ints (((rs.map (·.t)).zip (rs.map (·.c))).flatMap fun x => [x.1, x.2]) = rs.flatMap fun r => [(r.t : Int), (r.c : Int)]
  | [] => rfl
  | r :: rest => by
    have ih := state_list rest
    simp only [List.map_cons, List.zip_cons_cons, List.flatMap_cons]
    unfold Kv334Neutral.ints at ih ⊢
    rw [List.map_append, ih]
    rfl
theorem ite_some {α : Type} {P : Prop} [Decidable P] {a b : Option α} {z : α} (h : (if P then a else b) = some z) : (P ∧ a = some z) ∨ b = some z := by
  by_cases c : P
  · rw [if_pos c] at h
    exact .inl ⟨c, h⟩
  · rw [if_neg c] at h
    exact .inr h
theorem shape_cases {p : Int} {n k : Nat} (h : PyKv334.shape p = some (n, k)) : ∃ j : Nat, p = (j : Int) ∧ (n, k) = [(0, 0), (6, 0), (2, 0), (1, 0), (2, 0), (3, 0), (1, 0), (1, 0), (2, 0), (1, 0), (1, 0), (2, 0), (3, 0), (3, 0), (2, 0), (2, 0), (1, 0), (1, 1), (0, 0), (2, 0), (1, 0), (0, 0), (0, 0)].getD j (9, 9) ∧ j < 23 := by
  unfold PyKv334.shape at h
  iterate 23
    rcases ite_some h with ⟨e, h⟩ | h
    · subst e
      exact ⟨_, (Int.toNat_of_nonneg (by decide)).symm, (Option.some.inj h).symm, by decide⟩
  cases h
end
end Hop

namespace Hop
open Kv334 (Load Ship none_ Abs Ans)
open Kv334Neutral (row callOf step nat nats)
section
variable {b : Bool} {rs : List R}
theorem ln0 {α : Type} {l : List α} (h : l.length = 0) : l = [] := List.eq_nil_of_length_eq_zero h
theorem ln1 {α : Type} {l : List α} (h : l.length = 1) : ∃ a, l = [a] := match l, h with | [a], _ => ⟨a, rfl⟩
theorem ln2 {α : Type} {l : List α} (h : l.length = 2) : ∃ a b, l = [a, b] := match l, h with | [a, b], _ => ⟨a, b, rfl⟩
theorem ln3 {α : Type} {l : List α} (h : l.length = 3) : ∃ a b c, l = [a, b, c] := match l, h with | [a, b, c], _ => ⟨a, b, c, rfl⟩
theorem ln6 {α : Type} {l : List α} (h : l.length = 6) : ∃ a b c d e f, l = [a, b, c, d, e, f] := match l, h with | [a, b, c, d, e, f], _ => ⟨a, b, c, d, e, f, rfl⟩
theorem is_0 : Is b rs [[0]] (mCall b rs 0 []) := is_bare (cc := .begin_) (k := 0) (ns := []) rfl (fun z => absurd rfl z) (fun _ => rfl) rfl (fun _ b => by cases b <;> rfl) (fun z => absurd rfl z)
theorem is_1 (x0 x1 x2 x3 x4 x5 : Int) : Is b rs [[1, x0, x1, x2, x3, x4, x5]] (mCall b rs 1 [nat x0, nat x1, nat x2, nat x3, nat x4, nat x5]) := is_bare (cc := .ship (nat x0) (nat x1) (nat x2) (nat x3) (nat x4) (nat x5)) (k := 1) rfl (fun _ => rfl) (fun _ => rfl) rfl (fun z => absurd z (by decide)) (fun _ => ship_does rs _ _ _ _ _ _)
theorem is_2 (x0 x1 : Int) : Is b rs [[2, x0, x1]] (mCall b rs 2 (nat x0 :: [nat x1])) := is_ship (cc := .fill (nat x0) (nat x1)) (k := 2) (s := nat x0) (ns := [nat x1]) rfl rfl (fun _ => rfl) (by decide) rfl (fun a h => by simp only [Kv334.Abs.does, h, if_true]) (fun r hr => d_fill hr _)
theorem is_3 (x0 : Int) : Is b rs [[3, x0]] (mCall b rs 3 (nat x0 :: [])) := is_ship (cc := .dump (nat x0)) (k := 3) (s := nat x0) (ns := []) rfl rfl (fun _ => rfl) (by decide) rfl (fun a h => by simp only [Kv334.Abs.does, h, if_true]) (fun r hr => d_dump hr )
theorem is_4 (x0 x1 : Int) : Is b rs [[4, x0, x1]] (mCall b rs 4 (nat x0 :: [nat x1])) := is_ship (cc := .pour (nat x0) (nat x1)) (k := 4) (s := nat x0) (ns := [nat x1]) rfl rfl (fun _ => rfl) (by decide) rfl (fun a h => by simp only [Kv334.Abs.does, h, if_true]) (fun r hr => d_pour hr _)
theorem is_5 (x0 x1 x2 : Int) : Is b rs [[5, x0, x1, x2]] (mCall b rs 5 (nat x0 :: [nat x1, nat x2])) := is_ship (cc := .change (nat x0) (nat x1) (nat x2)) (k := 5) (s := nat x0) (ns := [nat x1, nat x2]) rfl rfl (fun _ => rfl) (by decide) rfl (fun a h => by simp only [Kv334.Abs.does, h, if_true]) (fun r hr => d_change hr _ _)
theorem is_6 (x0 : Int) : Is b rs [[6, x0]] (mCall b rs 6 (nat x0 :: [])) := is_ship (cc := .load (nat x0)) (k := 6) (s := nat x0) (ns := []) rfl rfl (fun _ => rfl) (by decide) rfl (fun a h => by simp only [Kv334.Abs.does, h, if_true]) (fun r hr => d_load hr )
theorem is_7 (x0 : Int) : Is b rs [[7, x0]] (mCall b rs 7 (nat x0 :: [])) := is_ship (cc := .weight (nat x0)) (k := 7) (s := nat x0) (ns := []) rfl rfl (fun _ => rfl) (by decide) rfl (fun a h => by simp only [Kv334.Abs.does, h, if_true]) (fun r hr => d_weight hr )
theorem is_8 (x0 x1 : Int) : Is b rs [[8, x0, x1]] (mCall b rs 8 (nat x0 :: [nat x1])) := is_ship (cc := .after (nat x0) (nat x1)) (k := 8) (s := nat x0) (ns := [nat x1]) rfl rfl (fun _ => rfl) (by decide) rfl (fun a h => by simp only [Kv334.Abs.does, h, if_true]) (fun r hr => d_after hr _)
theorem is_9 (x0 : Int) : Is b rs [[9, x0]] (mCall b rs 9 (nat x0 :: [])) := is_ship (cc := .full (nat x0)) (k := 9) (s := nat x0) (ns := []) rfl rfl (fun _ => rfl) (by decide) rfl (fun a h => by simp only [Kv334.Abs.does, h, if_true]) (fun r hr => d_full hr )
theorem is_10 (x0 : Int) : Is b rs [[10, x0]] (mCall b rs 10 (nat x0 :: [])) := is_ship (cc := .longest (nat x0)) (k := 10) (s := nat x0) (ns := []) rfl rfl (fun _ => rfl) (by decide) rfl (fun a h => by simp only [Kv334.Abs.does, h, if_true]) (fun r hr => d_longest hr )
theorem is_11 (x0 x1 : Int) : Is b rs [[11, x0, x1]] (mCall b rs 11 (nat x0 :: [nat x1])) := is_ship (cc := .best (nat x0) (nat x1)) (k := 11) (s := nat x0) (ns := [nat x1]) rfl rfl (fun _ => rfl) (by decide) rfl (fun a h => by simp only [Kv334.Abs.does, h, if_true]) (fun r hr => d_best hr _)
theorem is_12 (x0 x1 x2 : Int) : Is b rs [[12, x0, x1, x2]] (mCall b rs 12 (nat x0 :: [nat x1, nat x2])) := is_ship (cc := .rate (nat x0) (nat x1) (nat x2)) (k := 12) (s := nat x0) (ns := [nat x1, nat x2]) rfl rfl (fun _ => rfl) (by decide) rfl (fun a h => by simp only [Kv334.Abs.does, h, if_true]) (fun r hr => d_rate hr _ _)
theorem is_13 (x0 x1 x2 : Int) : Is b rs [[13, x0, x1, x2]] (mCall b rs 13 (nat x0 :: [nat x1, nat x2])) := is_ship (cc := .trips (nat x0) (nat x1) (nat x2)) (k := 13) (s := nat x0) (ns := [nat x1, nat x2]) rfl rfl (fun _ => rfl) (by decide) rfl (fun a h => by simp only [Kv334.Abs.does, h, if_true]) (fun r hr => d_trips hr _ _)
theorem is_14 (x0 x1 : Int) : Is b rs [[14, x0, x1]] (mCall b rs 14 (nat x0 :: [nat x1])) := is_ship (cc := .keeps (nat x0) (nat x1)) (k := 14) (s := nat x0) (ns := [nat x1]) rfl rfl (fun _ => rfl) (by decide) rfl (fun a h => by simp only [Kv334.Abs.does, h, if_true]) (fun r hr => d_keeps hr _)
theorem is_15 (x0 x1 : Int) : Is b rs [[15, x0, x1]] (mCall b rs 15 (nat x0 :: [nat x1])) := is_ship (cc := .lost (nat x0) (nat x1)) (k := 15) (s := nat x0) (ns := [nat x1]) rfl rfl (fun _ => rfl) (by decide) rfl (fun a h => by simp only [Kv334.Abs.does, h, if_true]) (fun r hr => d_lost hr _)
theorem is_16 (x0 : Int) : Is b rs [[16, x0]] (mCall b rs 16 (nat x0 :: [])) := is_ship (cc := .wet (nat x0)) (k := 16) (s := nat x0) (ns := []) rfl rfl (fun _ => rfl) (by decide) rfl (fun a h => by simp only [Kv334.Abs.does, h, if_true]) (fun r hr => d_wet hr )
theorem is_17 (x0 : Int) (t : List Int) : Is b rs [[17, x0], t] (mCall b rs 17 (nat x0 :: nats t)) := is_ship (cc := .draft (nat x0) (nats t)) (k := 17) (s := nat x0) (ns := nats t) rfl rfl (fun _ => rfl) (by decide) rfl (fun a h => by simp only [Kv334.Abs.does, h, if_true]) (fun r hr => d_draft hr (nats t))
theorem is_18 : Is b rs [[18]] (mCall b rs 18 []) := is_bare (cc := .fullest) (k := 18) rfl (fun _ => rfl) (fun _ => rfl) rfl (fun z => absurd z (by decide)) (fun _ => ⟨rfl, fullest_does rs⟩)
theorem is_19 (x0 x1 : Int) : Is b rs [[19, x0, x1]] (mCall b rs 19 (nat x0 :: [nat x1])) := is_ship (cc := .reaches (nat x0) (nat x1)) (k := 19) (s := nat x0) (ns := [nat x1]) rfl rfl (fun _ => rfl) (by decide) rfl (fun a h => by simp only [Kv334.Abs.does, h, if_true]) (fun r hr => d_reaches hr _)
theorem is_20 (x0 : Int) : Is b rs [[20, x0]] (mCall b rs 20 (nat x0 :: [])) := is_ship (cc := .look (nat x0)) (k := 20) (s := nat x0) (ns := []) rfl rfl (fun _ => rfl) (by decide) rfl (fun a h => by simp only [Kv334.Abs.does, h, if_true]) (fun r hr => d_lookc hr )
theorem is_21 : Is b rs [[21]] (mCall b rs 21 []) := is_bare (cc := .sums) (k := 21) rfl (fun _ => rfl) (fun _ => rfl) rfl (fun z => absurd z (by decide)) (fun _ => ⟨rfl, rfl, by show [(0 : Int), ((rs.map (·.t)).sum : Nat), ((rs.map (·.c)).sum : Nat), (((rs.map (·.l)).map Load.sand).sum : Nat)] = mSums rs; rw [List.map_map]; rfl⟩)
theorem is_22 : Is b rs [[22]] (mCall b rs 22 []) := is_bare (cc := .state) (k := 22) rfl (fun _ => rfl) (fun _ => rfl) rfl (fun z => absurd z (by decide)) (fun _ => ⟨rfl, rfl, by show (((rs.map (·.x)).length : Nat) : Int) :: Kv334Neutral.ints (((rs.map (·.t)).zip (rs.map (·.c))).flatMap fun x => [x.1, x.2]) = mState rs; rw [state_list, List.length_map]; rfl⟩)
theorem call_is {c : List (List Int)} (h : PyFlat.okCall PyKv334.shape c) : Is b rs c (mCall b rs (numOf c) (natsOf c)) := by
  obtain ⟨p, a, xs, rfl, hs⟩ := h
  obtain ⟨j, rfl, e, hj⟩ := shape_cases hs
  have e1 := congrArg Prod.fst e
  have e2 := congrArg Prod.snd e
  clear e hs
  match j, hj, e1, e2 with
  | 0, _, e1, e2 =>
    obtain rfl := ln0 e1
    obtain rfl := ln0 e2
    exact is_0 
  | 1, _, e1, e2 =>
    obtain ⟨x0, x1, x2, x3, x4, x5, rfl⟩ := ln6 e1
    obtain rfl := ln0 e2
    exact is_1 x0 x1 x2 x3 x4 x5
  | 2, _, e1, e2 =>
    obtain ⟨x0, x1, rfl⟩ := ln2 e1
    obtain rfl := ln0 e2
    exact is_2 x0 x1
  | 3, _, e1, e2 =>
    obtain ⟨x0, rfl⟩ := ln1 e1
    obtain rfl := ln0 e2
    exact is_3 x0
  | 4, _, e1, e2 =>
    obtain ⟨x0, x1, rfl⟩ := ln2 e1
    obtain rfl := ln0 e2
    exact is_4 x0 x1
  | 5, _, e1, e2 =>
    obtain ⟨x0, x1, x2, rfl⟩ := ln3 e1
    obtain rfl := ln0 e2
    exact is_5 x0 x1 x2
  | 6, _, e1, e2 =>
    obtain ⟨x0, rfl⟩ := ln1 e1
    obtain rfl := ln0 e2
    exact is_6 x0
  | 7, _, e1, e2 =>
    obtain ⟨x0, rfl⟩ := ln1 e1
    obtain rfl := ln0 e2
    exact is_7 x0
  | 8, _, e1, e2 =>
    obtain ⟨x0, x1, rfl⟩ := ln2 e1
    obtain rfl := ln0 e2
    exact is_8 x0 x1
  | 9, _, e1, e2 =>
    obtain ⟨x0, rfl⟩ := ln1 e1
    obtain rfl := ln0 e2
    exact is_9 x0
  | 10, _, e1, e2 =>
    obtain ⟨x0, rfl⟩ := ln1 e1
    obtain rfl := ln0 e2
    exact is_10 x0
  | 11, _, e1, e2 =>
    obtain ⟨x0, x1, rfl⟩ := ln2 e1
    obtain rfl := ln0 e2
    exact is_11 x0 x1
  | 12, _, e1, e2 =>
    obtain ⟨x0, x1, x2, rfl⟩ := ln3 e1
    obtain rfl := ln0 e2
    exact is_12 x0 x1 x2
  | 13, _, e1, e2 =>
    obtain ⟨x0, x1, x2, rfl⟩ := ln3 e1
    obtain rfl := ln0 e2
    exact is_13 x0 x1 x2
  | 14, _, e1, e2 =>
    obtain ⟨x0, x1, rfl⟩ := ln2 e1
    obtain rfl := ln0 e2
    exact is_14 x0 x1
  | 15, _, e1, e2 =>
    obtain ⟨x0, x1, rfl⟩ := ln2 e1
    obtain rfl := ln0 e2
    exact is_15 x0 x1
  | 16, _, e1, e2 =>
    obtain ⟨x0, rfl⟩ := ln1 e1
    obtain rfl := ln0 e2
    exact is_16 x0
  | 17, _, e1, e2 =>
    obtain ⟨x0, rfl⟩ := ln1 e1
    obtain ⟨t, rfl⟩ := ln1 e2
    have q : natsOf [[17, x0], t] = nat x0 :: nats t := by show ([x0] ++ (t ++ [])).map Int.toNat = _; rw [List.append_nil]; rfl
    show Is b rs [[17, x0], t] (mCall b rs 17 (natsOf [[17, x0], t]))
    rw [q]
    exact is_17 x0 t
  | 18, _, e1, e2 =>
    obtain rfl := ln0 e1
    obtain rfl := ln0 e2
    exact is_18 
  | 19, _, e1, e2 =>
    obtain ⟨x0, x1, rfl⟩ := ln2 e1
    obtain rfl := ln0 e2
    exact is_19 x0 x1
  | 20, _, e1, e2 =>
    obtain ⟨x0, rfl⟩ := ln1 e1
    obtain rfl := ln0 e2
    exact is_20 x0
  | 21, _, e1, e2 =>
    obtain rfl := ln0 e1
    obtain rfl := ln0 e2
    exact is_21 
  | 22, _, e1, e2 =>
    obtain rfl := ln0 e1
    obtain rfl := ln0 e2
    exact is_22 
  | n + 23, hj, _, _ => exact absurd hj (by omega)
end
end Hop

namespace Hop
open Kv334 (Load Ship none_ Abs Ans)
def Goods (rs : List R) : Prop := ∀ (i : Nat) (r : R), rs[i]? = some r → GoodR r
theorem good_fill {r : R} (g : GoodR r) (n : Nat) : GoodR (mFill r n).1 := by
  unfold mFill
  split
  · exact g
  · split
    · exact g
    · exact ⟨g.gs, minutes_good g.gs n g.gl⟩
theorem good_dump {r : R} (g : GoodR r) : GoodR (mDump r).1 := by
  unfold mDump
  split
  · exact g
  · exact ⟨g.gs, none_good _⟩
theorem good_pour {r : R} (g : GoodR r) (n : Nat) : GoodR (mPour r n).1 := by
  unfold mPour
  split
  · exact g
  · split
    · exact g
    · rename_i c1 c2
      refine ⟨g.gs, ?_, ?_, g.gl.some1⟩
      · have := g.gl.room
        show r.l.sand + (r.l.water - n * 100) ≤ r.x.room * 100
        omega
      · intro z
        have e := g.gl.fresh z
        rw [e] at c2
        exact absurd (show 0 < n * 100 by omega) c2
theorem good_change {r : R} (g : GoodR r) (f p : Nat) : GoodR (mChange r f p).1 := by
  unfold mChange
  split
  · exact g
  · split
    · exact g
    · rename_i c1 c2
      have e := g.gl.fresh (by omega)
      have s := g.gs
      refine ⟨⟨s.room1, s.room2, s.empty1, s.empty2, s.most1, s.most2, ?_, ?_, ?_, ?_, s.loss2⟩, ?_⟩
      · show 1 ≤ f; omega
      · show f ≤ 200; omega
      · show 1 ≤ p; omega
      · show p ≤ 60; omega
      · show GoodLoad _ r.l
        rw [e]
        exact none_good _
theorem ite_good {c : Prop} [Decidable c] {a b : R × List Int} (h1 : GoodR a.1) (h2 : GoodR b.1) : GoodR (if c then a else b).1 := by
  by_cases h : c
  · rw [if_pos h]
    exact h1
  · rw [if_neg h]
    exact h2
theorem good_mS {r : R} (g : GoodR r) (k : Nat) (ns : List Nat) : GoodR (mS k r ns).1 := by
  unfold mS
  refine ite_good (good_fill g _) (ite_good (good_dump g) (ite_good (good_pour g _) (ite_good (good_change g _ _) ?_)))
  iterate 13 refine ite_good g ?_
  exact g
theorem goods_set {rs : List R} (g : Goods rs) {s : Nat} {r : R} (h : GoodR r) : Goods (rs.set s r) := by
  intro i r' e
  rw [List.getElem?_set] at e
  split at e
  · split at e
    · cases e
      exact h
    · cases e
  · exact g i r' e
theorem good_ship {b : Bool} {rs : List R} (g : Goods rs) (r e m f s l : Nat) : Goods (mShip b rs r e m f s l).1.2 ∧ (rs.length ≤ 4 → (mShip b rs r e m f s l).1.2.length ≤ 4) := by
  unfold mShip
  split
  · exact ⟨g, id⟩
  · split
    · exact ⟨g, id⟩
    · rename_i c1 c2
      refine ⟨?_, fun _ => ?_⟩
      · intro i r' e'
        by_cases hi : i < rs.length
        · rw [List.getElem?_append_left hi] at e'
          exact g i r' e'
        · rw [List.getElem?_append_right (by omega)] at e'
          have z : i - rs.length = 0 := by
            cases q : i - rs.length with
            | zero => rfl
            | succ n => rw [q] at e'; simp at e'
          rw [z] at e'
          cases e'
          exact ⟨⟨by show 1 ≤ r; omega, by show r ≤ 10000; omega, by show 1 ≤ e; omega, by show e ≤ 20000; omega, by show 1 ≤ m; omega, by show m ≤ 20000; omega, by show 1 ≤ f; omega, by show f ≤ 200; omega, by show 1 ≤ s; omega, by show s ≤ 60; omega, by show l ≤ 10; omega⟩, none_good _⟩
      · rw [List.length_append]
        show rs.length + 1 ≤ 4
        omega
theorem good_call {b : Bool} {rs : List R} (g : Goods rs) (h4 : rs.length ≤ 4) (k : Nat) (ns : List Nat) : Goods (mCall b rs k ns).1.2 ∧ (mCall b rs k ns).1.2.length ≤ 4 := by
  unfold mCall
  split
  · exact ⟨g, h4⟩
  · split
    · unfold mN
      split
      · exact ⟨fun i r e => (by simp [mBegin] at e), Nat.zero_le _⟩
      split
      · have := good_ship (b := b) g (ns.getD 0 0) (ns.getD 1 0) (ns.getD 2 0) (ns.getD 3 0) (ns.getD 4 0) (ns.getD 5 0)
        exact ⟨this.1, this.2 h4⟩
      split
      · exact ⟨g, h4⟩
      split
      · exact ⟨g, h4⟩
      exact ⟨g, h4⟩
    · split
      · exact ⟨g, h4⟩
      · rename_i c
        refine ⟨goods_set g (good_mS ?_ _ _), by rw [List.length_set]; exact h4⟩
        refine g (ns.getD 0 0) _ ?_
        rw [List.getD_eq_getElem?_getD (l := rs), List.getElem?_eq_getElem (by omega)]
        rfl
/-! ### a whole list of calls -/
def mPlay (b : Bool) (rs : List R) : List (List (List Int)) → List (List Int)
  | [] => []
  | c :: r => (mCall b rs (numOf c) (natsOf c)).2 :: mPlay (mCall b rs (numOf c) (natsOf c)).1.1 (mCall b rs (numOf c) (natsOf c)).1.2 r
theorem play_is : ∀ (cs : List (List (List Int))) (b : Bool) (rs : List R), (∀ c ∈ cs, PyFlat.okCall PyKv334.shape c) → PyFlat.played Kv334Neutral.step (stOf b rs) cs = mPlay b rs cs
  | [], _, _, _ => rfl
  | c :: r, b, rs, h => by
    have e := call_is (b := b) (rs := rs) (h c (List.mem_cons_self ..))
    unfold Is at e
    show (Kv334Neutral.step (stOf b rs) c).2 :: PyFlat.played Kv334Neutral.step (Kv334Neutral.step (stOf b rs) c).1 r = _
    rw [e]
    exact congrArg _ (play_is r _ _ fun d hd => h d (List.mem_cons_of_mem _ hd))
theorem whole_id (c : List (List Int)) : PyKv334.whole c = c := by
  unfold PyKv334.whole
  split <;> rfl
theorem answers_is {l : List Int} {cs : List (List (List Int))} (h : PyFlat.calls PyKv334.shape l.length l = some cs) : PyKv334.answers l = PyFlat.told (mPlay false [] cs) ∧ l = PyFlat.put cs ∧ ∀ c ∈ cs, PyFlat.okCall PyKv334.shape c := by
  have hp := PyFlat.put_calls _ _ _ h
  refine ⟨?_, hp⟩
  unfold PyKv334.answers PyKv334.calls
  rw [h]
  show PyFlat.told (PyFlat.played Kv334Neutral.step (stOf false []) (cs.map PyKv334.whole)) = _
  have e : cs.map PyKv334.whole = cs := by
    rw [show PyKv334.whole = id from funext whole_id, List.map_id]
  rw [e, play_is cs false [] hp.2]
theorem asked_calls {l : List Int} (h : PyKv334.answers_asked l = true) : ∃ cs, PyFlat.calls PyKv334.shape l.length l = some cs ∧ cs.length ≤ 256 ∧ (PyKv334.answers l).length ≤ 10000000 := by
  unfold PyKv334.answers_asked at h
  cases e : PyFlat.calls PyKv334.shape l.length l with
  | none => rw [e] at h; cases h
  | some cs =>
    rw [e] at h
    simp only [Bool.and_eq_true, PyFlat.atMost, PyFlat.short, decide_eq_true_eq] at h
    exact ⟨cs, rfl, h.1.1.1.2, h.2⟩
theorem told_cons (a : List Int) (r : List (List Int)) : PyFlat.told (a :: r) = (a.length : Int) :: (a ++ PyFlat.told r) := rfl
end Hop

/-! ### what stage 2 asks besides: sand that came, tables -/
namespace Hop
open Kv334 (Load Ship none_ Abs Ans pairs rises okTable draft)
theorem minute_came (x : Ship) (l : Load) : (x.minute l).sand + (x.minute l).gone = l.sand + l.gone + x.flow * x.solid := by
  by_cases h : l.sand + l.water + x.flow * x.solid + x.flow * (100 - x.solid) ≤ x.room * 100
  · rw [minute_fit h]
    show l.sand + x.flow * x.solid + l.gone = _
    omega
  · have := stays_came x l
    rw [minute_over h]
    show l.sand + stays x l + (l.gone + (x.flow * x.solid - stays x l)) = _
    omega
theorem minutes_came (x : Ship) : ∀ (n : Nat) (l : Load), (x.minutes n l).sand + (x.minutes n l).gone = l.sand + l.gone + n * (x.flow * x.solid)
  | 0, l => by
    show l.sand + l.gone = _
    omega
  | n + 1, l => by
    show (x.minutes n (x.minute l)).sand + (x.minutes n (x.minute l)).gone = _
    rw [minutes_came x n, minute_came, Nat.succ_mul]
    omega
theorem after_came (x : Ship) (n : Nat) : (x.after n).sand + (x.after n).gone = n * x.flow * x.solid := by
  have h := minutes_came x n none_
  show (x.minutes n none_).sand + (x.minutes n none_).gone = _
  rw [h, Nat.mul_assoc]
  show 0 + 0 + _ = _
  omega
/-- the weights rise, the depths never fall, from pair i to the next -/
def Up (t : List Nat) (i : Nat) : Prop := t.getD (2 * i) 0 < t.getD (2 * i + 2) 0 ∧ t.getD (2 * i + 1) 0 ≤ t.getD (2 * i + 3) 0
theorem rises_iff : ∀ (t : List Nat), t.length % 2 = 0 → (rises (pairs t) = true ↔ ∀ i, 2 * i + 3 < t.length → Up t i)
  | [], _ => ⟨fun _ i h => by simp at h, fun _ => rfl⟩
  | [_], h => by simp at h
  | [_, _], _ => ⟨fun _ i h => by simp at h; omega, fun _ => rfl⟩
  | [_, _, _], h => by simp at h
  | w :: d :: v :: e :: l, h => by
    have ih := rises_iff (v :: e :: l) (by simp only [List.length_cons] at h ⊢; omega)
    show (decide (w < v) && (decide (d ≤ e) && rises (pairs (v :: e :: l)))) = true ↔ _
    rw [Bool.and_eq_true, Bool.and_eq_true, decide_eq_true_eq, decide_eq_true_eq, ih]
    constructor
    · rintro ⟨h1, h2, h3⟩ i hi
      cases i with
      | zero => exact ⟨h1, h2⟩
      | succ i =>
        have q := h3 i (by simp only [List.length_cons] at hi ⊢; omega)
        exact q
    · intro h1
      have h0 := h1 0 (by simp only [List.length_cons]; omega)
      refine ⟨h0.1, h0.2, fun i hi => ?_⟩
      have q := h1 (i + 1) (by simp only [List.length_cons] at hi ⊢; omega)
      exact q
theorem draft_some : ∀ (t : List Nat) (i x : Nat), 2 * i + 3 < t.length → (∀ j, j < i → t.getD (2 * j + 2) 0 < x) → t.getD (2 * i) 0 ≤ x → x ≤ t.getD (2 * i + 2) 0 →
    draft (pairs t) x = some (t.getD (2 * i + 1) 0 + (t.getD (2 * i + 3) 0 - t.getD (2 * i + 1) 0) * (x - t.getD (2 * i) 0) / (t.getD (2 * i + 2) 0 - t.getD (2 * i) 0))
  | w :: d :: v :: e :: l, 0, x, _, _, h1, h2 => by
    show (if w ≤ x ∧ x ≤ v then some (d + (e - d) * (x - w) / (v - w)) else draft (pairs (v :: e :: l)) x) = _
    rw [if_pos ⟨h1, h2⟩]
    rfl
  | w :: d :: v :: e :: l, i + 1, x, hl, hb, h1, h2 => by
    show (if w ≤ x ∧ x ≤ v then some (d + (e - d) * (x - w) / (v - w)) else draft (pairs (v :: e :: l)) x) = _
    have h0 : v < x := hb 0 (Nat.succ_pos _)
    rw [if_neg (fun z => by omega)]
    exact draft_some (v :: e :: l) i x (by simp only [List.length_cons] at hl ⊢; omega) (fun j hj => hb (j + 1) (by omega)) h1 h2
  | [], _, _, hl, _, _, _ => by simp at hl
  | [_], _, _, hl, _, _, _ => by simp at hl
  | [_, _], _, _, hl, _, _, _ => by simp at hl; omega
  | [_, _, _], _, _, hl, _, _, _ => by simp at hl; omega
theorem draft_none : ∀ (t : List Nat) (x : Nat), (∀ i, 2 * i + 3 < t.length → ¬ (t.getD (2 * i) 0 ≤ x ∧ x ≤ t.getD (2 * i + 2) 0)) → draft (pairs t) x = none
  | w :: d :: v :: e :: l, x, h => by
    show (if w ≤ x ∧ x ≤ v then some (d + (e - d) * (x - w) / (v - w)) else draft (pairs (v :: e :: l)) x) = _
    have h0 : ¬ (w ≤ x ∧ x ≤ v) := h 0 (by simp only [List.length_cons]; omega)
    rw [if_neg h0]
    exact draft_none (v :: e :: l) x fun i hi => h (i + 1) (by simp only [List.length_cons] at hi ⊢; omega)
  | [], _, _ => rfl
  | [_], _, _ => rfl
  | [_, _], _, _ => rfl
  | [_, _, _], _, _ => rfl
/-- a table as it is told -/
structure Table (t : List Nat) : Prop where
  even : t.length % 2 = 0
  four : 4 ≤ t.length
  most : t.length ≤ 20
  up : ∀ i, 2 * i + 3 < t.length → Up t i
  small : ∀ x ∈ t, x ≤ 60000
theorem table_iff (t : List Nat) : okTable t = true ↔ Table t := by
  unfold okTable
  simp only [Bool.and_eq_true, beq_iff_eq, decide_eq_true_eq, List.all_eq_true]
  constructor
  · rintro ⟨h1, h2, h3, h4, h5⟩
    exact ⟨h1, h2, h3, (rises_iff t h1).mp h4, h5⟩
  · rintro ⟨h1, h2, h3, h4, h5⟩
    exact ⟨h1, h2, h3, (rises_iff t h1).mpr h4, h5⟩
theorem Table.rise {t : List Nat} (h : Table t) : ∀ (i : Nat), 2 * i + 1 < t.length → t.getD 0 0 ≤ t.getD (2 * i) 0
  | 0, _ => Nat.le_refl _
  | i + 1, hi => by
    have ih := h.rise i (by omega)
    have := (h.up i (by omega)).1
    have e : t.getD (2 * (i + 1)) 0 = t.getD (2 * i + 2) 0 := rfl
    omega
theorem Table.fall {t : List Nat} (h : Table t) : ∀ (k i : Nat), 2 * (i + k) + 2 = t.length → t.getD (2 * i) 0 ≤ t.getD (t.length - 2) 0
  | 0, i, e => by
    have : t.length - 2 = 2 * i := by omega
    rw [this]
    exact Nat.le_refl _
  | k + 1, i, e => by
    have ih := h.fall k (i + 1) (by omega)
    have := (h.up i (by omega)).1
    have e : t.getD (2 * (i + 1)) 0 = t.getD (2 * i + 2) 0 := rfl
    omega
theorem Table.outside {t : List Nat} (h : Table t) {x : Nat} (hx : ¬ (t.getD 0 0 ≤ x ∧ x ≤ t.getD (t.length - 2) 0)) : draft (pairs t) x = none := by
  refine draft_none t x fun i hi z => hx ⟨Nat.le_trans (h.rise i (by omega)) z.1, Nat.le_trans z.2 ?_⟩
  have he := h.even
  exact h.fall (t.length / 2 - 1 - (i + 1)) (i + 1) (by omega)
theorem Table.at_le {t : List Nat} (h : Table t) (i : Nat) : t.getD i 0 ≤ 60000 := by
  rw [List.getD_eq_getElem?_getD]
  cases e : t[i]? with
  | none => exact Nat.zero_le _
  | some y => exact h.small y (List.mem_of_getElem? e)
theorem ix_getD {t : List Nat} {i : Nat} (h : i < t.length) : t[i]? = some (t.getD i 0) := by
  rw [List.getD_eq_getElem?_getD, List.getElem?_eq_getElem h]
  rfl
end Hop

namespace Hop
open PySem PySem.Spec PyProof.Rows L2
open Kv334 (Load Ship)
def top (i : Nat) : Stmt := PySem.Challenge.pw_hopperfill_s01_answers.main.body.getD i (.Pass ⟨0, 0, 0, 0⟩)
/-! ### rules in short -/
/-- a def of the module's top, by its name -/
def Def (P : Program) (w : World) (K : PySem.W.Frag) (mg : Str → Option Value) (base : Heap) (k : Nat) (x : Str) (sp : Sp) : Prop :=
  ∃ (f : Addr) (fd : FuncData) (ps : List Str), mg x = some (.ref f) ∧ PySem.W.keepIn K (.ref f) = true ∧ Binds K fd ps [] ∧ FnOk P w K mg base CX0 k f fd ps sp
/-- the call of a def, with no defaults and no exception -/
def tC1 (sp : Sp) (t : TA) : TE := fun σ H Q => t σ H fun vs H1 => sp vs H1 Q E0
/-- a class of the module's top, made by its name: the promise of the making -/
def Made (C : Addr) (si : Sp) (vs : List V) (H : Hp) (Q : VK) (E : XK) : Prop := ∀ x dx, H x = none → H dx = none → dx ≠ x → si (.ref x :: vs) (upd (upd H dx (.own x)) x (.ins C dx [])) (fun v H2 => v = .non ∧ Q (.ref x) H2) E
def Cl (P : Program) (w : World) (K : PySem.W.Frag) (mg : Str → Option Value) (base : Heap) (k : Nat) (x : Str) (sp : Sp) : Prop :=
  ∃ (C f : Addr) (fd : FuncData) (ps : List Str) (si : Sp), mg x = some (.ref C) ∧ Mk K C f ∧ Binds K fd ps [] ∧ FnOk P w K mg base CX0 k f fd ps si ∧ ∀ vs H Q E, sp vs H Q E → Made C si vs H Q E
/-- one of several defs: the promise goes with the address -/
def Held (P : Program) (w : World) (K : PySem.W.Frag) (mg : Str → Option Value) (base : Heap) (k : Nat) (f : Addr) (sp : Sp) : Prop :=
  ∃ (fd : FuncData) (ps : List Str), PySem.W.keepIn K (.ref f) = true ∧ Binds K fd ps [] ∧ FnOk P w K mg base CX0 k f fd ps sp
def tCX (S : Addr → Sp → Prop) (tf : TE) (t : TA) : TE := fun σ H Q => tf σ H fun y H1 => ∃ f sp, y = .ref f ∧ S f sp ∧ t σ H1 fun vs H2 => sp vs H2 Q E0
section
variable {X : Cx} {k : Nat} {x : Str} {sp : Sp} {p pos : Pos} {e fe : Expr} {es : List Expr} {t : TA} {tf : TE}
theorem call_def (D : Def X.prog X.w X.K X.mg X.base k x sp) (hr : Room k X.A) (hg : Gl X x) (ha : PA X (e :: es) t) (hnb : (x == ("__debug__" : Str)) = false := by decide)
    (hst : starEach (e :: es) X.env = (false, eval e X.env) :: starEach es X.env := by rfl) (hpx : (backTo pos (starEach es X.env)).any (·.1) = false := by rfl) :
    PE X (.Call (.Name x p) (e :: es) [] pos) (tC1 sp t) := by
  obtain ⟨f, fd, ps, hm, hk, hb, F⟩ := D
  have h := pe_call (p := p) (pos := pos) F hr hg hm hk hb .nil pass0 ha hnb hst hpx
  have e0 : tCall sp [] E0 t = tC1 sp t := by
    funext σ H Q
    show t σ H (fun vs H1 => sp (vs ++ []) H1 Q E0) = t σ H fun vs H1 => sp vs H1 Q E0
    simp only [List.append_nil]
  rw [e0] at h
  exact h
theorem call_def0 (D : Def X.prog X.w X.K X.mg X.base k x sp) (hr : Room k X.A) (hg : Gl X x) (hnb : (x == ("__debug__" : Str)) = false := by decide) :
    PE X (.Call (.Name x p) [] [] pos) (tC1 sp tNil) := by
  obtain ⟨f, fd, ps, hm, hk, hb, F⟩ := D
  exact pe_call0 (p := p) (pos := pos) F hr hg hm hk hb .nil pass0 hnb
theorem make_cl (D : Cl X.prog X.w X.K X.mg X.base k x sp) (hr : Room (k + 1) X.A) (hg : Gl X x) (ha : PA X (e :: es) t) (hnb : (x == ("__debug__" : Str)) = false := by decide)
    (hst : starEach (e :: es) X.env = (false, eval e X.env) :: starEach es X.env := by rfl) (hpx : (backTo pos (starEach es X.env)).any (·.1) = false := by rfl) :
    PE X (.Call (.Name x p) (e :: es) [] pos) (tC1 sp t) := by
  obtain ⟨C, f, fd, ps, si, hm, M, hb, F, im⟩ := D
  refine ⟨fun pn s0 sg H0 Q I h => ?_⟩
  refine wpAny_Call_Name_kw (ld_glob I hg hm ?_ hnb)
  refine PySem.W.callWith_K (h₀ := X.base) I.ok.mod.kin M.kp (thn (ha.run pos pn s0 sg H0 _ I h) fun us s1 ⟨vs, H1, I1, r, q⟩ => ⟨I1.kIn, ?_⟩) hst hpx
  refine run_make (ds := []) (dvs := []) M F hr hb .nil pass0 I1 r fun a da na nda ne => ?_
  have m := im _ _ _ _ q a da na nda ne
  rw [List.append_nil]
  exact m
theorem make_cl0 (D : Cl X.prog X.w X.K X.mg X.base k x sp) (hr : Room (k + 1) X.A) (hg : Gl X x) (hnb : (x == ("__debug__" : Str)) = false := by decide) :
    PE X (.Call (.Name x p) [] [] pos) (tC1 sp tNil) := by
  obtain ⟨C, f, fd, ps, si, hm, M, hb, F, im⟩ := D
  refine ⟨fun pn s0 sg H0 Q I h => ?_⟩
  refine wpAny_Call_Name_kw (ld_glob I hg hm ?_ hnb)
  exact PySem.W.callWith_K0 I.kIn M.kp (run_make (us := []) (ds := []) (dvs := []) M F hr hb .nil pass0 I .nil fun a da na nda ne => im _ _ _ _ h a da na nda ne)
theorem call_any {S : Addr → Sp → Prop} (hS : ∀ f sp, S f sp → Held X.prog X.w X.K X.mg X.base k f sp) (hr : Room k X.A) (hf : PE X fe tf) (ha : PA X (e :: es) t)
    (hev : eval (.Call fe (e :: es) [] pos) X.env = (do callWith pos (← eval fe X.env) [] (backTo pos (starEach (e :: es) X.env)) (backToKw pos (keywordEach [] X.env))) := by rfl)
    (hst : starEach (e :: es) X.env = (false, eval e X.env) :: starEach es X.env := by rfl) (hpx : (backTo pos (starEach es X.env)).any (·.1) = false := by rfl) :
    PE X (.Call fe (e :: es) [] pos) (tCX S tf t) := by
  refine ⟨fun pn s0 sg H0 Q I h => ?_⟩
  refine Call_ (thn (hf.run pn s0 sg H0 _ I h) fun u s1 ⟨y, H1, I1, ry, f, sp, ey, hs, q⟩ => ?_) hev
  subst ey
  obtain rfl : u = Value.ref f := ry
  obtain ⟨fd, ps, hk, hb, F⟩ := hS f sp hs
  refine PySem.W.callWith_K (h₀ := X.base) I1.ok.mod.kin hk (thn (ha.run pos pn s1 sg H1 _ I1 q) fun us s2 ⟨vs, H2, I2, r, q2⟩ => ⟨I2.kIn, ?_⟩) hst hpx
  refine run_fn (ds := []) (dvs := []) F hr hb .nil pass0 I2 r ?_
  rw [List.append_nil]
  exact q2
/-- a number of the module's top -/
def GInt (mg : Str → Option Value) (x : Str) (i : Int) : Prop := ∃ u, mg x = some u ∧ RelV (.int i) u
def GRef (mg : Str → Option Value) (x : Str) (a : Addr) : Prop := mg x = some (.ref a)
theorem gint {i : Int} (h : GInt X.mg x i) (hg : Gl X x) (hd : (x == ("__debug__" : Str)) = false := by decide) : PE X (.Name x pos) (tC (.int i)) := by
  obtain ⟨u, hm, r⟩ := h
  exact pe_glob hg hm r hd
theorem gref {a : Addr} (h : GRef X.mg x a) (hg : Gl X x) (hd : (x == ("__debug__" : Str)) = false := by decide) : PE X (.Name x pos) (tC (.ref a)) := pe_glob hg h rfl hd
end
/-! ### small words -/
theorem if_true_of {c : Bool} {A B : Prop} (hc : c = true) (h : A) : if c = true then A else B := by
  rw [if_pos hc]
  exact h
theorem if_false_of {c : Bool} {A B : Prop} (hc : c = false) (h : B) : if c = true then A else B := by
  rw [hc, if_neg Bool.false_ne_true]
  exact h
/-- a test, both ways -/
theorem if_both {c : Bool} {A B : Prop} (h : c = true → A) (h' : c = false → B) : if c = true then A else B := by
  cases c with
  | true => exact h rfl
  | false => exact h' rfl
theorem qi {Q : VK} {H : Hp} {a b : Int} (h : Q (.int b) H) (e : a = b) : Q (.int a) H := e ▸ h
theorem lk_here {k : Str} {v : V} {r : List (Str × V)} : List.lookup k ((k, v) :: r) = some v := by
  have e : (k == k) = true := beq_self_eq_true k
  simp only [List.lookup, e]
theorem lk_past {k g : Str} {v : V} {r : List (Str × V)} (h : (k == g) = false) : List.lookup k ((g, v) :: r) = List.lookup k r := by
  simp only [List.lookup, h]
theorem put_here {f : Str} {v x : V} {r : List (Str × V)} : putF f v ((f, x) :: r) = (f, v) :: r := if_pos rfl
theorem put_past {f g : Str} {v x : V} {r : List (Str × V)} (h : ¬ g = f) : putF f v ((g, x) :: r) = (g, x) :: putF f v r := if_neg h
/-! ### the heap: loads, ships -/
def lF (l : Load) : List (Str × V) := [("minutes", .int l.filled), ("sand", .int l.sand), ("water", .int l.water), ("overflow", .int l.over), ("gone", .int l.gone)]
def sF (x : Ship) (la : Addr) (t c : Nat) : List (Str × V) := [("room", .int x.room), ("empty", .int x.empty), ("most", .int x.most), ("flow", .int x.flow), ("solid", .int x.solid), ("loss", .int x.loss), ("load", .ref la), ("trips", .int t), ("carried", .int c)]
def LoadAt (C : Addr) (H : Hp) (a : Addr) (l : Load) : Prop := ∃ dx, H a = some (.ins C dx (lF l))
def ShipAt (CS : Addr) (H : Hp) (a : Addr) (x : Ship) (la : Addr) (t c : Nat) : Prop := ∃ dx, H a = some (.ins CS dx (sF x la t c))
theorem LoadAt.same {C : Addr} {H H' : Hp} {a : Addr} {l : Load} (h : LoadAt C H a l) (s : Same H H') : LoadAt C H' a l := by
  obtain ⟨dx, e⟩ := h
  exact ⟨dx, s _ _ e⟩
theorem ShipAt.same {C : Addr} {H H' : Hp} {a la : Addr} {x : Ship} {t c : Nat} (h : ShipAt C H a x la t c) (s : Same H H') : ShipAt C H' a x la t c := by
  obtain ⟨dx, e⟩ := h
  exact ⟨dx, s _ _ e⟩
/-- what the top has written of the classes -/
structure Cls2 (K : PySem.W.Frag) (CL CS : Addr) : Prop where
  cl : Cls K CL
  cs : Cls K CS
  l1 : NoAttr K CL "minutes"
  l2 : NoAttr K CL "sand"
  l3 : NoAttr K CL "water"
  l4 : NoAttr K CL "overflow"
  l5 : NoAttr K CL "gone"
  s1 : NoAttr K CS "room"
  s2 : NoAttr K CS "empty"
  s3 : NoAttr K CS "most"
  s4 : NoAttr K CS "flow"
  s5 : NoAttr K CS "solid"
  s6 : NoAttr K CS "loss"
  s7 : NoAttr K CS "load"
  s8 : NoAttr K CS "trips"
  s9 : NoAttr K CS "carried"
/-- what e.f asks behind e -/
def Fld (K : PySem.W.Frag) (a : Addr) (f : Str) (H : Hp) (Q : V → Prop) : Prop := ∃ a' C dx fs v, V.ref a = .ref a' ∧ H a' = some (.ins C dx fs) ∧ Cls K C ∧ NoAttr K C f ∧ fs.lookup f = some v ∧ Q v
section
variable {K : PySem.W.Frag} {CL CS : Addr} {H : Hp} {a la : Addr} {l : Load} {x : Ship} {t c : Nat} {Q : V → Prop}
theorem f_minutes (T : Cls2 K CL CS) (h : LoadAt CL H a l) (q : Q (.int l.filled)) : Fld K a "minutes" H Q := by
  obtain ⟨dx, e⟩ := h
  exact ⟨a, CL, dx, _, _, rfl, e, T.cl, T.l1, lk_here, q⟩
theorem f_sand (T : Cls2 K CL CS) (h : LoadAt CL H a l) (q : Q (.int l.sand)) : Fld K a "sand" H Q := by
  obtain ⟨dx, e⟩ := h
  exact ⟨a, CL, dx, _, _, rfl, e, T.cl, T.l2, (lk_past (by decide +kernel)).trans lk_here, q⟩
theorem f_water (T : Cls2 K CL CS) (h : LoadAt CL H a l) (q : Q (.int l.water)) : Fld K a "water" H Q := by
  obtain ⟨dx, e⟩ := h
  exact ⟨a, CL, dx, _, _, rfl, e, T.cl, T.l3, (lk_past (by decide +kernel)).trans ((lk_past (by decide +kernel)).trans lk_here), q⟩
theorem f_overflow (T : Cls2 K CL CS) (h : LoadAt CL H a l) (q : Q (.int l.over)) : Fld K a "overflow" H Q := by
  obtain ⟨dx, e⟩ := h
  exact ⟨a, CL, dx, _, _, rfl, e, T.cl, T.l4, (lk_past (by decide +kernel)).trans ((lk_past (by decide +kernel)).trans ((lk_past (by decide +kernel)).trans lk_here)), q⟩
theorem f_gone (T : Cls2 K CL CS) (h : LoadAt CL H a l) (q : Q (.int l.gone)) : Fld K a "gone" H Q := by
  obtain ⟨dx, e⟩ := h
  exact ⟨a, CL, dx, _, _, rfl, e, T.cl, T.l5, by simp only [lF]; (repeat (first | exact lk_here | rw [lk_past (by decide +kernel)])), q⟩
theorem f_room (T : Cls2 K CL CS) (h : ShipAt CS H a x la t c) (q : Q (.int x.room)) : Fld K a "room" H Q := by
  obtain ⟨dx, e⟩ := h
  exact ⟨a, CS, dx, _, _, rfl, e, T.cs, T.s1, lk_here, q⟩
theorem f_empty (T : Cls2 K CL CS) (h : ShipAt CS H a x la t c) (q : Q (.int x.empty)) : Fld K a "empty" H Q := by
  obtain ⟨dx, e⟩ := h
  exact ⟨a, CS, dx, _, _, rfl, e, T.cs, T.s2, by simp only [sF]; (repeat (first | exact lk_here | rw [lk_past (by decide +kernel)])), q⟩
theorem f_most (T : Cls2 K CL CS) (h : ShipAt CS H a x la t c) (q : Q (.int x.most)) : Fld K a "most" H Q := by
  obtain ⟨dx, e⟩ := h
  exact ⟨a, CS, dx, _, _, rfl, e, T.cs, T.s3, by simp only [sF]; (repeat (first | exact lk_here | rw [lk_past (by decide +kernel)])), q⟩
theorem f_flow (T : Cls2 K CL CS) (h : ShipAt CS H a x la t c) (q : Q (.int x.flow)) : Fld K a "flow" H Q := by
  obtain ⟨dx, e⟩ := h
  exact ⟨a, CS, dx, _, _, rfl, e, T.cs, T.s4, by simp only [sF]; (repeat (first | exact lk_here | rw [lk_past (by decide +kernel)])), q⟩
theorem f_solid (T : Cls2 K CL CS) (h : ShipAt CS H a x la t c) (q : Q (.int x.solid)) : Fld K a "solid" H Q := by
  obtain ⟨dx, e⟩ := h
  exact ⟨a, CS, dx, _, _, rfl, e, T.cs, T.s5, by simp only [sF]; (repeat (first | exact lk_here | rw [lk_past (by decide +kernel)])), q⟩
theorem f_loss (T : Cls2 K CL CS) (h : ShipAt CS H a x la t c) (q : Q (.int x.loss)) : Fld K a "loss" H Q := by
  obtain ⟨dx, e⟩ := h
  exact ⟨a, CS, dx, _, _, rfl, e, T.cs, T.s6, by simp only [sF]; (repeat (first | exact lk_here | rw [lk_past (by decide +kernel)])), q⟩
theorem f_load (T : Cls2 K CL CS) (h : ShipAt CS H a x la t c) (q : Q (.ref la)) : Fld K a "load" H Q := by
  obtain ⟨dx, e⟩ := h
  exact ⟨a, CS, dx, _, _, rfl, e, T.cs, T.s7, by simp only [sF]; (repeat (first | exact lk_here | rw [lk_past (by decide +kernel)])), q⟩
theorem f_trips (T : Cls2 K CL CS) (h : ShipAt CS H a x la t c) (q : Q (.int t)) : Fld K a "trips" H Q := by
  obtain ⟨dx, e⟩ := h
  exact ⟨a, CS, dx, _, _, rfl, e, T.cs, T.s8, by simp only [sF]; (repeat (first | exact lk_here | rw [lk_past (by decide +kernel)])), q⟩
theorem f_carried (T : Cls2 K CL CS) (h : ShipAt CS H a x la t c) (q : Q (.int c)) : Fld K a "carried" H Q := by
  obtain ⟨dx, e⟩ := h
  exact ⟨a, CS, dx, _, _, rfl, e, T.cs, T.s9, by simp only [sF]; (repeat (first | exact lk_here | rw [lk_past (by decide +kernel)])), q⟩
end
end Hop

/-! ### zip of a list and a tuple -/
namespace Hop
open PySem PySem.Spec PyProof.Rows L2
open PySem.Sem (wp)
/-- a list's or a tuple's iterator and what it walks -/
def ItS (h : Heap) (it l : Addr) (k : Nat) (vs : Array Value) : Prop := (h.IsListIter it l k ∧ h.IsList l vs) ∨ (h.IsTupleIter it l k ∧ h.IsTuple l vs)
theorem ItS.ext {h h' : Heap} {it l z : Addr} {k : Nat} {vs : Array Value} (i : ItS h it l k vs) (e : Heap.ExtBut z h h') (n1 : it ≠ z) (n2 : l ≠ z) : ItS h' it l k vs := by
  rcases i with ⟨a, b⟩ | ⟨a, b⟩
  · exact .inl ⟨a.extBut e n1, b.extBut e n2⟩
  · exact .inr ⟨a.extBut e n1, b.extBut e n2⟩
theorem ItS.lt {h : Heap} {it l : Addr} {k : Nat} {vs : Array Value} (i : ItS h it l k vs) : it < h.objs.size := by
  rcases i with ⟨⟨_, e, _⟩, _⟩ | ⟨⟨_, e, _⟩, _⟩ <;> exact Heap.lt_size e
section
variable {pr : Program} {w : World} {A : Around} {E : Value → Shared → Prop} {s : Shared}
theorem its_item {it l : Addr} {k : Nat} {vs : Array Value} {x : Value} {Q : Value → Shared → Prop} (i : ItS s.heap it l k vs) (ne : l ≠ it) (hx1 : vs[k]? = some x)
    (q : ∀ g, ItS g it l (k + 1) vs → Heap.SameBut it s.heap g → Q x { s with heap := g }) : wpAny (model pr w) A (Builtin.SmallTypes.nextOf (.ref it)) Q E s := by
  rcases i with ⟨a, b⟩ | ⟨a, b⟩
  · exact wpAny_nextOf_list_item a b hx1 fun g a' sb => q g (.inl ⟨a', b.extBut sb.extBut ne⟩) sb
  · exact RZ.nextOf_tuple_item a b hx1 fun g a' sb => q g (.inr ⟨a', b.extBut sb.extBut ne⟩) sb
theorem its_end {it l : Addr} {k : Nat} {vs : Array Value} {Q : Value → Shared → Prop} (hh : A.handled = none) (i : ItS s.heap it l k vs) (hx1 : vs[k]? = none)
    (q : ∀ g e, Heap.ExtBut it s.heap g → (∃ o, g.get? e = some o ∧ o.cls = .type "StopIteration") → E (.ref e) { s with heap := g }) : wpAny (model pr w) A (Builtin.SmallTypes.nextOf (.ref it)) Q E s := by
  rcases i with ⟨a, b⟩ | ⟨a, b⟩
  · exact wpAny_nextOf_list_end hh a b hx1 q
  · exact RZ.nextOf_tuple_end hh a b hx1 q
theorem zipS_item {zp ti tt i1 i2 la lb : Addr} {k1 k2 : Nat} {us vs : Array Value} {x y a b : Value} {Q : Value → Shared → Prop} (D : ZipApart zp ti tt i1 i2 la lb)
    (az : IsZip s.heap zp ti tt .none) (ai : IsPair s.heap ti (.ref i1) (.ref i2)) (at_ : IsPair s.heap tt a b) (w1 : ItS s.heap i1 la k1 us) (w2 : ItS s.heap i2 lb k2 vs) (hx1 : us[k1]? = some x) (hy1 : vs[k2]? = some y)
    (q : ∀ g, IsZip g zp ti tt (rawInt s.heap.objs.size) → IsPair g tt x y → ItS g i1 la (k1 + 1) us → ItS g i2 lb (k2 + 1) vs → IsPair g s.heap.objs.size x y → g.objs.size = s.heap.objs.size + 1 →
      (∀ c o, c ≠ zp → c ≠ tt → c ≠ i1 → c ≠ i2 → s.heap.get? c = some o → g.get? c = some o) → Q (.ref s.heap.objs.size) { s with heap := g }) :
    wpAny (model pr w) A (Builtin.«zip.__next__» ⟨[.ref zp], []⟩) (fun fin s' => ∃ v, fin = .done (.ret v) ∧ Q v s') E s := by
  show wpAny _ _ (field (.ref zp) 2 >>= _) _ _ _
  refine wpAny_bind (wpAny_field az rfl (x := .bool false) rfl ?_)
  show wpAny _ _ (field (.ref zp) 3 >>= _) _ _ _
  refine wpAny_bind (wpAny_field az rfl (x := .ref ti) rfl ?_)
  refine wpAny_bind (wpAny_seqItems ai rfl ?_)
  show wpAny _ _ (Builtin.SmallTypes.ownedTupleIsFree (.ref zp) >>= _) _ _ _
  refine wpAny_bind ?_; unfold Builtin.SmallTypes.ownedTupleIsFree
  refine wpAny_bind (wpAny_field az rfl (x := .none) rfl (wpAny_pure ?_)); simp only [if_true]
  refine wpAny_bind (wpAny_rule ?_); refine wpAny_bind (wpAny_field az rfl (x := .ref tt) rfl ?_)
  refine wpAny_bind (wpAny_setField_rec az (by simp) fun g1 az1 sb1 => ?_)
  replace az1 : IsZip g1 zp ti tt .ellipsis := az1
  refine wpAny_bind ?_; simp only [List.zipIdx_cons, List.zipIdx_nil, List.forIn_cons, List.forIn_nil]
  refine wpAny_bind (wpAny_bind (wpAny_onRaise ?_)); show wpAny _ _ (Builtin.SmallTypes.nextOf (.ref i1) >>= _) _ _ _
  refine wpAny_bind (its_item (w1.ext sb1.extBut D.i1z D.l1z) D.l1i1 hx1 fun g2 w12 sb2 => wpAny_pure ?_)
  have at2 : IsPair g2 tt a b := sb2.extBut _ _ D.TOi1 (sb1.extBut _ _ D.TOz at_)
  refine wpAny_bind (wpAny_seqItems at2 rfl ?_)
  refine wpAny_bind (wpAny_updateSeq_pair at2 fun g3 at3 sb3 => ?_)
  replace at3 : IsPair g3 tt x b := at3
  refine wpAny_bind (wpAny_letGo (wpAny_pure ?_)); refine wpAny_bind (wpAny_bind (wpAny_onRaise ?_)); show wpAny _ _ (Builtin.SmallTypes.nextOf (.ref i2) >>= _) _ _ _
  refine wpAny_bind (its_item (((w2.ext sb1.extBut D.i2z D.l2z).ext sb2.extBut D.i12.symm D.l2i1).ext sb3.extBut D.TOi2.symm D.l2TO) D.l2i2 hy1 fun g4 w24 sb4 => wpAny_pure ?_)
  have at4 : IsPair g4 tt x b := sb4.extBut _ _ D.TOi2 at3
  refine wpAny_bind (wpAny_seqItems at4 rfl ?_)
  refine wpAny_bind (wpAny_updateSeq_pair at4 fun g5 at5 sb5 => ?_)
  replace at5 : IsPair g5 tt x y := at5
  refine wpAny_bind (wpAny_letGo (wpAny_pure (wpAny_pure ?_))); refine wpAny_bind (wpAny_seqItems at5 rfl ?_)
  refine wpAny_bind (wpAny_newTuple ?_); have sz : g5.objs.size = s.heap.objs.size := by rw [sb5.1, sb4.1, sb3.1, sb2.1, sb1.1]
  have az5 : IsZip g5 zp ti tt .ellipsis := sb5.extBut _ _ D.TOz.symm (sb4.extBut _ _ D.i2z.symm (sb3.extBut _ _ D.TOz.symm (sb2.extBut _ _ D.i1z.symm az1)))
  have kp5 : ∀ c o, c ≠ zp → c ≠ tt → c ≠ i1 → c ≠ i2 → s.heap.get? c = some o → g5.get? c = some o := fun c o c1 c2 c3 c4 e =>
    sb5.extBut _ _ c2 (sb4.extBut _ _ c4 (sb3.extBut _ _ c2 (sb2.extBut _ _ c3 (sb1.extBut _ _ c1 e))))
  have w15 : ItS g5 i1 la (k1 + 1) us := ((w12.ext sb3.extBut D.TOi1.symm D.l1TO).ext sb4.extBut D.i12 D.l1i2).ext sb5.extBut D.TOi1.symm D.l1TO
  have w25 : ItS g5 i2 lb (k2 + 1) vs := w24.ext sb5.extBut D.TOi2.symm D.l2TO
  have zlt : zp < g5.objs.size := Heap.lt_size az5
  show wpAny _ _ (Builtin.SmallTypes.ownedTupleHandOut (.ref zp) (.ref g5.objs.size) >>= _) _ _ _
  refine wpAny_bind ?_; unfold Builtin.SmallTypes.ownedTupleHandOut
  have az6 : IsZip (g5.push { cls := .type "tuple", data := .seq #[x, y] }) zp ti tt .ellipsis := Heap.get?_push_of_some _ az5
  refine wpAny_bind (wpAny_setField_rec az6 (by simp) fun g7 az7 sb7 => ?_)
  replace az7 : IsZip g7 zp ti tt (rawInt g5.objs.size) := az7
  refine wpAny_setField_rec az7 (by simp) fun g8 az8 sb8 => ?_
  replace az8 : IsZip g8 zp ti tt (rawInt g5.objs.size) := az8
  have up : ∀ c o, c ≠ zp → g5.get? c = some o → g8.get? c = some o := fun c o c1 e => sb8.extBut _ _ c1 (sb7.extBut _ _ c1 (Heap.get?_push_of_some _ e))
  have np8 : IsPair g8 g5.objs.size x y := sb8.extBut _ _ (Nat.ne_of_gt zlt) (sb7.extBut _ _ (Nat.ne_of_gt zlt) (Heap.get?_push_size _ rfl))
  have sz8 : g8.objs.size = g5.objs.size + 1 := by rw [sb8.1, sb7.1, Heap.size_push]
  rw [sz] at az8 np8 sz8
  refine wpAny_pure ⟨_, rfl, ?_⟩; show Q (.ref g5.objs.size) _
  rw [sz]
  have ex8 : Heap.ExtBut zp g5 g8 := fun c o c1 e => up c o c1 e
  exact q g8 az8 (up _ _ D.TOz at5) (w15.ext ex8 D.i1z D.l1z) (w25.ext ex8 D.i2z D.l2z) np8 sz8 fun c o c1 c2 c3 c4 e => up c o c1 (kp5 c o c1 c2 c3 c4 e)
theorem zipS_end {zp ti tt i1 i2 la lb : Addr} {k1 k2 : Nat} {us vs : Array Value} {a b : Value} {Q : Fin → Shared → Prop} (hh : A.handled = none) (D : ZipApart zp ti tt i1 i2 la lb)
    (az : IsZip s.heap zp ti tt .none) (ai : IsPair s.heap ti (.ref i1) (.ref i2)) (at_ : IsPair s.heap tt a b) (w1 : ItS s.heap i1 la k1 us) (w2 : ItS s.heap i2 lb k2 vs) (hend : us[k1]? = none ∨ vs[k2]? = none)
    (q : ∀ g e, (∀ c o, c ≠ zp → c ≠ tt → c ≠ i1 → c ≠ i2 → s.heap.get? c = some o → g.get? c = some o) → (∃ o, g.get? e = some o ∧ o.cls = .type "StopIteration") → E (.ref e) { s with heap := g }) :
    wpAny (model pr w) A (Builtin.«zip.__next__» ⟨[.ref zp], []⟩) Q E s := by
  show wpAny _ _ (field (.ref zp) 2 >>= _) _ _ _
  refine wpAny_bind (wpAny_field az rfl (x := .bool false) rfl ?_)
  show wpAny _ _ (field (.ref zp) 3 >>= _) _ _ _
  refine wpAny_bind (wpAny_field az rfl (x := .ref ti) rfl ?_)
  refine wpAny_bind (wpAny_seqItems ai rfl ?_)
  show wpAny _ _ (Builtin.SmallTypes.ownedTupleIsFree (.ref zp) >>= _) _ _ _
  refine wpAny_bind ?_; unfold Builtin.SmallTypes.ownedTupleIsFree
  refine wpAny_bind (wpAny_field az rfl (x := .none) rfl (wpAny_pure ?_)); simp only [if_true]
  refine wpAny_bind (wpAny_rule ?_); refine wpAny_bind (wpAny_field az rfl (x := .ref tt) rfl ?_)
  refine wpAny_bind (wpAny_setField_rec az (by simp) fun g1 az1 sb1 => ?_)
  replace az1 : IsZip g1 zp ti tt .ellipsis := az1
  refine wpAny_bind ?_; simp only [List.zipIdx_cons, List.zipIdx_nil, List.forIn_cons, List.forIn_nil]
  refine wpAny_bind (wpAny_bind (wpAny_onRaise ?_)); show wpAny _ _ (Builtin.SmallTypes.nextOf (.ref i1) >>= _) _ _ _
  cases hx1 : us[k1]? with
  | none =>
    refine wpAny_bind (its_end hh (w1.ext sb1.extBut D.i1z D.l1z) hx1 fun g2 e sb2 he => ?_)
    obtain ⟨oe, hoe, hce⟩ := he
    have az2 : IsZip g2 zp ti tt .ellipsis := sb2 _ _ D.i1z.symm az1
    have nez : e ≠ zp := fun x => by subst x; rw [az2] at hoe; cases hoe; simp at hce
    refine wpAny_setField_rec az2 (by simp) fun g3 _ sb3 => q g3 e (fun c o c1 _ c3 _ x => sb3.extBut _ _ c1 (sb2 _ _ c3 (sb1.extBut _ _ c1 x))) ⟨oe, sb3.extBut _ _ nez hoe, hce⟩
  | some x =>
    have hy1 : vs[k2]? = none := by rcases hend with z | z; rw [hx1] at z; cases z; exact z
    refine wpAny_bind (its_item (w1.ext sb1.extBut D.i1z D.l1z) D.l1i1 hx1 fun g2 w12 sb2 => wpAny_pure ?_)
    have at2 : IsPair g2 tt a b := sb2.extBut _ _ D.TOi1 (sb1.extBut _ _ D.TOz at_)
    refine wpAny_bind (wpAny_seqItems at2 rfl ?_)
    refine wpAny_bind (wpAny_updateSeq_pair at2 fun g3 at3 sb3 => ?_)
    refine wpAny_bind (wpAny_letGo (wpAny_pure ?_)); refine wpAny_bind (wpAny_bind (wpAny_onRaise ?_)); show wpAny _ _ (Builtin.SmallTypes.nextOf (.ref i2) >>= _) _ _ _
    refine wpAny_bind (its_end hh (((w2.ext sb1.extBut D.i2z D.l2z).ext sb2.extBut D.i12.symm D.l2i1).ext sb3.extBut D.TOi2.symm D.l2TO) hy1 fun g4 e sb4 he => ?_)
    obtain ⟨oe, hoe, hce⟩ := he
    have az4 : IsZip g4 zp ti tt .ellipsis := sb4 _ _ D.i2z.symm (sb3.extBut _ _ D.TOz.symm (sb2.extBut _ _ D.i1z.symm az1))
    have nez : e ≠ zp := fun x => by subst x; rw [az4] at hoe; cases hoe; simp at hce
    refine wpAny_setField_rec az4 (by simp) fun g5 _ sb5 => q g5 e (fun c o c1 c2 c3 c4 x => sb5.extBut _ _ c1 (sb4 _ _ c4 (sb3.extBut _ _ c2 (sb2.extBut _ _ c3 (sb1.extBut _ _ c1 x))))) ⟨oe, sb5.extBut _ _ nez hoe, hce⟩
theorem nextS_item {zp ti tt i1 i2 la lb : Addr} {k1 k2 : Nat} {us vs : Array Value} {x y a b : Value} {Q : Option Value → Shared → Prop} (D : ZipApart zp ti tt i1 i2 la lb)
    (az : IsZip s.heap zp ti tt .none) (ai : IsPair s.heap ti (.ref i1) (.ref i2)) (at_ : IsPair s.heap tt a b) (w1 : ItS s.heap i1 la k1 us) (w2 : ItS s.heap i2 lb k2 vs) (hx1 : us[k1]? = some x) (hy1 : vs[k2]? = some y)
    (q : ∀ g, IsZip g zp ti tt (rawInt s.heap.objs.size) → IsPair g tt x y → ItS g i1 la (k1 + 1) us → ItS g i2 lb (k2 + 1) vs → IsPair g s.heap.objs.size x y → g.objs.size = s.heap.objs.size + 1 →
      (∀ c o, c ≠ zp → c ≠ tt → c ≠ i1 → c ≠ i2 → s.heap.get? c = some o → g.get? c = some o) → Q (some (.ref s.heap.objs.size)) { s with heap := g }) :
    wpAny (model pr w) A (pyNext (.ref zp)) Q E s := by
  have hT : s.TypeIs (.ref zp) "zip" := ⟨_, az, rfl⟩
  unfold pyNext
  exact wpAny_bind (wpAny_attempt (wpAny_callSpecial?_slot (name := Str.ofString "__next__") hT F.slot_zip_next (wpAny_call_entry F.slot_zip_next hT F.entry_zip_next
      (zipS_item D az ai at_ w1 w2 hx1 hy1 fun g a1 a2 a3 a4 a5 a6 a7 => wpAny_pure (q g a1 a2 a3 a4 a5 a6 a7)) (F.args_zip_next_1 _))))
theorem nextS_end {zp ti tt i1 i2 la lb : Addr} {k1 k2 : Nat} {us vs : Array Value} {a b : Value} {Q : Option Value → Shared → Prop} (hh : A.handled = none) (D : ZipApart zp ti tt i1 i2 la lb)
    (az : IsZip s.heap zp ti tt .none) (ai : IsPair s.heap ti (.ref i1) (.ref i2)) (at_ : IsPair s.heap tt a b) (w1 : ItS s.heap i1 la k1 us) (w2 : ItS s.heap i2 lb k2 vs) (hend : us[k1]? = none ∨ vs[k2]? = none)
    (q : ∀ g, (∀ c o, c ≠ zp → c ≠ tt → c ≠ i1 → c ≠ i2 → s.heap.get? c = some o → g.get? c = some o) → Q none { s with heap := g }) : wpAny (model pr w) A (pyNext (.ref zp)) Q E s := by
  have hT : s.TypeIs (.ref zp) "zip" := ⟨_, az, rfl⟩
  unfold pyNext
  refine wpAny_bind (wpAny_attempt (wpAny_callSpecial?_slot (name := Str.ofString "__next__") hT F.slot_zip_next (wpAny_call_entry F.slot_zip_next hT F.entry_zip_next (zipS_end hh D az ai at_ w1 w2 hend fun g e hk he => ?_) (F.args_zip_next_1 _))))
  obtain ⟨o, ho, hc⟩ := he
  refine wpAny_bind (wpAny_isInstance (T := "StopIteration") (b := true) ⟨o, ho, hc⟩ isSubtype_stop ?_); exact wpAny_pure (q _ hk)
end
abbrev zM1 (h : Heap) (la : Addr) : Heap := h.push { cls := .type "list_iterator", data := .fields #[.ref la, .int 0 0] }
abbrev zM2 (h : Heap) (la lb : Addr) : Heap := (zM1 h la).push { cls := .type "tuple_iterator", data := .fields #[.ref lb, .int 0 0] }
abbrev zM3 (h : Heap) (la lb : Addr) : Heap := (zM2 h la lb).push { cls := .type "tuple", data := .seq #[.ref h.objs.size, .ref (zM1 h la).objs.size] }
abbrev zM4 (h : Heap) (la lb : Addr) : Heap := (zM3 h la lb).push { cls := .type "tuple", data := .seq #[.none, .none] }
abbrev zM5 (h : Heap) (la lb : Addr) : Heap := (zM4 h la lb).push { cls := .type "zip", data := .fields #[.none, .bool false, .bool false, .ref (zM2 h la lb).objs.size, .ref (zM3 h la lb).objs.size] }
theorem meets_zipM (la lb : Addr) (us vs : Array Value) :
    Meets (Builtin.«zip.__new__» ⟨[.type "zip", .ref la, .ref lb], []⟩) (fun _ R s => s.heap.IsList la us ∧ s.heap.IsTuple lb vs ∧ R (.ok (.ret (.ref (zM4 s.heap la lb).objs.size))) { s with heap := zM5 s.heap la lb }) :=
  .of_wp fun pr w A R s h => by
    obtain ⟨hp, g, d, tk, os⟩ := s; obtain ⟨hla, hlb, h⟩ := h
    have hsub := sub_zip
    have hL1 : Heap.IsList (Shared.heap ⟨hp, g, d, tk, os⟩) la us := hla
    have hL2 : Heap.IsTuple (Shared.heap ⟨hp.push { cls := .type "list_iterator", data := .fields #[.ref la, .int 0 0] }, g, d, tk, os⟩) lb vs := Heap.IsTuple.push hlb _
    wp_walk using wpAny_pyIter_list hL1, wpAny_pyIter_tuple hL2
    exact ⟨_, rfl, h⟩
section
variable {pr : Program} {w : World} {A : Around} {E : Value → Shared → Prop} {s : Shared}
theorem call_zipM {la lb : Addr} {us vs : Array Value} {Q : Value → Shared → Prop} (hla : s.heap.IsList la us) (hlb : s.heap.IsTuple lb vs)
    (q : ∀ g, IsZip g (s.heap.objs.size + 4) (s.heap.objs.size + 2) (s.heap.objs.size + 3) .none → IsPair g (s.heap.objs.size + 2) (.ref s.heap.objs.size) (.ref (s.heap.objs.size + 1)) →
      IsPair g (s.heap.objs.size + 3) .none .none → g.IsListIter s.heap.objs.size la 0 → g.IsTupleIter (s.heap.objs.size + 1) lb 0 → g.objs.size = s.heap.objs.size + 5 →
      (∀ c o, s.heap.get? c = some o → g.get? c = some o) → Q (.ref (s.heap.objs.size + 4)) { s with heap := g }) :
    wpAny (model pr w) A (call (.type "zip") [.ref la, .ref lb]) Q E s := by
  refine callType_new F.called_zip (by decide) (F.typeCall_zip_2 _ _) (F.newCall_zip_2 _ _) (fun ob => F.args_object_init_3 ob _ _) F.entry_zip_new (meets_zipM la lb us vs) ⟨hla, hlb, ?_⟩
  have z1 : (zM1 s.heap la).objs.size = s.heap.objs.size + 1 := Heap.size_push ..
  have z2 : (zM2 s.heap la lb).objs.size = s.heap.objs.size + 2 := by rw [Heap.size_push, z1]
  have z3 : (zM3 s.heap la lb).objs.size = s.heap.objs.size + 3 := by rw [Heap.size_push, z2]
  have z4 : (zM4 s.heap la lb).objs.size = s.heap.objs.size + 4 := by rw [Heap.size_push, z3]
  have z5 : (zM5 s.heap la lb).objs.size = s.heap.objs.size + 5 := by rw [Heap.size_push, z4]
  have y5 : (zM5 s.heap la lb).get? (zM4 s.heap la lb).objs.size = some _ := Heap.get?_push_size _ rfl
  have y4 : (zM5 s.heap la lb).get? (zM3 s.heap la lb).objs.size = some _ := Heap.get?_push_of_some _ (Heap.get?_push_size _ rfl)
  have y3 : (zM5 s.heap la lb).get? (zM2 s.heap la lb).objs.size = some _ := Heap.get?_push_of_some _ (Heap.get?_push_of_some _ (Heap.get?_push_size _ rfl))
  have y2 : (zM5 s.heap la lb).get? (zM1 s.heap la).objs.size = some _ := Heap.get?_push_of_some _ (Heap.get?_push_of_some _ (Heap.get?_push_of_some _ (Heap.get?_push_size _ rfl)))
  have y1 : (zM5 s.heap la lb).get? s.heap.objs.size = some _ := Heap.get?_push_of_some _ (Heap.get?_push_of_some _ (Heap.get?_push_of_some _ (Heap.get?_push_of_some _ (Heap.get?_push_size _ rfl))))
  show _ ∧ _
  rw [z2, z3, z4] at y5
  rw [z1, z2] at y3
  rw [z3] at y4
  rw [z1] at y2
  rw [z4]
  exact ⟨⟨_, y5, rfl⟩, q _ y5 y3 y4 ⟨_, y1, rfl, rfl⟩ ⟨_, y2, rfl, rfl⟩ z5 fun c o x => Heap.get?_push_of_some _ (Heap.get?_push_of_some _ (Heap.get?_push_of_some _ (Heap.get?_push_of_some _ (Heap.get?_push_of_some _ x))))⟩
end
/-- the list at a and the tuple at b, the items in new pairs -/
def ItzM (K : PySem.W.Frag) (a b : Addr) : It :=
  ⟨fun i H => ∃ (xs ys : List V) (x y : V), SqL K H a xs ∧ SqT K H b ys ∧ xs[i]? = some x ∧ ys[i]? = some y,
    fun i H v H' => ∃ T x y, v = .ref T ∧ H T = none ∧ H' = upd H T (.tup [x, y]) ∧ (∀ xs, SqL K H a xs → xs[i]? = some x) ∧ ∀ ys, SqT K H b ys → ys[i]? = some y,
    fun i H => ∃ xs ys : List V, SqL K H a xs ∧ SqT K H b ys ∧ (xs.length ≤ i ∨ ys.length ≤ i)⟩
theorem turn_zipM {P : Program} {w : World} {K : PySem.W.Frag} {elts : List Expr} {kk : Nat} {tpos : Pos} {a b zp ti tt i1 i2 : Addr} (D : ZipApart zp ti tt i1 i2 a b) :
    Turn P w K (.Tuple elts kk tpos) (ItzM K a b) [zp, ti, tt, i1, i2] zp (fun i h => IsZip h zp ti tt .none ∧ IsPair h ti (.ref i1) (.ref i2) ∧ (∃ x y, IsPair h tt x y) ∧ h.IsListIter i1 a i ∧ h.IsTupleIter i2 b i) where
  mem := by simp
  obj := fun i h st c hc => by
    obtain ⟨az, ai, ⟨x, y, at_⟩, ⟨o1, e1, _, d1⟩, ⟨o2, eb, _, d2⟩⟩ := st
    have ce : c = zp ∨ c = ti ∨ c = tt ∨ c = i1 ∨ c = i2 := by simpa using hc
    rcases ce with q | q | q | q | q
    · rw [q]; exact ⟨_, az, fun v q => nomatch q⟩
    · rw [q]; exact ⟨_, ai, fun v q => nomatch q⟩
    · rw [q]; exact ⟨_, at_, fun v q => nomatch q⟩
    · rw [q]; exact ⟨o1, e1, fun v qq => by rw [d1] at qq; cases qq⟩
    · rw [q]; exact ⟨o2, eb, fun v qq => by rw [d2] at qq; cases qq⟩
  keep := fun i h h' st k => by
    obtain ⟨az, ai, ⟨x, y, at_⟩, h1, h2⟩ := st
    exact ⟨k zp (by simp) _ az, k ti (by simp) _ ai, ⟨x, y, k tt (by simp) _ at_⟩, h1.at fun o q => k i1 (by simp) o q, h2.at fun o q => k i2 (by simp) o q⟩
  item := by
    intro X hP hw hK hc i pn s sg H E I hf st hg
    subst hP hw hK
    obtain ⟨az, ai, ⟨x0, y0, at_⟩, h1, h2⟩ := st
    obtain ⟨xs, ys, x, y, sx, sy, hx1, hy1⟩ := hg
    obtain ⟨ua, va, p, _⟩ := I.list sx
    obtain ⟨ub, vb, p2, _⟩ := I.tuple sy
    obtain ⟨u, wa, ru⟩ := va.get hx1
    obtain ⟨u2, wb, ru2⟩ := vb.get hy1
    have zlt : zp < s.heap.objs.size := Heap.lt_size az
    refine nextS_item D az ai at_ (.inl ⟨h1, p.isList⟩) (.inr ⟨h2, p2⟩) (x := u) (y := u2) (by simpa using wa) (by simpa using wb) fun g z' t' w1' w2' np sz hk => ?_
    refine ⟨_, rfl, wpAny_letOwnedTupleGo_zip (s := { s with heap := g }) z' fun g2 z2 sb => ?_⟩
    have np2 : g2.get? s.heap.objs.size = some { cls := .type "tuple", data := .seq #[u, u2] } := (sb.2 _ (Nat.ne_of_gt zlt)).trans np
    have new : ObjOk X.prog X.w (upd H s.heap.objs.size (.tup [x, y])) g2 s.heap.objs.size (.tup [x, y]) := ⟨by show 2 ≤ sizeLine; decide, [u, u2], .cons ru (.cons ru2 .nil), ⟨_, np2, rfl, _, rfl⟩⟩
    have I1 : Inv X pn sg (upd H s.heap.objs.size (.tup [x, y])) { s with heap := g2 } :=
      I.turnedNew (t' := s.toks) (ch := [zp, ti, tt, i1, i2]) (fun c o hb q => (sb.2 c (fun qq => hb (by simp [qq]))).trans (hk c o (fun qq => hb (by simp [qq])) (fun qq => hb (by simp [qq])) (fun qq => hb (by simp [qq])) (fun qq => hb (by simp [qq])) q)) hf (Nat.le_refl _) new
    refine ⟨.ref s.heap.objs.size, _, I1, rfl, ⟨_, x, y, rfl, I.hok.fresh (Nat.le_refl _), rfl, fun l hl => by rw [I.list_inj hl sx]; exact hx1, fun l hl => by rw [I.tuple_inj hl sy]; exact hy1⟩, ⟨z2, ?_, ⟨u, u2, ?_⟩, ?_, ?_⟩, fun c hcm => ?_⟩
    · exact (sb.2 _ D.TIz).trans (hk _ _ D.TIz D.TITO D.TIi1 D.TIi2 ai)
    · exact (sb.2 _ D.TOz).trans t'
    · rcases w1' with ⟨z, _⟩ | ⟨_, z⟩
      · exact z.at fun o q => (sb.2 _ D.i1z).trans q
      · obtain ⟨ol, el, cl, _⟩ := p.isList
        obtain ⟨ot, et, ct, _⟩ := z
        rw [hk _ _ D.l1z D.l1TO D.l1i1 D.l1i2 el] at et
        cases et
        rw [cl] at ct
        exact absurd (Value.type.inj ct) (by decide)
    · rcases w2' with ⟨_, z⟩ | ⟨z, _⟩
      · obtain ⟨ot, et, ct, _⟩ := p2
        obtain ⟨ol, el, cl, _⟩ := z
        rw [hk _ _ D.l2z D.l2TO D.l2i1 D.l2i2 et] at el
        cases el
        rw [cl] at ct
        exact absurd (Value.type.inj ct) (by decide)
      · exact z.at fun o q => (sb.2 _ D.i2z).trans q
    · have clt : c < s.heap.objs.size := by
        have ce : c = zp ∨ c = ti ∨ c = tt ∨ c = i1 ∨ c = i2 := by simpa using hcm
        rcases ce with q | q | q | q | q
        · rw [q]; exact zlt
        · rw [q]; exact Heap.lt_size ai
        · rw [q]; exact Heap.lt_size at_
        · rw [q]; obtain ⟨_, z1, _⟩ := h1; exact Heap.lt_size z1
        · rw [q]; obtain ⟨_, z2, _⟩ := h2; exact Heap.lt_size z2
      rw [upd_ne (Nat.ne_of_lt clt)]
      exact (hf c hcm).1
  done := by
    intro X hP hw hK hc i pn s sg H E I hf st hg
    subst hP hw hK
    obtain ⟨az, ai, ⟨x0, y0, at_⟩, h1, h2⟩ := st
    obtain ⟨xs, ys, sx, sy, hend⟩ := hg
    obtain ⟨ua, va, p, _⟩ := I.list sx
    obtain ⟨ub, vb, p2, _⟩ := I.tuple sy
    have la := va.length
    have lb := vb.length
    have he : ua.toArray[i]? = none ∨ ub.toArray[i]? = none := by
      rcases hend with q | q
      · exact .inl (by simp; omega)
      · exact .inr (by simp; omega)
    exact nextS_end (I.ok.hd hc) D az ai at_ (.inl ⟨h1, p.isList⟩) (.inr ⟨h2, p2⟩) he fun g hk => ⟨rfl, I.turnedL (t' := s.toks) (ch := [zp, ti, tt, i1, i2]) (fun c o hb q =>
      hk c o (fun qq => hb (by simp [qq])) (fun qq => hb (by simp [qq])) (fun qq => hb (by simp [qq])) (fun qq => hb (by simp [qq])) q) hf⟩
  self := fun _ _ _ _ _ st q => wpAny_pyIter_zip st.1 q
def iZipM (K : PySem.W.Frag) (ta : TA) : TI := fun σ H Rr => ta σ H fun vs H1 => ∃ a b xs ys, vs = [.ref a, .ref b] ∧ SqL K H1 a xs ∧ SqT K H1 b ys ∧ Rr (ItzM K a b) H1
theorem pi_zipM {X : Cx} {e eb : Expr} {ta : TA} {p pos tpos : Pos} {elts : List Expr} {kk : Nat} (hg : Gl X "zip") (hm : X.mg "zip" = none) (ha : PA X [e, eb] ta)
    (hs : starEach [e, eb] X.env = (false, eval e X.env) :: starEach [eb] X.env := by rfl) (hpx : (backTo pos (starEach [eb] X.env)).any (·.1) = false := by rfl) :
    PI X (.Tuple elts kk tpos) (.Call (.Name "zip" p) [e, eb] [] pos) (iZipM X.K ta) := by
  refine ⟨fun pn s sg H Rr I h => ?_⟩
  refine Call_ (ld_blt I hg hm PyProof.Rows.boot_zip (PyProof.Rows.callWith_type1 (thn (ha.run pos pn s sg H _ I h) fun us s1 ⟨vs, H1, I1, r1, q1⟩ => ?_) hs hpx))
  obtain ⟨a, b, xs, ys, ex, sx, sy, q⟩ := q1
  subst ex
  cases r1 with
  | cons r rr =>
    cases rr with
    | cons r' rr =>
      cases rr
      cases r
      cases r'
      obtain ⟨ua, va, p1, _⟩ := I1.list sx
      obtain ⟨ub, vb, p2, _⟩ := I1.tuple sy
      obtain ⟨o2, ho2, _⟩ := id p2
      have fresh5 : ∀ c, c ∈ [s1.heap.objs.size + 4, s1.heap.objs.size + 2, s1.heap.objs.size + 3, s1.heap.objs.size, s1.heap.objs.size + 1] → FpOk X pn H1 c := fun c hcm => by
        have cle : s1.heap.objs.size ≤ c := by
          simp only [List.mem_cons, List.not_mem_nil, or_false] at hcm
          omega
        exact I1.fpOk cle (I1.hok.fresh cle)
      refine call_zipM p1.isList (show s1.heap.IsTuple b ub.toArray from p2) fun g hz hTI hTO h1 h2 hsz hk => wpAny_pyIter_zip hz ?_
      have I2 : Inv X pn sg H1 { s1 with heap := g } := I1.kept (t' := s1.toks) hk
      exact ⟨s1.heap.objs.size + 4, [s1.heap.objs.size + 4, s1.heap.objs.size + 2, s1.heap.objs.size + 3, s1.heap.objs.size, s1.heap.objs.size + 1], _, _, H1, rfl, I2, turn_zipM (PySem.W.ktu_apart s1.heap.objs.size a b p1.lt (Heap.lt_size ho2)), ⟨hz, hTI, ⟨_, _, hTO⟩, h1, h2⟩, fresh5, q⟩
end Hop

/-! ### a dict of the module's top whose keys are whole numbers -/
namespace Hop
open PySem PySem.Spec PyProof.Rows L2
def KDI (K : PySem.W.Frag) (a : Addr) (es : List DictEntry) : Prop := (∃ n, K.lookup a = some ⟨.type "dict", none, .dict es.toArray n, #[]⟩) ∧ (∀ e ∈ es, ∃ k t, e.key = .int k t ∧ e.hash = hashInt k) ∧ (a == sysModules) = false
def kget (es : List DictEntry) (k : Int) : Option Value := (es.find? fun e => Value.isInt k e.key).map (·.val)
theorem kdi_map {prog : Program} {w : World} {K : PySem.W.Frag} {h : Heap} {a : Addr} {es : List DictEntry} (X : K.In h) (d : KDI K a es) : h.MapOf (PySem.intKind prog w) a (fun k => kget es k) := by
  obtain ⟨⟨n, hl⟩, hk, _⟩ := d
  refine ⟨_, es.toArray, n, X _ _ hl, ⟨rfl, rfl, rfl⟩, rfl, fun e he => ?_, fun k => ?_⟩
  · obtain ⟨k, t, e1, e2⟩ := hk e (by simpa using he)
    exact ⟨k, by rw [e1]; exact (by simp [PySem.intKind, Value.isInt]), e2⟩
  · unfold findBy kget
    rw [List.find?_toArray]
    rfl
def rIxI (K : PySem.W.Frag) : R2 := fun x y H Q => ∃ p es k u v, x = .ref p ∧ y = .int k ∧ KDI K p es ∧ kget es k = some u ∧ RelV v u ∧ Q v H
def rInI (K : PySem.W.Frag) : R2 := fun x y H Q => ∃ p es k, y = .ref p ∧ x = .int k ∧ KDI K p es ∧ Q (.bl (kget es k).isSome) H
def rNotInI (K : PySem.W.Frag) : R2 := fun x y H Q => ∃ p es k, y = .ref p ∧ x = .int k ∧ KDI K p es ∧ Q (.bl (!(kget es k).isSome)) H
section
variable {X : Cx}
theorem ix_kdi : IxR X (rIxI X.K) := by
  intro ea eb pn s sg H x y u1 u2 Q I rx ry h hs
  obtain ⟨p, es, k, u0, v, rfl, rfl, kd, e, rv, q⟩ := h
  obtain rfl : u1 = Value.ref p := rx
  obtain ⟨t, rfl⟩ := ry
  have hm := kdi_map (prog := X.prog) (w := X.w) I.kIn kd
  exact tail_any hm.typeIs slot_dict_getitem.lookup (wpAny_getItem_of (k := k) (by simp [PySem.intKind, Value.isInt]) hm e ⟨v, H, I.tok _, rv, q⟩) hs
theorem op_in_kdi : OpR X (compareOp .In) (rInI X.K) := by
  intro pn s sg H x y u1 u2 Q I rx ry h
  obtain ⟨p, es, k, rfl, rfl, kd, q⟩ := h
  obtain rfl : u2 = Value.ref p := ry
  obtain ⟨t, rfl⟩ := rx
  have hm := kdi_map (prog := X.prog) (w := X.w) I.kIn kd
  exact wpAny_in_of (k := k) (by simp [PySem.intKind, Value.isInt]) kd.2.2 hm ⟨.bl (kget es k).isSome, H, I.tok _, rfl, q⟩
theorem op_notIn_kdi : OpR X (compareOp .NotIn) (rNotInI X.K) := by
  intro pn s sg H x y u1 u2 Q I rx ry h
  obtain ⟨p, es, k, rfl, rfl, kd, q⟩ := h
  obtain rfl : u2 = Value.ref p := ry
  obtain ⟨t, rfl⟩ := rx
  have hm := kdi_map (prog := X.prog) (w := X.w) I.kIn kd
  exact wpAny_notIn_of (k := k) (by simp [PySem.intKind, Value.isInt]) kd.2.2 hm ⟨.bl (!(kget es k).isSome), H, I.tok _, rfl, q⟩
end
/-- a dict of the top as the head shows it -/
def intKeysB (es : List DictEntry) : Bool := es.all fun e => match e.key with
  | .int k _ => e.hash == hashInt k
  | _ => false
theorem get_kdi {K : PySem.W.Frag} {a : Addr} {es : List DictEntry} {n : Nat} (l : K.lookup a = some ⟨.type "dict", none, .dict es.toArray n, #[]⟩) (b : intKeysB es = true) (s : (a == sysModules) = false) : KDI K a es := by
  refine ⟨⟨n, l⟩, fun e he => ?_, s⟩
  have q := List.all_eq_true.mp b e he
  cases ek : e.key with
  | int k t =>
    rw [ek] at q
    exact ⟨k, t, rfl, by simpa using q⟩
  | _ => rw [ek] at q; cases q
end Hop

namespace Hop
open PySem PySem.Spec PyProof.Rows L2
open Kv334 (Load Ship none_)
/-- what the top has written -/
structure Txt (K : PySem.W.Frag) (mg : Str → Option Value) (CL CS : Addr) : Prop extends Cls2 K CL CS where
  g_Load : mg "Load" = some (.ref CL)
  g_Ship : mg "Ship" = some (.ref CS)
  c_HUNDREDTHS : GInt mg "HUNDREDTHS" 100
  c_SAND_WEIGHS : GInt mg "SAND_WEIGHS" 265
  c_WATER_WEIGHS : GInt mg "WATER_WEIGHS" 102
  c_MOST_MINUTES : GInt mg "MOST_MINUTES" 200
  b_max : mg "max" = none
  b_min : mg "min" = none
  b_range : mg "range" = none
/-! ### promises -/
def spLoadInit (CL : Addr) : Sp := fun vs H Q _ => ∃ (p dx : Addr) (f s w o g : Int), vs = [.ref p, .int f, .int s, .int w, .int o, .int g] ∧ H p = some (.ins CL dx []) ∧
  ∀ H' : Hp, H' p = some (.ins CL dx [("minutes", .int f), ("sand", .int s), ("water", .int w), ("overflow", .int o), ("gone", .int g)]) → (∀ b o, H b = some o → b ≠ p → H' b = some o) → Q .non H'
/-- a new load -/
def NewLoad (CL : Addr) (H : Hp) (l : Load) (Q : VK) : Prop := ∀ (H' : Hp) (p : Addr), Same H H' → H p = none → LoadAt CL H' p l → Q (.ref p) H'
def spLoad (CL : Addr) : Sp := fun vs H Q _ => ∃ l : Load, vs = [.int l.filled, .int l.sand, .int l.water, .int l.over, .int l.gone] ∧ NewLoad CL H l Q
def spEmpty (CL : Addr) : Sp := fun vs H Q _ => vs = [] ∧ NewLoad CL H none_ Q
def spTons (CL : Addr) : Sp := fun vs H Q _ => ∃ (a : Addr) (l : Load), vs = [.ref a] ∧ LoadAt CL H a l ∧ Q (.int l.weight) H
def spMay (CL CS : Addr) : Sp := fun vs H Q _ => ∃ (a b la : Addr) (x : Ship) (t c : Nat) (l : Load), vs = [.ref a, .ref b] ∧ ShipAt CS H a x la t c ∧ LoadAt CL H b l ∧ Q (.bl (x.may l)) H
def spKept (CS : Addr) : Sp := fun vs H Q _ => ∃ (a la : Addr) (x : Ship) (t c k : Nat), vs = [.ref a, .int k] ∧ ShipAt CS H a x la t c ∧ x.loss ≤ 10 ∧ Q (.int (x.keeps k)) H
def spOver (CL CS : Addr) : Sp := fun vs H Q _ => ∃ (a b la : Addr) (x : Ship) (t c : Nat) (l : Load), vs = [.ref a, .ref b, .int ((x.flow * x.solid : Nat) : Int)] ∧ ShipAt CS H a x la t c ∧ LoadAt CL H b l ∧ GoodShip x ∧ GoodLoad x l ∧
  ¬ l.sand + l.water + x.flow * x.solid + x.flow * (100 - x.solid) ≤ x.room * 100 ∧ NewLoad CL H (x.minute l) Q
def spMinute (CL CS : Addr) : Sp := fun vs H Q _ => ∃ (a b la : Addr) (x : Ship) (t c : Nat) (l : Load), vs = [.ref a, .ref b] ∧ ShipAt CS H a x la t c ∧ LoadAt CL H b l ∧ GoodShip x ∧ GoodLoad x l ∧ NewLoad CL H (x.minute l) Q
def spPoured (CL : Addr) : Sp := fun vs H Q _ => ∃ (a : Addr) (l : Load) (n : Nat), vs = [.ref a, .int n] ∧ LoadAt CL H a l ∧ n ≤ l.water ∧ NewLoad CL H { l with water := l.water - n } Q
theorem l5 {a b c d e a' b' c' d' e' : Int} (h1 : a = a') (h2 : b = b') (h3 : c = c') (h4 : d = d') (h5 : e = e') : [V.int a, .int b, .int c, .int d, .int e] = [V.int a', .int b', .int c', .int d', .int e'] := by
  subst h1 h2 h3 h4 h5
  rfl
theorem load_put (f s w o g : Int) : putF "gone" (.int g) (putF "overflow" (.int o) (putF "water" (.int w) (putF "sand" (.int s) (putF "minutes" (.int f) [])))) = ([("minutes", .int f), ("sand", .int s), ("water", .int w), ("overflow", .int o), ("gone", .int g)] : List (Str × V)) := by
  simp only [putF]
  repeat (first | rfl | rw [if_neg (by decide +kernel)])
section
variable {P : Program} {w : World} {K : PySem.W.Frag} {mg : Str → Option Value} {base : Heap} {CL CS : Addr}
abbrev s_Load_init : Stmt := inClass (top 13) 0
theorem sc_Load_init : FnScope ["self", "minutes", "sand", "water", "overflow", "gone"] ["self", "minutes", "sand", "water", "overflow", "gone"] (defScope s_Load_init) := ⟨rfl, rfl, rfl, by decide +kernel, rfl, by decide +kernel, by decide +kernel⟩
theorem ok_Load_init {f : Addr} {fd : FuncData} (F : Fun K "__init__" "Load.__init__" s_Load_init f fd) (T : Txt K mg CL CS) : FnOk P w K mg base CX0 1 f fd ["self", "minutes", "sand", "water", "overflow", "gone"] (spLoadInit CL) := by
  refine F.ok sc_Load_init (fun vs H Q E h => ?_) (fun cdv A outer s H vs Q E hr h => ⟨_, (pss_cons (ps_fld (pv 0) (pv 1) rfl)
    (pss_cons (ps_fld (pv 0) (pv 2) rfl)
    (pss_cons (ps_fld (pv 0) (pv 3) rfl)
    (pss_cons (ps_fld (pv 0) (pv 4) rfl)
    (pss_one (ps_fld (pv 0) (pv 5) rfl)))))), ?_⟩)
  · obtain ⟨p, dx, f, s, w, o, g, rfl, _⟩ := h
    rfl
  · obtain ⟨p, dx, f, s, w, o, g, rfl, hp, k⟩ := h
    refine ⟨_, rfl, _, rfl, p, CL, dx, _, rfl, hp, T.cl, T.l1, (by show 0 < 1000; decide), ?_⟩
    refine ⟨_, rfl, _, rfl, p, CL, dx, _, rfl, upd_same, T.cl, T.l2, (by show 1 < 1000; decide), ?_⟩
    refine ⟨_, rfl, _, rfl, p, CL, dx, _, rfl, upd_same, T.cl, T.l3, (by show 2 < 1000; decide), ?_⟩
    refine ⟨_, rfl, _, rfl, p, CL, dx, _, rfl, upd_same, T.cl, T.l4, (by show 3 < 1000; decide), ?_⟩
    refine ⟨_, rfl, _, rfl, p, CL, dx, _, rfl, upd_same, T.cl, T.l5, (by show 4 < 1000; decide), ?_⟩
    refine k _ (Eq.trans upd_same (congrArg (fun q => some (HO.ins CL dx q)) (load_put f s w o g))) fun b o e hb => ?_
    rw [upd_ne hb, upd_ne hb, upd_ne hb, upd_ne hb, upd_ne hb]
    exact e
theorem cl_Load {fI : Addr} {fd : FuncData} (T : Txt K mg CL CS) (M : Mk K CL fI) (b : Binds K fd ["self", "minutes", "sand", "water", "overflow", "gone"] []) (F : Fun K "__init__" "Load.__init__" s_Load_init fI fd) : Cl P w K mg base 1 "Load" (spLoad CL) := by
  refine ⟨CL, fI, fd, _, spLoadInit CL, T.g_Load, M, b, ok_Load_init F T, fun vs H Q E h x dx nx nd ne => ?_⟩
  obtain ⟨l, rfl, k⟩ := h
  exact ⟨x, dx, _, _, _, _, _, rfl, upd_same, fun H' e kp => ⟨rfl, k H' x (Same.made nx nd kp) nx ⟨dx, e⟩⟩⟩
abbrev s_empty_load : Stmt := top 15
theorem sc_empty_load : FnScope [] [] (defScope s_empty_load) := ⟨rfl, rfl, rfl, by decide +kernel, rfl, by decide +kernel, by decide +kernel⟩
theorem ok_empty {f : Addr} {fd : FuncData} (F : Fun K "empty_load" "empty_load" s_empty_load f fd) (D_Load : Cl P w K mg base 1 "Load" (spLoad CL)) : FnOk P w K mg base CX0 3 f fd [] (spEmpty CL) := by
  refine F.ok sc_empty_load (fun vs H Q E h => ?_) (fun cdv A outer s H vs Q E hr h => ⟨_, (pss_one (ps_ret (make_cl D_Load (hr.mono (by decide)) rfl (pa_cons pe_int (pa_cons pe_int (pa_cons pe_int (pa_cons pe_int (pa_cons pe_int pa_nil)))))))), ?_⟩)
  · obtain ⟨rfl, _⟩ := h
    rfl
  · obtain ⟨rfl, k⟩ := h
    exact ⟨none_, rfl, k⟩
abbrev s_hundredths_of_tons : Stmt := top 16
theorem sc_hundredths_of_tons : FnScope ["load"] ["load"] (defScope s_hundredths_of_tons) := ⟨rfl, rfl, rfl, by decide +kernel, rfl, by decide +kernel, by decide +kernel⟩
theorem ok_tons {f : Addr} {fd : FuncData} (F : Fun K "hundredths_of_tons" "hundredths_of_tons" s_hundredths_of_tons f fd) (T : Txt K mg CL CS) : FnOk P w K mg base CX0 1 f fd ["load"] (spTons CL) := by
  refine F.ok sc_hundredths_of_tons (fun vs H Q E h => ?_) (fun cdv A outer s H vs Q E hr h => ⟨_, (pss_one (ps_ret (pe_op op_fdiv (pe_op op_add (pe_op op_mul (pe_fld (pv 0) rfl) (gint T.c_SAND_WEIGHS rfl)) (pe_op op_mul (pe_fld (pv 0) rfl) (gint T.c_WATER_WEIGHS rfl))) (gint T.c_HUNDREDTHS rfl)))), ?_⟩)
  · obtain ⟨a, l, rfl, _⟩ := h
    rfl
  · obtain ⟨a, l, rfl, hl, k⟩ := h
    refine ⟨_, rfl, f_sand T.toCls2 hl ?_⟩
    refine ⟨_, _, rfl, rfl, .inr ⟨by decide, by decide⟩, ?_⟩
    refine ⟨_, rfl, f_water T.toCls2 hl ?_⟩
    refine ⟨_, _, rfl, rfl, .inr ⟨by decide, by decide⟩, ?_⟩
    refine ⟨_, _, rfl, rfl, ?_⟩
    refine ⟨_, _, rfl, rfl, ⟨by decide, by decide⟩, ?_⟩
    refine qi k ?_
    unfold Kv334.Load.weight
    omega
abbrev s_may_carry : Stmt := top 18
theorem sc_may_carry : FnScope ["ship", "load"] ["ship", "load"] (defScope s_may_carry) := ⟨rfl, rfl, rfl, by decide +kernel, rfl, by decide +kernel, by decide +kernel⟩
theorem ok_may {f : Addr} {fd : FuncData} (F : Fun K "may_carry" "may_carry" s_may_carry f fd) (T : Txt K mg CL CS) (D_hundredths_of_tons : Def P w K mg base 1 "hundredths_of_tons" (spTons CL)) : FnOk P w K mg base CX0 2 f fd ["ship", "load"] (spMay CL CS) := by
  refine F.ok sc_may_carry (fun vs H Q E h => ?_) (fun cdv A outer s H vs Q E hr h => ⟨_, (pss_one (ps_ret (pe_cmpR op_le (call_def D_hundredths_of_tons (hr.mono (by decide)) rfl (pa_cons (pv 1) pa_nil)) (pe_op op_mul (pe_fld (pv 0) rfl) (gint T.c_HUNDREDTHS rfl)) (nomark _)))), ?_⟩)
  · obtain ⟨a, b, la, x, t, c, l, rfl, _⟩ := h
    rfl
  · obtain ⟨a, b, la, x, t, c, l, rfl, hs, hl, k⟩ := h
    refine ⟨_, rfl, _, _, rfl, hl, ?_⟩
    refine ⟨_, rfl, f_most T.toCls2 hs ?_⟩
    refine ⟨_, _, rfl, rfl, .inr ⟨by decide, by decide⟩, ?_⟩
    refine ⟨_, _, rfl, rfl, ?_⟩
    have e : decide ((l.weight : Int) ≤ (x.most : Int) * 100) = x.may l := by
      unfold Kv334.Ship.may
      exact decide_eq_decide.mpr (by omega)
    show Q (.bl (decide ((l.weight : Int) ≤ (x.most : Int) * 100))) H
    rw [e]
    exact k
abbrev s_kept_hundredths : Stmt := top 19
theorem sc_kept_hundredths : FnScope ["ship", "k"] ["ship", "k"] (defScope s_kept_hundredths) := ⟨rfl, rfl, rfl, by decide +kernel, rfl, by decide +kernel, by decide +kernel⟩
theorem ok_kept {f : Addr} {fd : FuncData} (F : Fun K "kept_hundredths" "kept_hundredths" s_kept_hundredths f fd) (T : Txt K mg CL CS) : FnOk P w K mg base CX0 1 f fd ["ship", "k"] (spKept CS) := by
  refine F.ok sc_kept_hundredths (fun vs H Q E h => ?_) (fun cdv A outer s H vs Q E hr h => ⟨_, (pss_one (ps_ret (pe_callB (call_max2 rfl) (by rfl) T.b_max (by decide +kernel) (pa_cons pe_int (pa_cons (pe_op op_sub pe_int (pe_op op_mul (pv 1) (pe_fld (pv 0) rfl))) pa_nil))))), ?_⟩)
  · obtain ⟨a, la, x, t, c, k, rfl, _⟩ := h
    rfl
  · obtain ⟨a, la, x, t, c, kk, rfl, hs, hx, k⟩ := h
    refine ⟨_, rfl, _, rfl, f_loss T.toCls2 hs ?_⟩
    refine ⟨_, _, rfl, rfl, .inr ⟨by omega, by omega⟩, ?_⟩
    refine ⟨_, _, rfl, rfl, ?_⟩
    refine ⟨_, _, rfl, ?_⟩
    refine qi k ?_
    unfold Kv334.Ship.keeps
    have e : (kk : Int) * (x.loss : Int) = ((x.loss * kk : Nat) : Int) := by rw [Nat.mul_comm]; rfl
    rw [e]
    split <;> omega
end
end Hop

namespace Hop
open PySem PySem.Spec PyProof.Rows L2
open Kv334 (Load Ship none_)
section
variable {P : Program} {w : World} {K : PySem.W.Frag} {mg : Str → Option Value} {base : Heap} {CL CS : Addr}
theorem min_int (a b : Nat) : (if (b : Int) < (a : Int) then (b : Int) else (a : Int)) = ((min a b : Nat) : Int) := by
  by_cases h : b < a
  · rw [if_pos (by omega), Nat.min_eq_right (by omega)]
  · rw [if_neg (by omega), Nat.min_eq_left (by omega)]
abbrev s_behind_overflow : Stmt := top 21
theorem sc_behind_overflow : FnScope ["ship", "load", "came", "space", "k", "stays", "sand"] ["ship", "load", "came"] (defScope s_behind_overflow) := ⟨rfl, rfl, rfl, by decide +kernel, rfl, by decide +kernel, by decide +kernel⟩
theorem ok_over {f : Addr} {fd : FuncData} (F : Fun K "behind_overflow" "behind_overflow" s_behind_overflow f fd) (T : Txt K mg CL CS) (D_Load : Cl P w K mg base 1 "Load" (spLoad CL)) (D_kept_hundredths : Def P w K mg base 1 "kept_hundredths" (spKept CS)) : FnOk P w K mg base CX0 3 f fd ["ship", "load", "came"] (spOver CL CS) := by
  refine F.ok sc_behind_overflow (fun vs H Q E h => ?_) (fun cdv A outer s H vs Q E hr h => ⟨_, (pss_cons (ps_set (i := 3) sc_behind_overflow.nd rfl (Or.inl rfl) (pe_op op_mul (pe_fld (pv 0) rfl) (gint T.c_HUNDREDTHS rfl)))
     (pss_cons (ps_set (i := 4) sc_behind_overflow.nd rfl (Or.inl rfl) (pe_op op_add (pe_fld (pv 1) rfl) pe_int))
     (pss_cons (ps_set (i := 5) sc_behind_overflow.nd rfl (Or.inl rfl) (pe_callB (call_min2 rfl) (by rfl) T.b_min (by decide +kernel) (pa_cons (pe_op op_fdiv (pe_op op_mul (pv 2) (call_def D_kept_hundredths (hr.mono (by decide)) rfl (pa_cons (pv 0) (pa_cons (pv 4) pa_nil)))) pe_int) (pa_cons (pe_op op_sub (pv 3) (pe_fld (pv 1) rfl)) pa_nil))))
     (pss_cons (ps_set (i := 6) sc_behind_overflow.nd rfl (Or.inl rfl) (pe_op op_add (pe_fld (pv 1) rfl) (pv 5)))
     (pss_one (ps_ret (make_cl D_Load (hr.mono (by decide)) rfl (pa_cons (pe_op op_add (pe_fld (pv 1) rfl) pe_int) (pa_cons (pv 6) (pa_cons (pe_op op_sub (pv 3) (pv 6)) (pa_cons (pv 4) (pa_cons (pe_op op_sub (pe_op op_add (pe_fld (pv 1) rfl) (pv 2)) (pv 5)) pa_nil)))))))))))), ?_⟩)
  · obtain ⟨a, b, la, x, t, c, l, rfl, _⟩ := h
    rfl
  · obtain ⟨a, b, la, x, t, c, l, rfl, hs, hl, gs, gl, hno, k⟩ := h
    refine ⟨_, rfl, f_room T.toCls2 hs ?_⟩
    refine ⟨_, _, rfl, rfl, .inr ⟨by decide, by decide⟩, ?_⟩
    refine ⟨_, rfl, f_overflow T.toCls2 hl ?_⟩
    refine ⟨_, _, rfl, rfl, ?_⟩
    refine ⟨_, rfl, _, rfl, _, rfl, a, la, x, t, c, l.over + 1, rfl, hs, gs.loss2, ?_⟩
    have k100 := keeps_le x (l.over + 1)
    refine ⟨_, _, rfl, rfl, .inr ⟨by omega, by omega⟩, ?_⟩
    refine ⟨_, _, rfl, rfl, ⟨by decide, by decide⟩, ?_⟩
    refine ⟨_, rfl, _, rfl, f_sand T.toCls2 hl ?_⟩
    refine ⟨_, _, rfl, rfl, ?_⟩
    refine ⟨_, _, rfl, ?_⟩
    have hroom := gl.room
    have e5 : (if (x.room : Int) * 100 - (l.sand : Int) < ((x.flow * x.solid : Nat) : Int) * (x.keeps (l.over + 1) : Int) / 100 then (x.room : Int) * 100 - (l.sand : Int) else ((x.flow * x.solid : Nat) : Int) * (x.keeps (l.over + 1) : Int) / 100) = ((stays x l : Nat) : Int) := by
      have e1 : (x.room : Int) * 100 - (l.sand : Int) = ((x.room * 100 - l.sand : Nat) : Int) := by omega
      have e2 : ((x.flow * x.solid : Nat) : Int) * (x.keeps (l.over + 1) : Int) / 100 = ((x.flow * x.solid * x.keeps (l.over + 1) / 100 : Nat) : Int) := by
        rw [← Int.natCast_mul]
        rfl
      rw [e1, e2]
      exact min_int _ _
    rw [e5]
    refine ⟨_, rfl, f_sand T.toCls2 hl ?_⟩
    refine ⟨_, rfl, _, _, rfl, rfl, ?_⟩
    refine ⟨_, rfl, f_minutes T.toCls2 hl ?_⟩
    refine ⟨_, _, rfl, rfl, ?_⟩
    refine ⟨_, rfl, _, rfl, _, rfl, _, _, rfl, rfl, _, rfl, _, rfl, f_gone T.toCls2 hl ?_⟩
    refine ⟨_, rfl, _, _, rfl, rfl, _, rfl, _, _, rfl, rfl, ?_⟩
    have hst := stays_room x l
    have hsc := stays_came x l
    refine ⟨x.minute l, ?_, k⟩
    rw [minute_over hno]
    exact l5 (by show (l.filled : Int) + 1 = ((l.filled + 1 : Nat) : Int); omega) (by show (l.sand : Int) + (stays x l : Int) = ((l.sand + stays x l : Nat) : Int); omega)
      (by show (x.room : Int) * 100 - ((l.sand : Int) + (stays x l : Int)) = ((x.room * 100 - (l.sand + stays x l) : Nat) : Int); omega) rfl
      (by show (l.gone : Int) + ((x.flow * x.solid : Nat) : Int) - (stays x l : Int) = ((l.gone + (x.flow * x.solid - stays x l) : Nat) : Int); omega)
abbrev s_behind_minute : Stmt := top 20
theorem sc_behind_minute : FnScope ["ship", "load", "sand", "water"] ["ship", "load"] (defScope s_behind_minute) := ⟨rfl, rfl, rfl, by decide +kernel, rfl, by decide +kernel, by decide +kernel⟩
theorem ok_minute {f : Addr} {fd : FuncData} (F : Fun K "behind_minute" "behind_minute" s_behind_minute f fd) (T : Txt K mg CL CS) (D_Load : Cl P w K mg base 1 "Load" (spLoad CL)) (D_behind_overflow : Def P w K mg base 3 "behind_overflow" (spOver CL CS)) : FnOk P w K mg base CX0 4 f fd ["ship", "load"] (spMinute CL CS) := by
  refine F.ok sc_behind_minute (fun vs H Q E h => ?_) (fun cdv A outer s H vs Q E hr h => ⟨_, (pss_cons (ps_set (i := 2) sc_behind_minute.nd rfl (Or.inl rfl) (pe_op op_mul (pe_fld (pv 0) rfl) (pe_fld (pv 0) rfl)))
    (pss_cons (ps_set (i := 3) sc_behind_minute.nd rfl (Or.inl rfl) (pe_op op_mul (pe_fld (pv 0) rfl) (pe_op op_sub pe_int (pe_fld (pv 0) rfl))))
    (pss_cons (ps_if (pt_cmpR op_gt (pe_op op_add (pe_op op_add (pe_op op_add (pe_fld (pv 1) rfl) (pe_fld (pv 1) rfl)) (pv 2)) (pv 3)) (pe_op op_mul (pe_fld (pv 0) rfl) (gint T.c_HUNDREDTHS rfl)) (nomark _))
    (pss_one (ps_ret (call_def D_behind_overflow (hr.mono (by decide)) rfl (pa_cons (pv 0) (pa_cons (pv 1) (pa_cons (pv 2) pa_nil))))))
    pss_nil)
    (pss_one (ps_ret (make_cl D_Load (hr.mono (by decide)) rfl (pa_cons (pe_op op_add (pe_fld (pv 1) rfl) pe_int) (pa_cons (pe_op op_add (pe_fld (pv 1) rfl) (pv 2)) (pa_cons (pe_op op_add (pe_fld (pv 1) rfl) (pv 3)) (pa_cons (pe_fld (pv 1) rfl) (pa_cons (pe_fld (pv 1) rfl) pa_nil))))))))))), ?_⟩)
  · obtain ⟨a, b, la, x, t, c, l, rfl, _⟩ := h
    rfl
  · obtain ⟨a, b, la, x, t, c, l, rfl, hs, hl, gs, gl, k⟩ := h
    have f2 := gs.flow2
    have s2 := gs.solid2
    refine ⟨_, rfl, f_flow T.toCls2 hs ⟨_, rfl, f_solid T.toCls2 hs ?_⟩⟩
    refine ⟨_, _, rfl, rfl, .inr ⟨by omega, by omega⟩, ?_⟩
    refine ⟨_, rfl, f_flow T.toCls2 hs ⟨_, rfl, f_solid T.toCls2 hs ?_⟩⟩
    refine ⟨_, _, rfl, rfl, _, _, rfl, rfl, .inr ⟨by omega, by omega⟩, ?_⟩
    have e1 : (x.flow : Int) * (x.solid : Int) = ((x.flow * x.solid : Nat) : Int) := (Int.natCast_mul _ _).symm
    have e2 : (x.flow : Int) * (100 - (x.solid : Int)) = ((x.flow * (100 - x.solid) : Nat) : Int) := by
      rw [Int.natCast_mul]
      congr 1
      omega
    dsimp only
    rw [e1, e2]
    refine ⟨_, rfl, f_sand T.toCls2 hl ⟨_, rfl, f_water T.toCls2 hl ?_⟩⟩
    refine ⟨_, _, rfl, rfl, _, rfl, _, _, rfl, rfl, _, rfl, _, _, rfl, rfl, ?_⟩
    refine ⟨_, rfl, f_room T.toCls2 hs ?_⟩
    refine ⟨_, _, rfl, rfl, .inr ⟨by decide, by decide⟩, ?_⟩
    refine ⟨_, _, rfl, rfl, _, rfl, ?_⟩
    by_cases hc : l.sand + l.water + x.flow * x.solid + x.flow * (100 - x.solid) ≤ x.room * 100
    · refine if_false_of (decide_eq_false (by omega)) ?_
      refine ⟨_, rfl, f_minutes T.toCls2 hl ?_⟩
      refine ⟨_, _, rfl, rfl, _, rfl, f_sand T.toCls2 hl ?_⟩
      refine ⟨_, rfl, _, _, rfl, rfl, _, rfl, f_water T.toCls2 hl ?_⟩
      refine ⟨_, rfl, _, _, rfl, rfl, _, rfl, f_overflow T.toCls2 hl ⟨_, rfl, f_gone T.toCls2 hl ?_⟩⟩
      refine ⟨x.minute l, ?_, k⟩
      rw [minute_fit hc]
      exact l5 (by show (l.filled : Int) + 1 = ((l.filled + 1 : Nat) : Int); omega) (by show (l.sand : Int) + ((x.flow * x.solid : Nat) : Int) = ((l.sand + x.flow * x.solid : Nat) : Int); omega)
        (by show (l.water : Int) + ((x.flow * (100 - x.solid) : Nat) : Int) = ((l.water + x.flow * (100 - x.solid) : Nat) : Int); omega) rfl rfl
    · refine if_true_of (decide_eq_true (by omega)) ?_
      exact ⟨_, rfl, _, rfl, _, rfl, a, b, la, x, t, c, l, rfl, hs, hl, gs, gl, hc, k⟩
abbrev s_poured : Stmt := top 22
theorem sc_poured : FnScope ["load", "water"] ["load", "water"] (defScope s_poured) := ⟨rfl, rfl, rfl, by decide +kernel, rfl, by decide +kernel, by decide +kernel⟩
theorem ok_poured {f : Addr} {fd : FuncData} (F : Fun K "poured" "poured" s_poured f fd) (T : Txt K mg CL CS) (D_Load : Cl P w K mg base 1 "Load" (spLoad CL)) : FnOk P w K mg base CX0 3 f fd ["load", "water"] (spPoured CL) := by
  refine F.ok sc_poured (fun vs H Q E h => ?_) (fun cdv A outer s H vs Q E hr h => ⟨_, (pss_one (ps_ret (make_cl D_Load (hr.mono (by decide)) rfl (pa_cons (pe_fld (pv 0) rfl) (pa_cons (pe_fld (pv 0) rfl) (pa_cons (pe_op op_sub (pe_fld (pv 0) rfl) (pv 1)) (pa_cons (pe_fld (pv 0) rfl) (pa_cons (pe_fld (pv 0) rfl) pa_nil)))))))), ?_⟩)
  · obtain ⟨a, l, n, rfl, _⟩ := h
    rfl
  · obtain ⟨a, l, n, rfl, hl, hn, k⟩ := h
    refine ⟨_, rfl, f_minutes T.toCls2 hl ⟨_, rfl, f_sand T.toCls2 hl ⟨_, rfl, f_water T.toCls2 hl ?_⟩⟩⟩
    refine ⟨_, rfl, _, _, rfl, rfl, ?_⟩
    refine ⟨_, rfl, f_overflow T.toCls2 hl ⟨_, rfl, f_gone T.toCls2 hl ?_⟩⟩
    exact ⟨{ l with water := l.water - n }, l5 rfl rfl (by show (l.water : Int) - (n : Int) = ((l.water - n : Nat) : Int); omega) rfl rfl, k⟩
end
end Hop

namespace Hop
open PySem PySem.Spec PyProof.Rows L2
open Kv334 (Load Ship none_)
/-- the addresses hold these loads -/
def LoadsAt (CL : Addr) (H : Hp) (as : List Addr) (g : Nat → Load) : Prop := ∀ (i : Nat) (b : Addr), as[i]? = some b → LoadAt CL H b (g i)
theorem LoadAt.past {CL : Addr} {H : Hp} {a p : Addr} {l : Load} {xs : List V} {o : HO} (h : LoadAt CL H a l) (hp : H p = some (.lst xs)) : LoadAt CL (upd H p o) a l := by
  obtain ⟨dx, e⟩ := h
  exact ⟨dx, by rw [upd_ne (ne_of e hp (by intro z; cases z))]; exact e⟩
theorem ShipAt.past {CS : Addr} {H : Hp} {a la p : Addr} {x : Ship} {t c : Nat} {xs : List V} {o : HO} (h : ShipAt CS H a x la t c) (hp : H p = some (.lst xs)) : ShipAt CS (upd H p o) a x la t c := by
  obtain ⟨dx, e⟩ := h
  exact ⟨dx, by rw [upd_ne (ne_of e hp (by intro z; cases z))]; exact e⟩
theorem LoadsAt.same {CL : Addr} {H H' : Hp} {as : List Addr} {g : Nat → Load} (h : LoadsAt CL H as g) (s : Same H H') : LoadsAt CL H' as g := fun i b e => (h i b e).same s
theorem Same.new {H : Hp} {p : Addr} {o : HO} (hp : H p = none) : Same H (upd H p o) := fun b u e => by
  rw [upd_ne (ne_of_none e hp)]
  exact e
theorem map_ref {as : List Addr} {i : Nat} {y : V} (h : (as.map V.ref)[i]? = some y) : ∃ b, as[i]? = some b ∧ y = .ref b := by
  rw [List.getElem?_map] at h
  cases e : as[i]? with
  | none => rw [e] at h; cases h
  | some b => rw [e] at h; exact ⟨b, rfl, (Option.some.inj h).symm⟩
theorem app_get {α : Type} {l : List α} {x y : α} {i : Nat} (h : (l ++ [x])[i]? = some y) : (l[i]? = some y) ∨ (i = l.length ∧ y = x) := by
  by_cases c : i < l.length
  · rw [List.getElem?_append_left c] at h
    exact .inl h
  · rw [List.getElem?_append_right (by omega)] at h
    have e : i - l.length = 0 := by
      cases q : i - l.length with
      | zero => rfl
      | succ n => rw [q] at h; simp at h
    rw [e] at h
    exact .inr ⟨by omega, (Option.some.inj h).symm⟩
/-- a new list of loads -/
def NewLoads (CL : Addr) (H : Hp) (n : Nat) (g : Nat → Load) (Q : VK) : Prop := ∀ (H' : Hp) (p : Addr) (as : List Addr), Same H H' → H p = none → H' p = some (.lst (as.map V.ref)) → as.length = n → LoadsAt CL H' as g → Q (.ref p) H'
def spOn (CL CS : Addr) : Sp := fun vs H Q _ => ∃ (a b la : Addr) (x : Ship) (t c n : Nat) (l : Load), vs = [.ref a, .ref b, .int n] ∧ ShipAt CS H a x la t c ∧ LoadAt CL H b l ∧ GoodShip x ∧ GoodLoad x l ∧ n ≤ 200 ∧ NewLoads CL H (n + 1) (fun i => x.minutes i l) Q
def spFrom (CL CS : Addr) : Sp := fun vs H Q _ => ∃ (a la : Addr) (x : Ship) (t c n : Nat), vs = [.ref a, .int n] ∧ ShipAt CS H a x la t c ∧ GoodShip x ∧ n ≤ 200 ∧ NewLoads CL H (n + 1) x.after Q
def spAllowed (CL CS : Addr) : Sp := fun vs H Q _ => ∃ (a la : Addr) (x : Ship) (t c : Nat), vs = [.ref a] ∧ ShipAt CS H a x la t c ∧ GoodShip x ∧ NewLoads CL H x.loads.length x.after Q
section
variable {P : Program} {w : World} {K : PySem.W.Frag} {mg : Str → Option Value} {base : Heap} {CL CS : Addr}
abbrev s_loads_on : Stmt := top 23
theorem sc_loads_on : FnScope ["ship", "load", "n", "loads", "minute"] ["ship", "load", "n"] (defScope s_loads_on) := ⟨rfl, rfl, rfl, by decide +kernel, rfl, by decide +kernel, by decide +kernel⟩
theorem ok_on {f : Addr} {fd : FuncData} (F : Fun K "loads_on" "loads_on" s_loads_on f fd) (T : Txt K mg CL CS) (D_behind_minute : Def P w K mg base 4 "behind_minute" (spMinute CL CS)) : FnOk P w K mg base CX0 5 f fd ["ship", "load", "n"] (spOn CL CS) := by
  refine F.ok sc_loads_on (fun vs H Q E h => ?_) (fun cdv A outer s H vs Q E hr h => ⟨_, (pss_cons (ps_set (i := 3) sc_loads_on.nd rfl (Or.inl rfl) (pe_lst (pa_cons (pv 1) pa_nil)))
     (pss_cons (ps_for PassesOwn.never rfl (pi_range1 rfl T.b_range (pa_cons (pv 2) pa_nil)) (pg_name (i := 4) sc_loads_on.nd rfl (Or.inl rfl))
     (pss_one (ps_expr (pe_bm PySem.F.plainAttrs_list PySem.F.slot_list_append PySem.F.type_list_append mt_append (pv 3) (pa_cons (call_def D_behind_minute (hr.mono (by decide)) rfl (pa_cons (pv 0) (pa_cons (pe_ix ix_list (pv 3) (pv 4) (fun _ _ => rfl)) pa_nil))) pa_nil)))))
     (pss_one (ps_ret (pv 3))))), ?_⟩)
  · obtain ⟨a, b, la, x, t, c, n, l, rfl, _⟩ := h
    rfl
  · obtain ⟨a, b, la, x, t, c, n, l, rfl, hs, hl, gs, gl, hn, k⟩ := h
    refine ⟨_, rfl, (by show 1 ≤ sizeLine; decide), fun p hp => ?_⟩
    refine ⟨_, rfl, (n : Int), rfl, by omega, by omega, ?_⟩
    refine for_range (lo := 0) (n := n) (fun i σ H' => ∃ (v : Option V) (as : List Addr), σ = [some (.ref a), some (.ref b), some (.int n), some (.ref p), v] ∧ H' p = some (.lst (as.map V.ref)) ∧ as.length = i + 1 ∧ LoadsAt CL H' as (fun i => x.minutes i l) ∧ Same H H') ?_ ?_ ?_
    · refine ⟨none, [b], rfl, upd_same, rfl, ?_, Same.new hp⟩
      intro i b' e
      cases i with
      | zero =>
        cases e
        exact hl.same (Same.new hp)
      | succ i => simp at e
    · rintro i σ H' hi ⟨v, as, rfl, hpl, hlen, hL, sm⟩
      obtain ⟨bi, hbi⟩ : ∃ bi, as[i]? = some bi := ⟨as[i]'(by omega), List.getElem?_eq_getElem (by omega)⟩
      have hbL := hL i bi hbi
      refine ⟨_, rfl, .inl ⟨rfl, _, SqL.of hpl⟩, ?_⟩
      refine ⟨_, rfl, _, rfl, _, rfl, p, _, _, .ref bi, rfl, rfl, SqL.of hpl, ?_, ?_⟩
      · have e0 : (0 : Int) + (i : Int) = (i : Int) := by omega
        show atI (as.map V.ref) (0 + (i : Int)) = some (.ref bi)
        rw [e0]
        refine atI_nat ?_
        rw [List.getElem?_map, hbi]
        rfl
      · refine ⟨a, bi, la, x, t, c, x.minutes i l, rfl, hs.same sm, hbL, gs, minutes_good gs i gl, fun H2 q s2 nq hq => ?_⟩
        have hpl2 := s2 _ _ hpl
        refine ⟨p, _, _, rfl, rfl, hpl2, ?_, ?_⟩
        · rw [List.length_map]
          exact Nat.lt_of_le_of_lt (by omega : as.length ≤ 1000) (by decide)
        · refine ⟨_, as ++ [q], rfl, ?_, ?_, ?_, ?_⟩
          · rw [upd_same, List.map_append]
            rfl
          · rw [List.length_append]
            show as.length + 1 = i + 1 + 1
            omega
          · intro j b' e
            rcases app_get e with e1 | ⟨e1, rfl⟩
            · exact ((hL j b' e1).same s2).past hpl2
            · rw [e1, hlen]
              show LoadAt CL _ _ (x.minutes (i + 1) l)
              rw [minutes_succ]
              exact hq.past hpl2
          · intro b' o e
            rw [upd_ne (ne_of_none e hp)]
            exact s2 _ _ (sm _ _ e)
    · rintro σ H' ⟨v, as, rfl, hpl, hlen, hL, sm⟩
      exact ⟨_, rfl, k H' p as sm hp hpl hlen hL⟩
abbrev s_loads_from_empty : Stmt := top 24
theorem sc_loads_from_empty : FnScope ["ship", "n"] ["ship", "n"] (defScope s_loads_from_empty) := ⟨rfl, rfl, rfl, by decide +kernel, rfl, by decide +kernel, by decide +kernel⟩
theorem ok_from {f : Addr} {fd : FuncData} (F : Fun K "loads_from_empty" "loads_from_empty" s_loads_from_empty f fd) (D_empty_load : Def P w K mg base 3 "empty_load" (spEmpty CL)) (D_loads_on : Def P w K mg base 5 "loads_on" (spOn CL CS)) : FnOk P w K mg base CX0 6 f fd ["ship", "n"] (spFrom CL CS) := by
  refine F.ok sc_loads_from_empty (fun vs H Q E h => ?_) (fun cdv A outer s H vs Q E hr h => ⟨_, (pss_one (ps_ret (call_def D_loads_on (hr.mono (by decide)) rfl (pa_cons (pv 0) (pa_cons (call_def0 D_empty_load (hr.mono (by decide)) rfl) (pa_cons (pv 1) pa_nil)))))), ?_⟩)
  · obtain ⟨a, la, x, t, c, n, rfl, _⟩ := h
    rfl
  · obtain ⟨a, la, x, t, c, n, rfl, hs, gs, hn, k⟩ := h
    refine ⟨_, rfl, rfl, fun H1 q s1 nq hq => ⟨_, rfl, ?_⟩⟩
    refine ⟨a, q, la, x, t, c, n, none_, rfl, hs.same s1, hq, gs, none_good x, hn, fun H2 p as s2 np hp hlen hL => ?_⟩
    exact k H2 p as (s1.trans s2) (s1.free np) hp hlen hL
abbrev s_allowed_loads : Stmt := top 26
theorem sc_allowed_loads : FnScope ["ship", "allowed", "load"] ["ship"] (defScope s_allowed_loads) := ⟨rfl, rfl, rfl, by decide +kernel, rfl, by decide +kernel, by decide +kernel⟩
theorem loads_more {x : Ship} {i : Nat} (hi : i < 201) (h : ∀ j, j < i → x.may (x.after j) = true) : (x.may (x.after i) = false → x.loads.length = i) := by
  intro hf
  rw [loads_take]
  have key : ∀ (l : List Load) (i : Nat), (∀ (j : Nat) (y : Load), j < i → l[j]? = some y → x.may y = true) → (∀ y, l[i]? = some y → x.may y = false) → i < l.length → (l.takeWhile x.may).length = i := by
    intro l
    induction l with
    | nil => intro i _ _ hl; simp at hl
    | cons a r ih =>
      intro i h1 h2 hl
      cases i with
      | zero =>
        have e := h2 a rfl
        rw [List.takeWhile_cons, if_neg (by rw [e]; exact Bool.false_ne_true)]
        rfl
      | succ i =>
        have e := h1 0 a (Nat.succ_pos _) rfl
        rw [List.takeWhile_cons, if_pos e]
        exact congrArg Nat.succ (ih i (fun j y hj hy => h1 (j + 1) y (by omega) hy) (fun y hy => h2 y hy) (by simpa using hl))
  refine key _ i (fun j y hj hy => ?_) (fun y hy => ?_) (by rw [on_length]; exact hi)
  · rw [on_get (by omega)] at hy
    cases hy
    exact h j hj
  · rw [on_get hi] at hy
    cases hy
    exact hf
theorem loads_all {x : Ship} (h : ∀ j, j < 201 → x.may (x.after j) = true) : x.loads.length = 201 := by
  rw [loads_take]
  have key : ∀ (l : List Load), (∀ (j : Nat) (y : Load), l[j]? = some y → x.may y = true) → (l.takeWhile x.may).length = l.length := by
    intro l
    induction l with
    | nil => intro _; rfl
    | cons a r ih =>
      intro h1
      rw [List.takeWhile_cons, if_pos (h1 0 a rfl)]
      exact congrArg Nat.succ (ih fun j y hy => h1 (j + 1) y hy)
  rw [key _ (fun j y hy => ?_), on_length]
  have hj : j < 201 := by
    have := (List.getElem?_eq_some_iff.mp hy).1
    rw [on_length] at this
    exact this
  rw [on_get hj] at hy
  cases hy
  exact h j hj
theorem ok_allowed {f : Addr} {fd : FuncData} (F : Fun K "allowed_loads" "allowed_loads" s_allowed_loads f fd) (T : Txt K mg CL CS) (D_loads_from_empty : Def P w K mg base 6 "loads_from_empty" (spFrom CL CS)) (D_may_carry : Def P w K mg base 2 "may_carry" (spMay CL CS)) : FnOk P w K mg base CX0 7 f fd ["ship"] (spAllowed CL CS) := by
  refine F.ok sc_allowed_loads (fun vs H Q E h => ?_) (fun cdv A outer s H vs Q E hr h => ⟨_, (pss_cons (ps_set (i := 1) sc_allowed_loads.nd rfl (Or.inl rfl) (pe_lst pa_nil))
    (pss_cons (ps_for PassesOwn.never rfl (pi_list (call_def D_loads_from_empty (hr.mono (by decide)) rfl (pa_cons (pv 0) (pa_cons (gint T.c_MOST_MINUTES rfl) pa_nil)))) (pg_name (i := 2) sc_allowed_loads.nd rfl (Or.inl rfl))
    (pss_cons (ps_if (pt_not (pt_val (call_def D_may_carry (hr.mono (by decide)) rfl (pa_cons (pv 0) (pa_cons (pv 2) pa_nil)))))
    (pss_one ps_break)
    pss_nil)
    (pss_one (ps_expr (pe_bm PySem.F.plainAttrs_list PySem.F.slot_list_append PySem.F.type_list_append mt_append (pv 1) (pa_cons (pv 2) pa_nil))))))
    (pss_one (ps_ret (pv 1))))), ?_⟩)
  · obtain ⟨a, la, x, t, c, rfl, _⟩ := h
    rfl
  · obtain ⟨a, la, x, t, c, rfl, hs, gs, k⟩ := h
    refine ⟨(by show 0 ≤ sizeLine; decide), fun p hp => ?_⟩
    have s0 : Same H (upd H p (.lst [])) := Same.new hp
    refine ⟨_, rfl, a, la, x, t, c, 200, rfl, hs.same s0, gs, Nat.le_refl _, fun H1 q as s1 nq hq hlen hL => ?_⟩
    have hp1 : H1 p = some (.lst []) := s1 _ _ upd_same
    have hpq : q ≠ p := by
      rintro rfl
      rw [upd_same] at nq
      cases nq
    refine ⟨q, rfl, ⟨_, SqL.of hq⟩, ?_⟩
    refine for_list (K := K) (a := q) (xs := as.map V.ref) (fun i σ H' => ∃ v : Option V, σ = [some (.ref a), some (.ref p), v] ∧ H' p = some (.lst ((as.take i).map V.ref)) ∧ (∀ b o, H1 b = some o → b ≠ p → H' b = some o) ∧ ∀ j, j < i → x.may (x.after j) = true) ?_ ?_ ?_ ?_
    · exact ⟨none, rfl, hp1, fun b o e _ => e, fun j hj => absurd hj (Nat.not_lt_zero _)⟩
    · rintro i σ H' _ ⟨v, rfl, h1, h2, h3⟩
      exact SqL.of (h2 _ _ hq hpq)
    · rintro i y σ H' hi ⟨v, rfl, h1, h2, h3⟩
      obtain ⟨b, hb, rfl⟩ := map_ref hi
      have hilt : i < 201 := by
        have := (List.getElem?_eq_some_iff.mp hb).1
        omega
      have nep : ∀ b' l', LoadAt CL H1 b' l' → LoadAt CL H' b' l' := fun b' l' ⟨dx, e⟩ => ⟨dx, h2 _ _ e (ne_of e hp1 (by intro z; cases z))⟩
      have hsh : ShipAt CS H' a x la t c := by
        obtain ⟨dx, e⟩ := (hs.same s0).same s1
        exact ⟨dx, h2 _ _ e (ne_of e hp1 (by intro z; cases z))⟩
      refine ⟨_, rfl, _, rfl, a, b, la, x, t, c, x.after i, rfl, hsh, nep _ _ (hL i b hb), _, rfl, ?_⟩
      refine if_both (fun hm => ?_) (fun hm => ?_)
      · have hm' : x.may (x.after i) = false := by simpa using hm
        have hln := loads_more hilt h3 hm'
        refine ⟨_, rfl, k H' p (as.take i) ?_ hp h1 ?_ ?_⟩
        · intro b' o e
          exact h2 _ _ (s1 _ _ (s0 _ _ e)) (ne_of_none e hp)
        · rw [List.length_take, hln]
          omega
        · intro j b' e
          have hj : j < i := by
            have := (List.getElem?_eq_some_iff.mp e).1
            rw [List.length_take] at this
            omega
          rw [List.getElem?_take_of_lt hj] at e
          exact nep _ _ (hL j b' e)
      · have hm' : x.may (x.after i) = true := by simpa using hm
        refine ⟨_, rfl, .inl ⟨rfl, _, SqL.of h1⟩, _, rfl, p, _, _, rfl, rfl, h1, ?_, ?_⟩
        · rw [List.length_map, List.length_take]
          exact Nat.lt_of_le_of_lt (by omega : min i as.length ≤ 1000) (by decide)
        · refine ⟨_, rfl, ?_, ?_, ?_⟩
          · rw [upd_same, List.take_add_one, hb, List.map_append]
            rfl
          · intro b' o e hb'
            rw [upd_ne hb']
            exact h2 _ _ e hb'
          · intro j hj
            by_cases c : j = i
            · rw [c]
              exact hm'
            · exact h3 j (by omega)
    · rintro σ H' ⟨v, rfl, h1, h2, h3⟩
      rw [List.length_map, hlen] at h1 h3
      have hln := loads_all h3
      have nep : ∀ b' l', LoadAt CL H1 b' l' → LoadAt CL H' b' l' := fun b' l' ⟨dx, e⟩ => ⟨dx, h2 _ _ e (ne_of e hp1 (by intro z; cases z))⟩
      refine ⟨_, rfl, k H' p (as.take 201) ?_ hp h1 ?_ ?_⟩
      · intro b' o e
        exact h2 _ _ (s1 _ _ (s0 _ _ e)) (ne_of_none e hp)
      · rw [List.length_take, hln]
        omega
      · intro j b' e
        have hj : j < 201 := by
          have := (List.getElem?_eq_some_iff.mp e).1
          rw [List.length_take] at this
          omega
        rw [List.getElem?_take_of_lt hj] at e
        exact nep _ _ (hL j b' e)
end
end Hop

namespace Hop
open PySem PySem.Spec PyProof.Rows L2
open Kv334 (Load Ship none_)
def bestOf (x : Ship) (rest i : Nat) : Nat × Nat := (List.range i).foldl (fun b n => if b.2 * (n + rest) < (x.loads.getD n none_).sand * (b.1 + rest) then (n, (x.loads.getD n none_).sand) else b) (0, 0)
theorem bestOf_succ {x : Ship} {rest i : Nat} (h : i < x.loads.length) : bestOf x rest (i + 1) = if (bestOf x rest i).2 * (i + rest) < (x.after i).sand * ((bestOf x rest i).1 + rest) then (i, (x.after i).sand) else bestOf x rest i := by
  show (List.range (i + 1)).foldl _ (0, 0) = _
  rw [List.range_succ, List.foldl_append]
  show (if (bestOf x rest i).2 * (i + rest) < (x.loads.getD i none_).sand * ((bestOf x rest i).1 + rest) then (i, (x.loads.getD i none_).sand) else bestOf x rest i) = _
  rw [loads_getD h]
theorem after_good {x : Ship} (gs : GoodShip x) (n : Nat) : GoodLoad x (x.after n) := minutes_good gs n (none_good x)
theorem after_sand {x : Ship} (gs : GoodShip x) (n : Nat) : (x.after n).sand ≤ 1000000 := by
  have h := (after_good gs n).room
  have := gs.room2
  omega
def spBest (CL CS : Addr) : Sp := fun vs H Q _ => ∃ (a la : Addr) (x : Ship) (t c rest : Nat), vs = [.ref a, .int rest] ∧ ShipAt CS H a x la t c ∧ GoodShip x ∧
  ∀ (H' : Hp) (b : Addr) (m : Nat), Same H H' → LoadAt CL H' b (x.after m) → x.best rest = (m, (x.after m).sand) → m ≤ 200 → Q (.ref b) H'
section
variable {P : Program} {w : World} {K : PySem.W.Frag} {mg : Str → Option Value} {base : Heap} {CL CS : Addr}
abbrev s_best_load : Stmt := top 27
theorem sc_best_load : FnScope ["ship", "rest", "best", "load"] ["ship", "rest"] (defScope s_best_load) := ⟨rfl, rfl, rfl, by decide +kernel, rfl, by decide +kernel, by decide +kernel⟩
theorem ok_best {f : Addr} {fd : FuncData} (F : Fun K "best_load" "best_load" s_best_load f fd) (T : Txt K mg CL CS) (D_empty_load : Def P w K mg base 3 "empty_load" (spEmpty CL)) (D_allowed_loads : Def P w K mg base 7 "allowed_loads" (spAllowed CL CS)) : FnOk P w K mg base CX0 8 f fd ["ship", "rest"] (spBest CL CS) := by
  refine F.ok sc_best_load (fun vs H Q E h => ?_) (fun cdv A outer s H vs Q E hr h => ⟨_, (pss_cons (ps_set (i := 2) sc_best_load.nd rfl (Or.inl rfl) (call_def0 D_empty_load (hr.mono (by decide)) rfl))
    (pss_cons (ps_for PassesOwn.never rfl (pi_list (call_def D_allowed_loads (hr.mono (by decide)) rfl (pa_cons (pv 0) pa_nil))) (pg_name (i := 3) sc_best_load.nd rfl (Or.inl rfl))
    (pss_one (ps_if (pt_cmpR op_gt (pe_op op_mul (pe_fld (pv 3) rfl) (pe_op op_add (pe_fld (pv 2) rfl) (pv 1))) (pe_op op_mul (pe_fld (pv 2) rfl) (pe_op op_add (pe_fld (pv 3) rfl) (pv 1))) (nomark _))
    (pss_one (ps_set (i := 2) sc_best_load.nd rfl (Or.inl rfl) (pv 3)))
    pss_nil)))
    (pss_one (ps_ret (pv 2))))), ?_⟩)
  · obtain ⟨a, la, x, t, c, rest, rfl, _⟩ := h
    rfl
  · obtain ⟨a, la, x, t, c, rest, rfl, hs, gs, k⟩ := h
    refine ⟨rfl, fun H1 b0 s1 n0 h0 => ?_⟩
    refine ⟨_, rfl, a, la, x, t, c, rfl, hs.same s1, gs, fun H2 q as s2 nq hq hlen hL => ?_⟩
    refine ⟨q, rfl, ⟨_, SqL.of hq⟩, ?_⟩
    refine for_list (K := K) (a := q) (xs := as.map V.ref) (fun i σ H' => H' = H2 ∧ ∃ (v : Option V) (b : Addr) (m : Nat), σ = [some (.ref a), some (.int rest), some (.ref b), v] ∧ LoadAt CL H2 b (x.after m) ∧ bestOf x rest i = (m, (x.after m).sand) ∧ m ≤ 200) ?_ ?_ ?_ ?_
    · exact ⟨rfl, none, b0, 0, rfl, h0.same s2, rfl, by omega⟩
    · rintro i σ H' _ ⟨rfl, _⟩
      exact SqL.of hq
    · rintro i y σ H' hi ⟨rfl, v, b, m, rfl, hb, hbest, hm⟩
      obtain ⟨bi, hbi, rfl⟩ := map_ref hi
      have hil : i < x.loads.length := by
        have := (List.getElem?_eq_some_iff.mp hbi).1
        omega
      have h201 := loads_len x
      have hli := hL i bi hbi
      have a1 := after_sand gs i
      have a2 := after_sand gs m
      refine ⟨_, rfl, f_sand T.toCls2 hli ⟨_, rfl, f_minutes T.toCls2 hb ?_⟩⟩
      refine ⟨_, rfl, _, _, rfl, rfl, _, _, rfl, rfl, .inl ⟨by omega, by omega⟩, ?_⟩
      refine ⟨_, rfl, f_sand T.toCls2 hb ⟨_, rfl, f_minutes T.toCls2 hli ?_⟩⟩
      refine ⟨_, rfl, _, _, rfl, rfl, _, _, rfl, rfl, .inl ⟨by omega, by omega⟩, ?_⟩
      refine ⟨_, _, rfl, rfl, _, rfl, ?_⟩
      have hstep := bestOf_succ (rest := rest) hil
      rw [hbest] at hstep
      have ec : (((x.after m).sand : Int) * (((x.after i).filled : Int) + (rest : Int)) < ((x.after i).sand : Int) * (((x.after m).filled : Int) + (rest : Int))) ↔ (x.after m).sand * (i + rest) < (x.after i).sand * (m + rest) := by
        rw [after_filled, after_filled, ← Int.natCast_add, ← Int.natCast_add, ← Int.natCast_mul, ← Int.natCast_mul]
        exact Int.ofNat_lt
      by_cases c : (x.after m).sand * (i + rest) < (x.after i).sand * (m + rest)
      · refine if_true_of (decide_eq_true (ec.mpr c)) ?_
        refine ⟨_, rfl, rfl, _, bi, i, rfl, hli, ?_, by omega⟩
        rw [hstep]
        exact if_pos c
      · refine if_false_of (decide_eq_false fun z => c (ec.mp z)) ?_
        refine ⟨rfl, _, b, m, rfl, hb, ?_, hm⟩
        rw [hstep]
        exact if_neg c
    · rintro σ H' ⟨rfl, v, b, m, rfl, hb, hbest, hm⟩
      rw [List.length_map, hlen] at hbest
      exact ⟨_, rfl, k H' b m (s1.trans s2) hb hbest hm⟩
def spWhole (CL : Addr) : Sp := fun vs H Q _ => ∃ (a : Addr) (l : Load), vs = [.ref a] ∧ LoadAt CL H a l ∧ Q (.int ((l.weight / 100 : Nat) : Int)) H
abbrev s_whole_tons : Stmt := top 17
theorem sc_whole_tons : FnScope ["load"] ["load"] (defScope s_whole_tons) := ⟨rfl, rfl, rfl, by decide +kernel, rfl, by decide +kernel, by decide +kernel⟩
theorem ok_whole {f : Addr} {fd : FuncData} (F : Fun K "whole_tons" "whole_tons" s_whole_tons f fd) (T : Txt K mg CL CS) (D_hundredths_of_tons : Def P w K mg base 1 "hundredths_of_tons" (spTons CL)) : FnOk P w K mg base CX0 2 f fd ["load"] (spWhole CL) := by
  refine F.ok sc_whole_tons (fun vs H Q E h => ?_) (fun cdv A outer s H vs Q E hr h => ⟨_, (pss_one (ps_ret (pe_op op_fdiv (call_def D_hundredths_of_tons (hr.mono (by decide)) rfl (pa_cons (pv 0) pa_nil)) (gint T.c_HUNDREDTHS rfl)))), ?_⟩)
  · obtain ⟨a, l, rfl, _⟩ := h
    rfl
  · obtain ⟨a, l, rfl, hl, k⟩ := h
    refine ⟨_, rfl, a, l, rfl, hl, ?_⟩
    exact ⟨_, _, rfl, rfl, ⟨by decide, by decide⟩, qi k (by omega)⟩
def spLoadN (CL CS : Addr) : Sp := fun vs H Q _ => ∃ (a la : Addr) (x : Ship) (t c n : Nat), vs = [.ref a, .int n] ∧ ShipAt CS H a x la t c ∧ GoodShip x ∧ n ≤ 200 ∧ ∀ (H' : Hp) (b : Addr), Same H H' → LoadAt CL H' b (x.after n) → Q (.ref b) H'
abbrev s_load_from_empty : Stmt := top 25
theorem sc_load_from_empty : FnScope ["ship", "n"] ["ship", "n"] (defScope s_load_from_empty) := ⟨rfl, rfl, rfl, by decide +kernel, rfl, by decide +kernel, by decide +kernel⟩
theorem ok_loadN {f : Addr} {fd : FuncData} (F : Fun K "load_from_empty" "load_from_empty" s_load_from_empty f fd) (D_loads_from_empty : Def P w K mg base 6 "loads_from_empty" (spFrom CL CS)) : FnOk P w K mg base CX0 7 f fd ["ship", "n"] (spLoadN CL CS) := by
  refine F.ok sc_load_from_empty (fun vs H Q E h => ?_) (fun cdv A outer s H vs Q E hr h => ⟨_, (pss_one (ps_ret (pe_ix ix_list (call_def D_loads_from_empty (hr.mono (by decide)) rfl (pa_cons (pv 0) (pa_cons (pv 1) pa_nil))) (pv 1) (fun _ _ => rfl)))), ?_⟩)
  · obtain ⟨a, la, x, t, c, n, rfl, _⟩ := h
    rfl
  · obtain ⟨a, la, x, t, c, n, rfl, hs, gs, hn, k⟩ := h
    refine ⟨_, rfl, _, rfl, a, la, x, t, c, n, rfl, hs, gs, hn, fun H1 pl as s1 npl hpl has hL => ?_⟩
    obtain ⟨b, hb⟩ : ∃ b, as[n]? = some b := ⟨as[n]'(by omega), List.getElem?_eq_getElem (by omega)⟩
    refine ⟨_, rfl, pl, _, _, .ref b, rfl, rfl, SqL.of hpl, ?_, k H1 b s1 (hL n b hb)⟩
    refine atI_nat ?_
    rw [List.getElem?_map, hb]
    rfl
end
end Hop

namespace Hop
open PySem PySem.Spec PyProof.Rows L2
open Kv334 (Load Ship none_)
def RecAt (CL CS : Addr) (H : Hp) (a : Addr) (r : R) : Prop := ∃ la, ShipAt CS H a r.x la r.t r.c ∧ LoadAt CL H la r.l
theorem RecAt.same {CL CS : Addr} {H H' : Hp} {a : Addr} {r : R} (h : RecAt CL CS H a r) (s : Same H H') : RecAt CL CS H' a r := by
  obtain ⟨la, h1, h2⟩ := h
  exact ⟨la, h1.same s, h2.same s⟩
/-- all but the ship at a is as it was -/
def Keep (a : Addr) (H H' : Hp) : Prop := ∀ b o, H b = some o → b ≠ a → H' b = some o
theorem keep_of {a : Addr} {H H' : Hp} (s : Same H H') : Keep a H H' := fun b o e _ => s b o e
theorem Keep.trans {a : Addr} {H H1 H2 : Hp} (s : Keep a H H1) (s' : Keep a H1 H2) : Keep a H H2 := fun b o e n => s' b o (s b o e n) n
theorem Keep.upd (a : Addr) (H : Hp) (o : HO) : Keep a H (upd H a o) := fun b u e n => by
  rw [upd_ne n]
  exact e
/-- a call's answer about one ship: the ship then, the numbers -/
def SA (CL CS : Addr) (H : Hp) (a : Addr) (ro : R × List Int) (Q : VK) : Prop := ∀ (H' : Hp) (p : Addr), Keep a H H' → RecAt CL CS H' a ro.1 → H p = none → H' p = some (.lst (ro.2.map V.int)) → Q (.ref p) H'
theorem SA.out {CL CS : Addr} {H0 H : Hp} {a p : Addr} {ro : R × List Int} {Q : VK} {vs : List V} (k : SA CL CS H0 a ro Q) (f : Keep a H0 H) (hr : RecAt CL CS H a ro.1) (np : H p = none) (e : vs = ro.2.map V.int) : Q (.ref p) (upd H p (.lst vs)) := by
  have sm : Same H (L2.upd H p (.lst vs)) := Same.new np
  refine k _ p (f.trans (keep_of sm)) (hr.same sm) ?_ ?_
  · cases q : H0 p with
    | none => rfl
    | some o =>
      by_cases c : p = a
      · obtain ⟨la, ⟨dx, z⟩, _⟩ := hr
        rw [← c, np] at z
        cases z
      · rw [f p o q c] at np
        cases np
  · rw [← e]
    exact upd_same
/-- the ship unchanged -/
theorem SA.say {CL CS : Addr} {H0 H : Hp} {a p : Addr} {r : R} {out : List Int} {Q : VK} {vs : List V} (k : SA CL CS H0 a (r, out) Q) (h0 : RecAt CL CS H0 a r) (s : Same H0 H) (np : H p = none) (e : vs = out.map V.int) : Q (.ref p) (upd H p (.lst vs)) := k.out (keep_of s) (h0.same s) np e
def NumsAt (H : Hp) (q : Addr) (ns : List Nat) : Prop := H q = some (.lst (ns.map fun (n : Nat) => V.int (n : Int)))
/-- a call on a ship, with these numbers -/
def spS (CL CS : Addr) (n : Nat) (g : R → List Nat → R × List Int) : Sp := fun vs H Q _ => ∃ (a q : Addr) (r : R) (ns : List Nat), vs = [.ref a, .ref q] ∧ RecAt CL CS H a r ∧ GoodR r ∧ NumsAt H q ns ∧ ns.length = n ∧ SA CL CS H a (g r ns) Q
def spOut : Sp := fun vs H Q _ => ∃ n lo hi : Int, vs = [.int n, .int lo, .int hi] ∧ Q (.bl (decide (n < lo) || decide (hi < n))) H
structure Txt2 (K : PySem.W.Frag) (mg : Str → Option Value) (CL CS : Addr) : Prop extends Txt K mg CL CS where
  c_NO_SUCH_SHIP : GInt mg "NO_SUCH_SHIP" (-2)
  c_NONE_THERE : GInt mg "NONE_THERE" (-6)
  c_NOT_BEGUN : GInt mg "NOT_BEGUN" (-11)
  c_TOO_LITTLE : GInt mg "TOO_LITTLE" (-12)
  c_NOT_NOW : GInt mg "NOT_NOW" (-16)
  c_OUT_OF_RANGE : GInt mg "OUT_OF_RANGE" (-22)
  c_TOO_MANY : GInt mg "TOO_MANY" (-28)
  c_NEVER : GInt mg "NEVER" (-33)
  c_TOO_HEAVY : GInt mg "TOO_HEAVY" (-41)
  c_MOST_SHIPS : GInt mg "MOST_SHIPS" 4
  c_MOST_POURED : GInt mg "MOST_POURED" 10000
  c_MOST_REST : GInt mg "MOST_REST" 2000
  c_MOST_DAY : GInt mg "MOST_DAY" 100000
  c_MOST_REACHED : GInt mg "MOST_REACHED" 10000
  c_MINUTES_OF_HOUR : GInt mg "MINUTES_OF_HOUR" 60
  c_LEAST_PAIRS : GInt mg "LEAST_PAIRS" 2
  c_MOST_PAIRS : GInt mg "MOST_PAIRS" 10
  c_MOST_IN_TABLE : GInt mg "MOST_IN_TABLE" 60000
  c_BEGIN : GInt mg "BEGIN" 0
  b_len : mg "len" = none
  b_all : mg "all" = none
  b_any : mg "any" = none
  b_zip : mg "zip" = none
  b_sum : mg "sum" = none
  b_enumerate : mg "enumerate" = none
section
variable {P : Program} {w : World} {K : PySem.W.Frag} {mg : Str → Option Value} {base : Heap} {CL CS : Addr}
abbrev s_outside : Stmt := top 50
theorem sc_outside : FnScope ["number", "least", "most"] ["number", "least", "most"] (defScope s_outside) := ⟨rfl, rfl, rfl, by decide +kernel, rfl, by decide +kernel, by decide +kernel⟩
theorem ok_outside {f : Addr} {fd : FuncData} (F : Fun K "outside" "outside" s_outside f fd) : FnOk P w K mg base CX0 1 f fd ["number", "least", "most"] spOut := by
  refine F.ok sc_outside (fun vs H Q E h => ?_) (fun cdv A outer s H vs Q E hr h => ⟨_, (pss_one (ps_ret (pe_or (pe_cmpR op_lt (pv 0) (pv 1) (nomark _)) (pe_one (pe_cmpR op_gt (pv 0) (pv 2) (nomark _)))))), ?_⟩)
  · obtain ⟨n, lo, hi, rfl, _⟩ := h
    rfl
  · obtain ⟨n, lo, hi, rfl, k⟩ := h
    refine ⟨_, rfl, _, rfl, _, _, rfl, rfl, _, rfl, ?_⟩
    refine if_both (fun c => ?_) (fun c => ?_)
    · rw [c] at k
      exact k
    · rw [c] at k
      exact ⟨_, rfl, _, rfl, _, _, rfl, rfl, k⟩
abbrev s_answer_dump : Stmt := top 55
theorem sc_answer_dump : FnScope ["ship", "numbers", "sand"] ["ship", "numbers"] (defScope s_answer_dump) := ⟨rfl, rfl, rfl, by decide +kernel, rfl, by decide +kernel, by decide +kernel⟩
theorem ship_put_load (x : Ship) (la lb : Addr) (t c : Nat) : putF "load" (.ref lb) (sF x la t c) = sF x lb t c := by
  simp only [putF, sF]
  repeat (first | rfl | rw [if_neg (by decide +kernel)])
theorem ship_put_trips (x : Ship) (la : Addr) (t c n : Nat) : putF "trips" (.int n) (sF x la t c) = sF x la n c := by
  simp only [putF, sF]
  repeat (first | rfl | rw [if_neg (by decide +kernel)])
theorem ship_put_carried (x : Ship) (la : Addr) (t c n : Nat) : putF "carried" (.int n) (sF x la t c) = sF x la t n := by
  simp only [putF, sF]
  repeat (first | rfl | rw [if_neg (by decide +kernel)])
theorem ship_put_flow (x : Ship) (la : Addr) (t c n : Nat) : putF "flow" (.int n) (sF x la t c) = sF { x with flow := n } la t c := by
  simp only [putF, sF]
  repeat (first | rfl | rw [if_neg (by decide +kernel)])
theorem ship_put_solid (x : Ship) (la : Addr) (t c n : Nat) : putF "solid" (.int n) (sF x la t c) = sF { x with solid := n } la t c := by
  simp only [putF, sF]
  repeat (first | rfl | rw [if_neg (by decide +kernel)])
theorem ok_dump {f : Addr} {fd : FuncData} (F : Fun K "answer_dump" "answer_dump" s_answer_dump f fd) (T : Txt2 K mg CL CS) (D_empty_load : Def P w K mg base 3 "empty_load" (spEmpty CL)) : FnOk P w K mg base CX0 9 f fd ["ship", "numbers"] (spS CL CS 0 fun r _ => mDump r) := by
  refine F.ok sc_answer_dump (fun vs H Q E h => ?_) (fun cdv A outer s H vs Q E hr h => ⟨_, (pss_cons (ps_if (pt_cmpR op_eq (pe_fld (pe_fld (pv 0) rfl) rfl) pe_int (nomark _))
     (pss_one (ps_ret (pe_lst (pa_cons (gint T.c_NONE_THERE rfl) pa_nil))))
     pss_nil)
     (pss_cons (ps_set (i := 2) sc_answer_dump.nd rfl (Or.inl rfl) (pe_fld (pe_fld (pv 0) rfl) rfl))
     (pss_cons (ps_fld (pv 0) (call_def0 D_empty_load (hr.mono (by decide)) rfl) rfl)
     (pss_cons (ps_fld (pv 0) (pe_op op_add (pe_fld (pv 0) rfl) pe_int) rfl)
     (pss_cons (ps_fld (pv 0) (pe_op op_add (pe_fld (pv 0) rfl) (pv 2)) rfl)
     (pss_one (ps_ret (pe_lst (pa_cons (pe_op op_fdiv (pv 2) (gint T.c_HUNDREDTHS rfl)) (pa_cons (pe_op op_mod (pv 2) (gint T.c_HUNDREDTHS rfl)) pa_nil)))))))))), ?_⟩)
  · obtain ⟨a, q, r, ns, rfl, _⟩ := h
    rfl
  · obtain ⟨a, q, r, ns, rfl, hR, gr, hn, hlen, k⟩ := h
    obtain ⟨la, hs, hl⟩ := id hR
    refine ⟨_, rfl, f_load T.toCls2 hs (f_minutes T.toCls2 hl ?_)⟩
    refine ⟨rfl, _, rfl, ?_⟩
    by_cases hz : r.l.filled = 0
    · refine if_true_of (decide_eq_true (by rw [hz]; rfl)) ?_
      refine ⟨(by show 1 ≤ sizeLine; decide), fun p np => ?_⟩
      have e : mDump r = (r, [-6]) := if_pos hz
      rw [show (fun (r : R) (_ : List Nat) => mDump r) r ns = (r, [-6]) from e] at k
      exact k.say hR (Same.refl _) np rfl
    · refine if_false_of (decide_eq_false (fun z => hz (by injection z with z; exact Int.ofNat.inj z))) ?_
      refine ⟨_, rfl, f_load T.toCls2 hs (f_sand T.toCls2 hl ?_)⟩
      refine ⟨rfl, fun H1 lb s1 nb hb => ?_⟩
      obtain ⟨dx, hs1⟩ := hs.same s1
      refine ⟨_, rfl, a, CS, dx, _, rfl, hs1, T.cs, T.s7, (by show 9 < 1000; decide), ?_⟩
      rw [ship_put_load]
      have hsA : ShipAt CS (upd H1 a (.ins CS dx (sF r.x lb r.t r.c))) a r.x lb r.t r.c := ⟨dx, upd_same⟩
      refine ⟨_, rfl, f_trips T.toCls2 hsA ?_⟩
      refine ⟨_, _, rfl, rfl, _, rfl, a, CS, dx, _, rfl, upd_same, T.cs, T.s8, (by show 9 < 1000; decide), ?_⟩
      rw [upd_upd]
      have e1 : (r.t : Int) + 1 = ((r.t + 1 : Nat) : Int) := by omega
      dsimp only
      rw [e1, ship_put_trips]
      have hsB : ShipAt CS (upd H1 a (.ins CS dx (sF r.x lb (r.t + 1) r.c))) a r.x lb (r.t + 1) r.c := ⟨dx, upd_same⟩
      refine ⟨_, rfl, f_carried T.toCls2 hsB ?_⟩
      refine ⟨_, rfl, _, _, rfl, rfl, _, rfl, a, CS, dx, _, rfl, upd_same, T.cs, T.s9, (by show 9 < 1000; decide), ?_⟩
      rw [upd_upd]
      have e2 : (r.c : Int) + (r.l.sand : Int) = ((r.c + r.l.sand : Nat) : Int) := by omega
      dsimp only
      rw [e2, ship_put_carried]
      refine ⟨_, rfl, _, _, rfl, rfl, ⟨by decide, by decide⟩, ?_⟩
      refine ⟨_, rfl, _, _, rfl, rfl, (by show (0 : Int) < 100; decide), ?_⟩
      refine ⟨(by show 2 ≤ sizeLine; decide), fun p np => ?_⟩
      have e : mDump r = (⟨r.x, none_, r.t + 1, r.c + r.l.sand⟩, [((r.l.sand / 100 : Nat) : Int), ((r.l.sand % 100 : Nat) : Int)]) := if_neg hz
      rw [show (fun (r : R) (_ : List Nat) => mDump r) r ns = _ from e] at k
      refine k.out ((keep_of s1).trans (Keep.upd _ _ _)) ⟨lb, ⟨dx, upd_same⟩, ?_⟩ np rfl
      obtain ⟨dl, hb'⟩ := hb
      refine ⟨dl, ?_⟩
      have nea : lb ≠ a := by
        rintro rfl
        rw [hb'] at hs1
        injection hs1 with z
        injection z with z1 z2 z3
        exact absurd z3 (by unfold lF sF; intro q; injection q with q1 q2; injection q1 with q3 q4; exact absurd q3 (by decide +kernel))
      rw [upd_ne nea]
      exact hb'
end
end Hop

namespace Hop
open PySem PySem.Spec PyProof.Rows L2
open Kv334 (Load Ship none_)
theorem find_at {α : Type} {p : α → Bool} : ∀ {l : List α} {i : Nat} {y : α}, l[i]? = some y → p y = true → (∀ (j : Nat) (z : α), j < i → l[j]? = some z → p z = false) → l.find? p = some y
  | [], i, y, h, _, _ => by simp at h
  | a :: r, 0, y, h, hy, _ => by
    cases h
    rw [List.find?_cons, hy]
  | a :: r, i + 1, y, h, hy, hb => by
    rw [List.find?_cons, hb 0 a (Nat.succ_pos _) rfl]
    exact find_at (l := r) (i := i) (by simpa using h) hy fun j z hj hz => hb (j + 1) z (by omega) (by simpa using hz)
theorem find_not {α : Type} {p : α → Bool} : ∀ {l : List α}, (∀ (j : Nat) (z : α), l[j]? = some z → p z = false) → l.find? p = none
  | [], _ => rfl
  | a :: r, hb => by
    rw [List.find?_cons, hb 0 a rfl]
    exact find_not (l := r) fun j z hz => hb (j + 1) z (by simpa using hz)
theorem range_get {n i z : Nat} (h : (List.range n)[i]? = some z) : z = i ∧ i < n := by
  have hi : i < n := by
    have := (List.getElem?_eq_some_iff.mp h).1
    rw [List.length_range] at this
    exact this
  rw [List.getElem?_range hi] at h
  cases h
  exact ⟨rfl, hi⟩
theorem ls_ne {CL CS : Addr} {H : Hp} {a b la : Addr} {l : Load} {x : Ship} {t c : Nat} (hl : LoadAt CL H b l) (hs : ShipAt CS H a x la t c) : b ≠ a := by
  rintro rfl
  obtain ⟨dl, h1⟩ := hl
  obtain ⟨dx, h2⟩ := hs
  rw [h1] at h2
  injection h2 with z
  injection z with z1 z2 z3
  exact absurd z3 (by unfold lF sF; intro q; injection q with q1 q2; injection q1 with q3 q4; exact absurd q3 (by decide +kernel))
theorem len0 {α : Type} {l : List α} (h : l.length = 0) : l = [] := List.eq_nil_of_length_eq_zero h
theorem len1 {α : Type} {l : List α} (h : l.length = 1) : ∃ a, l = [a] := match l, h with | [a], _ => ⟨a, rfl⟩
theorem len2 {α : Type} {l : List α} (h : l.length = 2) : ∃ a b, l = [a, b] := match l, h with | [a, b], _ => ⟨a, b, rfl⟩
theorem len6 {α : Type} {l : List α} (h : l.length = 6) : ∃ a b c d e f, l = [a, b, c, d, e, f] := match l, h with | [a, b, c, d, e, f], _ => ⟨a, b, c, d, e, f, rfl⟩
section
variable {P : Program} {w : World} {K : PySem.W.Frag} {mg : Str → Option Value} {base : Heap} {CL CS : Addr}
abbrev s_answer_pour : Stmt := top 56
theorem sc_answer_pour : FnScope ["ship", "numbers", "n"] ["ship", "numbers"] (defScope s_answer_pour) := ⟨rfl, rfl, rfl, by decide +kernel, rfl, by decide +kernel, by decide +kernel⟩
theorem ok_pour {f : Addr} {fd : FuncData} (F : Fun K "answer_pour" "answer_pour" s_answer_pour f fd) (T : Txt2 K mg CL CS) (D_outside : Def P w K mg base 1 "outside" spOut) (D_poured : Def P w K mg base 3 "poured" (spPoured CL)) : FnOk P w K mg base CX0 9 f fd ["ship", "numbers"] (spS CL CS 1 fun r ns => mPour r (ns.getD 0 0)) := by
  refine F.ok sc_answer_pour (fun vs H Q E h => ?_) (fun cdv A outer s H vs Q E hr h => ⟨_, (pss_cons (ps_set (i := 2) sc_answer_pour.nd rfl (Or.inl rfl) (pe_ix ix_list (pv 1) pe_int (fun _ _ => rfl)))
     (pss_cons (ps_if (pt_val (call_def D_outside (hr.mono (by decide)) rfl (pa_cons (pv 2) (pa_cons pe_int (pa_cons (gint T.c_MOST_POURED rfl) pa_nil)))))
     (pss_one (ps_ret (pe_lst (pa_cons (gint T.c_OUT_OF_RANGE rfl) pa_nil))))
     pss_nil)
     (pss_cons (ps_if (pt_cmpR op_lt (pe_fld (pe_fld (pv 0) rfl) rfl) (pe_op op_mul (pv 2) (gint T.c_HUNDREDTHS rfl)) (nomark _))
     (pss_one (ps_ret (pe_lst (pa_cons (gint T.c_TOO_LITTLE rfl) pa_nil))))
     pss_nil)
     (pss_cons (ps_fld (pv 0) (call_def D_poured (hr.mono (by decide)) rfl (pa_cons (pe_fld (pv 0) rfl) (pa_cons (pe_op op_mul (pv 2) (gint T.c_HUNDREDTHS rfl)) pa_nil))) rfl)
     (pss_one (ps_ret (pe_lst (pa_cons (pe_op op_fdiv (pe_fld (pe_fld (pv 0) rfl) rfl) (gint T.c_HUNDREDTHS rfl)) pa_nil)))))))), ?_⟩)
  · obtain ⟨a, q, r, ns, rfl, _⟩ := h
    rfl
  · obtain ⟨a, q, r, ns, rfl, hR, gr, hn, hlen, k⟩ := h
    obtain ⟨n, rfl⟩ := len1 hlen
    replace k : SA CL CS H a (mPour r n) Q := k
    obtain ⟨la, hs, hl⟩ := id hR
    refine ⟨_, rfl, q, _, _, .int n, rfl, rfl, SqL.of hn, atI_nat (j := 0) rfl, ?_⟩
    refine ⟨_, rfl, _, _, _, rfl, _, rfl, ?_⟩
    by_cases c1 : n = 0 ∨ 10000 < n
    · refine if_true_of ?_ ?_
      · rw [Bool.or_eq_true, decide_eq_true_eq, decide_eq_true_eq]
        omega
      · refine ⟨(by show 1 ≤ sizeLine; decide), fun p np => ?_⟩
        rw [show mPour r n = (r, [-22]) from if_pos c1] at k
        exact k.say hR (Same.refl _) np rfl
    · refine if_false_of ?_ ?_
      · rw [Bool.or_eq_false_iff, decide_eq_false_iff_not, decide_eq_false_iff_not]
        omega
      · refine ⟨_, rfl, f_load T.toCls2 hs (f_water T.toCls2 hl ?_)⟩
        refine ⟨_, rfl, _, _, rfl, rfl, .inr ⟨by decide, by decide⟩, _, _, rfl, rfl, _, rfl, ?_⟩
        by_cases c2 : r.l.water < n * 100
        · refine if_true_of (decide_eq_true (by omega)) ?_
          refine ⟨(by show 1 ≤ sizeLine; decide), fun p np => ?_⟩
          rw [show mPour r n = (r, [-12]) from (if_neg c1).trans (if_pos c2)] at k
          exact k.say hR (Same.refl _) np rfl
        · refine if_false_of (decide_eq_false (by omega)) ?_
          rw [show mPour r n = ({ r with l := { r.l with water := r.l.water - n * 100 } }, [(((r.l.water - n * 100) / 100 : Nat) : Int)]) from (if_neg c1).trans (if_neg c2)] at k
          refine ⟨_, rfl, f_load T.toCls2 hs ?_⟩
          refine ⟨_, rfl, _, _, rfl, rfl, .inr ⟨by decide, by decide⟩, ?_⟩
          refine ⟨la, r.l, n * 100, rfl, hl, by omega, fun H1 lb s1 nb hb => ?_⟩
          obtain ⟨dx, hs1⟩ := hs.same s1
          refine ⟨_, rfl, a, CS, dx, _, rfl, hs1, T.cs, T.s7, (by show 9 < 1000; decide), ?_⟩
          rw [ship_put_load]
          have hsA : ShipAt CS (upd H1 a (.ins CS dx (sF r.x lb r.t r.c))) a r.x lb r.t r.c := ⟨dx, upd_same⟩
          have hlA : LoadAt CL (upd H1 a (.ins CS dx (sF r.x lb r.t r.c))) lb { r.l with water := r.l.water - n * 100 } := by
            have ne := ls_ne hb ⟨dx, hs1⟩
            obtain ⟨dl, hb'⟩ := hb
            exact ⟨dl, by rw [upd_ne ne]; exact hb'⟩
          refine ⟨_, rfl, f_load T.toCls2 hsA (f_water T.toCls2 hlA ?_)⟩
          refine ⟨_, _, rfl, rfl, ⟨by decide, by decide⟩, ?_⟩
          refine ⟨(by show 1 ≤ sizeLine; decide), fun p np => ?_⟩
          exact k.out ((keep_of s1).trans (Keep.upd _ _ _)) ⟨lb, hsA, hlA⟩ np rfl
abbrev s_answer_load : Stmt := top 58
theorem sc_answer_load : FnScope ["ship", "numbers", "load"] ["ship", "numbers"] (defScope s_answer_load) := ⟨rfl, rfl, rfl, by decide +kernel, rfl, by decide +kernel, by decide +kernel⟩
theorem ok_load {f : Addr} {fd : FuncData} (F : Fun K "answer_load" "answer_load" s_answer_load f fd) (T : Txt2 K mg CL CS) : FnOk P w K mg base CX0 9 f fd ["ship", "numbers"] (spS CL CS 0 fun r _ => (r, mLoad r)) := by
  refine F.ok sc_answer_load (fun vs H Q E h => ?_) (fun cdv A outer s H vs Q E hr h => ⟨_, (pss_cons (ps_set (i := 2) sc_answer_load.nd rfl (Or.inl rfl) (pe_fld (pv 0) rfl))
     (pss_one (ps_ret (pe_lst (pa_cons (pe_fld (pv 2) rfl) (pa_cons (pe_fld (pv 2) rfl) (pa_cons (pe_fld (pv 2) rfl) (pa_cons (pe_fld (pv 2) rfl) (pa_cons (pe_fld (pv 2) rfl) pa_nil))))))))), ?_⟩)
  · obtain ⟨a, q, r, ns, rfl, _⟩ := h
    rfl
  · obtain ⟨a, q, r, ns, rfl, hR, gr, hn, hlen, k⟩ := h
    obtain ⟨la, hs, hl⟩ := id hR
    refine ⟨_, rfl, f_load T.toCls2 hs ?_⟩
    refine ⟨_, rfl, f_minutes T.toCls2 hl ⟨_, rfl, f_sand T.toCls2 hl ⟨_, rfl, f_water T.toCls2 hl ⟨_, rfl, f_overflow T.toCls2 hl ⟨_, rfl, f_gone T.toCls2 hl ?_⟩⟩⟩⟩⟩
    exact ⟨(by show 5 ≤ sizeLine; decide), fun p np => SA.say k hR (Same.refl _) np rfl⟩
abbrev s_answer_weight : Stmt := top 59
theorem sc_answer_weight : FnScope ["ship", "numbers", "tons"] ["ship", "numbers"] (defScope s_answer_weight) := ⟨rfl, rfl, rfl, by decide +kernel, rfl, by decide +kernel, by decide +kernel⟩
theorem ok_weight {f : Addr} {fd : FuncData} (F : Fun K "answer_weight" "answer_weight" s_answer_weight f fd) (T : Txt2 K mg CL CS) (D_whole_tons : Def P w K mg base 2 "whole_tons" (spWhole CL)) : FnOk P w K mg base CX0 9 f fd ["ship", "numbers"] (spS CL CS 0 fun r _ => (r, mWeight r)) := by
  refine F.ok sc_answer_weight (fun vs H Q E h => ?_) (fun cdv A outer s H vs Q E hr h => ⟨_, (pss_cons (ps_set (i := 2) sc_answer_weight.nd rfl (Or.inl rfl) (call_def D_whole_tons (hr.mono (by decide)) rfl (pa_cons (pe_fld (pv 0) rfl) pa_nil)))
     (pss_one (ps_ret (pe_lst (pa_cons (pv 2) (pa_cons (pe_op op_add (pv 2) (pe_fld (pv 0) rfl)) (pa_cons (pe_fld (pv 0) rfl) pa_nil))))))), ?_⟩)
  · obtain ⟨a, q, r, ns, rfl, _⟩ := h
    rfl
  · obtain ⟨a, q, r, ns, rfl, hR, gr, hn, hlen, k⟩ := h
    obtain ⟨la, hs, hl⟩ := id hR
    refine ⟨_, rfl, f_load T.toCls2 hs ⟨la, r.l, rfl, hl, ?_⟩⟩
    refine ⟨_, rfl, _, rfl, _, rfl, f_empty T.toCls2 hs ?_⟩
    refine ⟨_, _, rfl, rfl, _, rfl, f_most T.toCls2 hs ?_⟩
    refine ⟨(by show 3 ≤ sizeLine; decide), fun p np => SA.say k hR (Same.refl _) np ?_⟩
    show [V.int _, .int _, .int _] = [V.int _, .int _, .int _]
    congr 2
    show V.int _ = V.int _
    congr 1
    omega
end
end Hop

namespace Hop
open PySem PySem.Spec PyProof.Rows L2
open Kv334 (Load Ship none_)
section
variable {P : Program} {w : World} {K : PySem.W.Frag} {mg : Str → Option Value} {base : Heap} {CL CS : Addr}
theorem as_get {as : List Addr} {n i : Nat} (h : as.length = n) (hi : i < n) : ∃ b, as[i]? = some b := ⟨as[i]'(by omega), List.getElem?_eq_getElem (by omega)⟩
theorem at_ref {as : List Addr} {i : Nat} {b : Addr} (h : as[i]? = some b) : atI (as.map V.ref) (i : Int) = some (.ref b) := by
  refine atI_nat ?_
  rw [List.getElem?_map, h]
  rfl
abbrev s_answer_after : Stmt := top 60
theorem sc_answer_after : FnScope ["ship", "numbers", "n", "load", "allowed"] ["ship", "numbers"] (defScope s_answer_after) := ⟨rfl, rfl, rfl, by decide +kernel, rfl, by decide +kernel, by decide +kernel⟩
theorem ok_after {f : Addr} {fd : FuncData} (F : Fun K "answer_after" "answer_after" s_answer_after f fd) (T : Txt2 K mg CL CS) (D_load_from_empty : Def P w K mg base 7 "load_from_empty" (spLoadN CL CS)) (D_may_carry : Def P w K mg base 2 "may_carry" (spMay CL CS)) : FnOk P w K mg base CX0 9 f fd ["ship", "numbers"] (spS CL CS 1 fun r ns => (r, mAfter r (ns.getD 0 0))) := by
  refine F.ok sc_answer_after (fun vs H Q E h => ?_) (fun cdv A outer s H vs Q E hr h => ⟨_, (pss_cons (ps_set (i := 2) sc_answer_after.nd rfl (Or.inl rfl) (pe_ix ix_list (pv 1) pe_int (fun _ _ => rfl)))
     (pss_cons (ps_if (pt_cmpR op_gt (pv 2) (gint T.c_MOST_MINUTES rfl) (nomark _))
     (pss_one (ps_ret (pe_lst (pa_cons (gint T.c_OUT_OF_RANGE rfl) pa_nil))))
     pss_nil)
     (pss_cons (ps_set (i := 3) sc_answer_after.nd rfl (Or.inl rfl) (call_def D_load_from_empty (hr.mono (by decide)) rfl (pa_cons (pv 0) (pa_cons (pv 2) pa_nil))))
     (pss_cons (ps_set (i := 4) sc_answer_after.nd rfl (Or.inl rfl) (pe_ifExp (pt_val (call_def D_may_carry (hr.mono (by decide)) rfl (pa_cons (pv 0) (pa_cons (pv 3) pa_nil)))) pe_int pe_int))
     (pss_one (ps_ret (pe_lst (pa_cons (pe_fld (pv 3) rfl) (pa_cons (pe_fld (pv 3) rfl) (pa_cons (pe_fld (pv 3) rfl) (pa_cons (pe_fld (pv 3) rfl) (pa_cons (pv 4) pa_nil)))))))))))), ?_⟩)
  · obtain ⟨a, q, r, ns, rfl, _⟩ := h
    rfl
  · obtain ⟨a, q, r, ns, rfl, hR, gr, hn, hlen, k⟩ := h
    obtain ⟨n, rfl⟩ := len1 hlen
    replace k : SA CL CS H a (r, mAfter r n) Q := k
    obtain ⟨la, hs, hl⟩ := id hR
    refine ⟨_, rfl, q, _, _, .int n, rfl, rfl, SqL.of hn, atI_nat (j := 0) rfl, ?_⟩
    refine ⟨_, rfl, _, _, rfl, rfl, _, rfl, ?_⟩
    by_cases c1 : 200 < n
    · refine if_true_of (decide_eq_true (by omega)) ?_
      refine ⟨(by show 1 ≤ sizeLine; decide), fun p np => ?_⟩
      rw [show mAfter r n = [-22] from if_pos c1] at k
      exact k.say hR (Same.refl _) np rfl
    · refine if_false_of (decide_eq_false (by omega)) ?_
      rw [show mAfter r n = _ from if_neg c1] at k
      refine ⟨_, rfl, _, rfl, a, la, r.x, r.t, r.c, n, rfl, hs, gr.gs, by omega, fun H1 b s1 hlb => ?_⟩
      refine ⟨_, rfl, _, rfl, a, b, la, r.x, r.t, r.c, r.x.after n, rfl, hs.same s1, hlb, _, rfl, ?_⟩
      refine if_both (fun hm => ?_) (fun hm => ?_)
      · rw [if_pos hm] at k
        refine ⟨_, rfl, f_sand T.toCls2 hlb ⟨_, rfl, f_water T.toCls2 hlb ⟨_, rfl, f_overflow T.toCls2 hlb ⟨_, rfl, f_gone T.toCls2 hlb ⟨_, rfl, ?_⟩⟩⟩⟩⟩
        exact ⟨(by show 5 ≤ sizeLine; decide), fun p np => SA.say k hR s1 np rfl⟩
      · rw [if_neg (by rw [hm]; exact Bool.false_ne_true)] at k
        refine ⟨_, rfl, f_sand T.toCls2 hlb ⟨_, rfl, f_water T.toCls2 hlb ⟨_, rfl, f_overflow T.toCls2 hlb ⟨_, rfl, f_gone T.toCls2 hlb ⟨_, rfl, ?_⟩⟩⟩⟩⟩
        exact ⟨(by show 5 ≤ sizeLine; decide), fun p np => SA.say k hR s1 np rfl⟩
abbrev s_answer_full : Stmt := top 61
theorem sc_answer_full : FnScope ["ship", "numbers", "load"] ["ship", "numbers"] (defScope s_answer_full) := ⟨rfl, rfl, rfl, by decide +kernel, rfl, by decide +kernel, by decide +kernel⟩
theorem ok_full {f : Addr} {fd : FuncData} (F : Fun K "answer_full" "answer_full" s_answer_full f fd) (T : Txt2 K mg CL CS) (D_loads_from_empty : Def P w K mg base 6 "loads_from_empty" (spFrom CL CS)) : FnOk P w K mg base CX0 9 f fd ["ship", "numbers"] (spS CL CS 0 fun r _ => (r, mFull r)) := by
  refine F.ok sc_answer_full (fun vs H Q E h => ?_) (fun cdv A outer s H vs Q E hr h => ⟨_, (pss_cons (ps_for PassesOwn.never rfl (pi_list (call_def D_loads_from_empty (hr.mono (by decide)) rfl (pa_cons (pv 0) (pa_cons (gint T.c_MOST_MINUTES rfl) pa_nil)))) (pg_name (i := 2) sc_answer_full.nd rfl (Or.inl rfl))
     (pss_one (ps_if (pt_cmpR op_gt (pe_fld (pv 2) rfl) pe_int (nomark _))
     (pss_one (ps_ret (pe_lst (pa_cons (pe_fld (pv 2) rfl) pa_nil))))
     pss_nil)))
     (pss_one (ps_ret (pe_lst (pa_cons (gint T.c_NEVER rfl) pa_nil))))), ?_⟩)
  · obtain ⟨a, q, r, ns, rfl, _⟩ := h
    rfl
  · obtain ⟨a, q, r, ns, rfl, hR, gr, hn, hlen, k⟩ := h
    replace k : SA CL CS H a (r, mFull r) Q := k
    obtain ⟨la, hs, hl⟩ := id hR
    refine ⟨_, rfl, a, la, r.x, r.t, r.c, 200, rfl, hs, gr.gs, Nat.le_refl _, fun H1 pl as s1 npl hpl has hL => ?_⟩
    refine ⟨pl, rfl, ⟨_, SqL.of hpl⟩, ?_⟩
    refine for_list (K := K) (a := pl) (xs := as.map V.ref) (fun i σ H' => H' = H1 ∧ (∃ v : Option V, σ = [some (.ref a), some (.ref q), v]) ∧ ∀ j, j < i → (r.x.after j).over = 0) ?_ ?_ ?_ ?_
    · exact ⟨rfl, ⟨none, rfl⟩, fun j hj => absurd hj (Nat.not_lt_zero _)⟩
    · rintro i σ H' _ ⟨rfl, _⟩
      exact SqL.of hpl
    · rintro i y σ H' hi ⟨rfl, ⟨v, rfl⟩, hz⟩
      obtain ⟨b, hb, rfl⟩ := map_ref hi
      have hlb := hL i b hb
      have hi201 : i < 201 := by
        have := (List.getElem?_eq_some_iff.mp hb).1
        omega
      refine ⟨_, rfl, f_overflow T.toCls2 hlb ⟨_, _, rfl, rfl, _, rfl, ?_⟩⟩
      by_cases c : (r.x.after i).over = 0
      · refine if_false_of (decide_eq_false (by omega)) ?_
        refine ⟨rfl, ⟨_, rfl⟩, fun j hj => ?_⟩
        by_cases cj : j = i
        · rw [cj]
          exact c
        · exact hz j (by omega)
      · refine if_true_of (decide_eq_true (by omega)) ?_
        refine ⟨_, rfl, f_minutes T.toCls2 hlb ?_⟩
        refine ⟨(by show 1 ≤ sizeLine; decide), fun p np => ?_⟩
        have e : (List.range 201).find? (fun n => (r.x.after n).over != 0) = some i := by
          refine find_at (i := i) (List.getElem?_range hi201) (by simpa using c) fun j z hj hzj => ?_
          obtain ⟨rfl, _⟩ := range_get hzj
          simpa using hz z hj
        have e2 : mFull r = [(i : Int)] := by
          unfold mFull
          rw [e]
        rw [e2] at k
        refine k.say hR s1 np ?_
        rw [after_filled]
        rfl
    · rintro σ H' ⟨rfl, ⟨v, rfl⟩, hz⟩
      rw [List.length_map, has] at hz
      refine ⟨(by show 1 ≤ sizeLine; decide), fun p np => ?_⟩
      have e : (List.range 201).find? (fun n => (r.x.after n).over != 0) = none := by
        refine find_not fun j z hzj => ?_
        obtain ⟨rfl, hj⟩ := range_get hzj
        simpa using hz z hj
      have e2 : mFull r = [-33] := by
        unfold mFull
        rw [e]
      rw [e2] at k
      exact k.say hR s1 np rfl
abbrev s_answer_longest : Stmt := top 62
theorem sc_answer_longest : FnScope ["ship", "numbers"] ["ship", "numbers"] (defScope s_answer_longest) := ⟨rfl, rfl, rfl, by decide +kernel, rfl, by decide +kernel, by decide +kernel⟩
theorem ok_longest {f : Addr} {fd : FuncData} (F : Fun K "answer_longest" "answer_longest" s_answer_longest f fd) (T : Txt2 K mg CL CS) (D_allowed_loads : Def P w K mg base 7 "allowed_loads" (spAllowed CL CS)) : FnOk P w K mg base CX0 9 f fd ["ship", "numbers"] (spS CL CS 0 fun r _ => (r, mLongest r)) := by
  refine F.ok sc_answer_longest (fun vs H Q E h => ?_) (fun cdv A outer s H vs Q E hr h => ⟨_, (pss_one (ps_ret (pe_lst (pa_cons (pe_op op_sub (pe_callB call_len_seq (by rfl) T.b_len (by decide +kernel) (pa_cons (call_def D_allowed_loads (hr.mono (by decide)) rfl (pa_cons (pv 0) pa_nil)) pa_nil)) pe_int) pa_nil)))), ?_⟩)
  · obtain ⟨a, q, r, ns, rfl, _⟩ := h
    rfl
  · obtain ⟨a, q, r, ns, rfl, hR, gr, hn, hlen, k⟩ := h
    replace k : SA CL CS H a (r, mLongest r) Q := k
    obtain ⟨la, hs, hl⟩ := id hR
    refine ⟨_, rfl, a, la, r.x, r.t, r.c, rfl, hs, gr.gs, fun H1 pl as s1 npl hpl has hL => ?_⟩
    refine ⟨pl, _, rfl, .inl (SqL.of hpl), _, _, rfl, rfl, ?_⟩
    refine ⟨(by show 1 ≤ sizeLine; decide), fun p np => k.say hR s1 np ?_⟩
    have hp := loads_pos r.x
    show [V.int _] = [V.int _]
    congr 2
    rw [List.length_map, has]
    omega
abbrev s_answer_best : Stmt := top 63
theorem sc_answer_best : FnScope ["ship", "numbers", "rest", "load"] ["ship", "numbers"] (defScope s_answer_best) := ⟨rfl, rfl, rfl, by decide +kernel, rfl, by decide +kernel, by decide +kernel⟩
theorem ok_abest {f : Addr} {fd : FuncData} (F : Fun K "answer_best" "answer_best" s_answer_best f fd) (T : Txt2 K mg CL CS) (D_outside : Def P w K mg base 1 "outside" spOut) (D_best_load : Def P w K mg base 8 "best_load" (spBest CL CS)) : FnOk P w K mg base CX0 9 f fd ["ship", "numbers"] (spS CL CS 1 fun r ns => (r, mBest r (ns.getD 0 0))) := by
  refine F.ok sc_answer_best (fun vs H Q E h => ?_) (fun cdv A outer s H vs Q E hr h => ⟨_, (pss_cons (ps_set (i := 2) sc_answer_best.nd rfl (Or.inl rfl) (pe_ix ix_list (pv 1) pe_int (fun _ _ => rfl)))
     (pss_cons (ps_if (pt_val (call_def D_outside (hr.mono (by decide)) rfl (pa_cons (pv 2) (pa_cons pe_int (pa_cons (gint T.c_MOST_REST rfl) pa_nil)))))
     (pss_one (ps_ret (pe_lst (pa_cons (gint T.c_OUT_OF_RANGE rfl) pa_nil))))
     pss_nil)
     (pss_cons (ps_set (i := 3) sc_answer_best.nd rfl (Or.inl rfl) (call_def D_best_load (hr.mono (by decide)) rfl (pa_cons (pv 0) (pa_cons (pv 2) pa_nil))))
     (pss_one (ps_ret (pe_lst (pa_cons (pe_fld (pv 3) rfl) (pa_cons (pe_fld (pv 3) rfl) (pa_cons (pe_op op_fdiv (pe_op op_mul (pe_fld (pv 3) rfl) (gint T.c_MINUTES_OF_HOUR rfl)) (pe_op op_add (pe_fld (pv 3) rfl) (pv 2))) pa_nil))))))))), ?_⟩)
  · obtain ⟨a, q, r, ns, rfl, _⟩ := h
    rfl
  · obtain ⟨a, q, r, ns, rfl, hR, gr, hn, hlen, k⟩ := h
    obtain ⟨n, rfl⟩ := len1 hlen
    replace k : SA CL CS H a (r, mBest r n) Q := k
    obtain ⟨la, hs, hl⟩ := id hR
    refine ⟨_, rfl, q, _, _, .int n, rfl, rfl, SqL.of hn, atI_nat (j := 0) rfl, ?_⟩
    refine ⟨_, rfl, _, _, _, rfl, _, rfl, ?_⟩
    by_cases c1 : n = 0 ∨ 2000 < n
    · refine if_true_of ?_ ?_
      · rw [Bool.or_eq_true, decide_eq_true_eq, decide_eq_true_eq]
        omega
      · refine ⟨(by show 1 ≤ sizeLine; decide), fun p np => ?_⟩
        rw [show mBest r n = [-22] from if_pos c1] at k
        exact k.say hR (Same.refl _) np rfl
    · refine if_false_of ?_ ?_
      · rw [Bool.or_eq_false_iff, decide_eq_false_iff_not, decide_eq_false_iff_not]
        omega
      · rw [show mBest r n = _ from if_neg c1] at k
        refine ⟨_, rfl, _, rfl, a, la, r.x, r.t, r.c, n, rfl, hs, gr.gs, fun H1 b m s1 hb hbest hm => ?_⟩
        rw [hbest] at k
        refine ⟨_, rfl, f_minutes T.toCls2 hb ⟨_, rfl, f_sand T.toCls2 hb ⟨_, rfl, f_sand T.toCls2 hb ?_⟩⟩⟩
        refine ⟨_, _, rfl, rfl, .inr ⟨by decide, by decide⟩, _, rfl, f_minutes T.toCls2 hb ?_⟩
        rw [after_filled]
        refine ⟨_, rfl, _, _, rfl, rfl, _, _, rfl, rfl, ⟨by omega, by omega⟩, ?_⟩
        refine ⟨(by show 3 ≤ sizeLine; decide), fun p np => k.say hR s1 np ?_⟩
        show [V.int _, .int _, .int _] = [V.int _, .int _, .int _]
        congr 3
end
end Hop

/-! ### the defs of drafts -/
namespace Hop
open PySem PySem.Spec PyProof.Rows L2
open Kv334 (Load Ship none_ pairs rises okTable draft)
theorem at_num {ns : List Nat} {j : Nat} {k : Int} (e : k = (j : Int)) (h : j < ns.length) : atI (ns.map fun (n : Nat) => V.int (n : Int)) k = some (.int (ns.getD j 0 : Nat)) := by
  subst e
  refine atI_nat ?_
  rw [List.getElem?_map, ix_getD h]
  rfl
theorem rg_up {n : Nat} (h1 : n % 2 = 0) (h2 : 4 ≤ n) (h3 : n ≤ 20) : RgC 2 (n : Int) 2 (n / 2 - 1) := by
  have : n = 4 ∨ n = 6 ∨ n = 8 ∨ n = 10 ∨ n = 12 ∨ n = 14 ∨ n = 16 ∨ n = 18 ∨ n = 20 := by omega
  rcases this with rfl | rfl | rfl | rfl | rfl | rfl | rfl | rfl | rfl <;> exact ⟨by decide, by decide, by decide +kernel, by decide +kernel⟩
def spUp : Sp := fun vs H Q _ => ∃ (q : Addr) (t : List Nat), vs = [.ref q] ∧ NumsAt H q t ∧ t.length % 2 = 0 ∧ 4 ≤ t.length ∧ t.length ≤ 20 ∧ Q (.bl (rises (pairs t))) H
def spTable : Sp := fun vs H Q _ => ∃ (q : Addr) (t : List Nat), vs = [.ref q] ∧ NumsAt H q t ∧ Q (.bl (okTable t)) H
def spIn : Sp := fun vs H Q _ => ∃ (q : Addr) (t : List Nat) (x : Nat), vs = [.ref q, .int x] ∧ NumsAt H q t ∧ Table t ∧ Q (.bl (decide (t.getD 0 0 ≤ x) && decide (x ≤ t.getD (t.length - 2) 0))) H
def spDepth : Sp := fun vs H Q _ => ∃ (q : Addr) (t : List Nat) (x : Nat), vs = [.ref q, .int x] ∧ NumsAt H q t ∧ Table t ∧ t.getD 0 0 ≤ x ∧ x ≤ t.getD (t.length - 2) 0 ∧ ∀ d : Nat, draft (pairs t) x = some d → Q (.int d) H
section
variable {P : Program} {w : World} {K : PySem.W.Frag} {mg : Str → Option Value} {base : Heap} {CL CS : Addr}
abbrev s_goes_up : Stmt := top 5
theorem sc_goes_up : FnScope ["table", "place"] ["table"] (defScope s_goes_up) := ⟨rfl, rfl, rfl, by decide +kernel, rfl, by decide +kernel, by decide +kernel⟩
theorem ok_up {f : Addr} {fd : FuncData} (F : Fun K "goes_up" "goes_up" s_goes_up f fd) (T : Txt2 K mg CL CS) : FnOk P w K mg base CX0 1 f fd ["table"] spUp := by
  refine F.ok sc_goes_up (fun vs H Q E h => ?_) (fun cdv A outer s H vs Q E hr h => ⟨_, (pss_cons (ps_for PassesOwn.never rfl (pi_range3 rfl T.b_range (pa_cons pe_int (pa_cons (pe_callB call_len_seq (by rfl) T.b_len (by decide +kernel) (pa_cons (pv 0) pa_nil)) (pa_cons pe_int pa_nil)))) (pg_name (i := 1) sc_goes_up.nd rfl (Or.inl rfl))
     (pss_one (ps_if (PW.pt (pw_or (pt_cmpR op_le (pe_ix ix_list (pv 0) (pv 1) (fun _ _ => rfl)) (pe_ix ix_list (pv 0) (pe_op op_sub (pv 1) pe_int) (fun _ _ => rfl)) (nomark _)) (pw_or1 (pt_cmpR op_lt (pe_ix ix_list (pv 0) (pe_op op_add (pv 1) pe_int) (fun _ _ => rfl)) (pe_ix ix_list (pv 0) (pe_op op_sub (pv 1) pe_int) (fun _ _ => rfl)) (nomark _)))))
     (pss_one (ps_ret pe_bl))
     pss_nil)))
     (pss_one (ps_ret pe_bl))), ?_⟩)
  · obtain ⟨q, t, rfl, _⟩ := h
    rfl
  · obtain ⟨q, t, rfl, hn, he, h4, h20, k⟩ := h
    refine ⟨_, rfl, q, _, rfl, .inl (SqL.of hn), ?_⟩
    rw [List.length_map]
    refine ⟨2, _, 2, t.length / 2 - 1, rfl, rg_up he h4 h20, ?_⟩
    refine for_rangeC (lo := 2) (c := 2) (n := t.length / 2 - 1) (fun i σ H' => H' = H ∧ (∃ v : Option V, σ = [some (.ref q), v]) ∧ ∀ j, j < i → Up t j) ?_ ?_ ?_
    · exact ⟨rfl, ⟨none, rfl⟩, fun j hj => absurd hj (Nat.not_lt_zero _)⟩
    · rintro i σ H' hi ⟨rfl, ⟨v, rfl⟩, hu⟩
      have hlt : 2 * i + 3 < t.length := by omega
      have bad : ¬ Up t i → Q (.bl false) H' := fun z => by
        have e : rises (pairs t) = false := by
          rw [Bool.eq_false_iff]
          intro y
          exact z ((rises_iff t he).mp y i hlt)
        rw [e] at k
        exact k
      refine ⟨_, rfl, _, rfl, q, _, _, _, rfl, rfl, SqL.of hn, at_num (j := 2 * i + 2) (by omega) (by omega), ?_⟩
      refine ⟨_, rfl, _, rfl, _, _, rfl, rfl, q, _, _, _, rfl, rfl, SqL.of hn, at_num (j := 2 * i) (by omega) (by omega), ?_⟩
      refine ⟨_, _, rfl, rfl, _, rfl, ?_⟩
      refine if_both (fun c1 => ?_) (fun c1 => ?_)
      · rw [decide_eq_true_eq] at c1
        exact if_true_of rfl (bad fun z => by have := z.1; omega)
      rw [decide_eq_false_iff_not] at c1
      refine ⟨_, rfl, _, rfl, _, _, rfl, rfl, q, _, _, _, rfl, rfl, SqL.of hn, at_num (j := 2 * i + 3) (by omega) (by omega), ?_⟩
      refine ⟨_, rfl, _, rfl, _, _, rfl, rfl, q, _, _, _, rfl, rfl, SqL.of hn, at_num (j := 2 * i + 1) (by omega) (by omega), ?_⟩
      refine ⟨_, _, rfl, rfl, _, rfl, ?_⟩
      refine if_both (fun c2 => ?_) (fun c2 => ?_)
      · rw [decide_eq_true_eq] at c2
        exact bad fun z => by have := z.2; omega
      rw [decide_eq_false_iff_not] at c2
      refine ⟨rfl, ⟨_, rfl⟩, fun j hj => ?_⟩
      by_cases cj : j = i
      · subst cj
        exact ⟨by omega, by omega⟩
      · exact hu j (by omega)
    · rintro σ H' ⟨rfl, ⟨v, rfl⟩, hu⟩
      have e : rises (pairs t) = true := (rises_iff t he).mpr fun i hi => hu i (by omega)
      rw [e] at k
      exact k
abbrev s_is_table : Stmt := top 4
theorem sc_is_table : FnScope ["numbers"] ["numbers"] (defScope s_is_table) := ⟨rfl, rfl, rfl, by decide +kernel, rfl, by decide +kernel, by decide +kernel⟩
theorem ok_table {f : Addr} {fd : FuncData} (F : Fun K "is_table" "is_table" s_is_table f fd) (T : Txt2 K mg CL CS) (D_goes_up : Def P w K mg base 1 "goes_up" spUp) : FnOk P w K mg base CX0 2 f fd ["numbers"] spTable := by
  refine F.ok sc_is_table (fun vs H Q E h => ?_) (fun cdv A outer s H vs Q E hr h => ⟨_, (pss_cons (ps_if (PW.pt (pw_or (pt_cmpR op_ne (pe_op op_mod (pe_callB call_len_seq (by rfl) T.b_len (by decide +kernel) (pa_cons (pv 0) pa_nil)) pe_int) pe_int (nomark _)) (pw_or (pt_cmpR op_lt (pe_callB call_len_seq (by rfl) T.b_len (by decide +kernel) (pa_cons (pv 0) pa_nil)) (pe_op op_mul pe_int (gint T.c_LEAST_PAIRS rfl)) (nomark _)) (pw_or1 (pt_cmpR op_gt (pe_callB call_len_seq (by rfl) T.b_len (by decide +kernel) (pa_cons (pv 0) pa_nil)) (pe_op op_mul pe_int (gint T.c_MOST_PAIRS rfl)) (nomark _))))))
     (pss_one (ps_ret pe_bl))
     pss_nil)
     (pss_one (ps_ret (pe_and (pe_cmpR op_le (pe_callB (cr_max rfl) (by rfl) T.b_max (by decide +kernel) (pa_cons (pv 0) pa_nil)) (gint T.c_MOST_IN_TABLE rfl) (nomark _)) (pe_one (call_def D_goes_up (hr.mono (by decide)) rfl (pa_cons (pv 0) pa_nil))))))), ?_⟩)
  · obtain ⟨q, t, rfl, _⟩ := h
    rfl
  · obtain ⟨q, t, rfl, hn, k⟩ := h
    have bad : ¬ Table t → Q (.bl false) H := fun z => by
      have e : okTable t = false := by
        rw [Bool.eq_false_iff]
        intro y
        exact z ((table_iff t).mp y)
      rw [e] at k
      exact k
    refine ⟨_, rfl, q, _, rfl, .inl (SqL.of hn), ?_⟩
    rw [List.length_map]
    refine ⟨_, _, rfl, rfl, (by show (0 : Int) < 2; decide), rfl, _, rfl, ?_⟩
    refine if_both (fun c1 => ?_) (fun c1 => ?_)
    · refine if_true_of rfl (bad fun z => ?_)
      have h := z.even
      rw [Bool.not_eq_true', decide_eq_false_iff_not] at c1
      exact c1 (congrArg V.int (by omega))
    rw [Bool.not_eq_false', decide_eq_true_eq] at c1
    injection c1 with c1
    refine ⟨_, rfl, q, _, rfl, .inl (SqL.of hn), ?_⟩
    rw [List.length_map]
    refine ⟨_, _, rfl, rfl, .inr ⟨by decide, by decide⟩, _, _, rfl, rfl, _, rfl, ?_⟩
    refine if_both (fun c2 => ?_) (fun c2 => ?_)
    · rw [decide_eq_true_eq] at c2
      exact if_true_of rfl (bad fun z => by have := z.four; omega)
    rw [decide_eq_false_iff_not] at c2
    refine ⟨_, rfl, q, _, rfl, .inl (SqL.of hn), ?_⟩
    rw [List.length_map]
    refine ⟨_, _, rfl, rfl, .inr ⟨by decide, by decide⟩, _, _, rfl, rfl, _, rfl, ?_⟩
    refine if_both (fun c3 => ?_) (fun c3 => ?_)
    · rw [decide_eq_true_eq] at c3
      exact bad fun z => by have := z.most; omega
    rw [decide_eq_false_iff_not] at c3
    refine ⟨_, rfl, q, t.map (fun (n : Nat) => (n : Int)), rfl, SqL.of (by rw [List.map_map]; exact hn), by rw [List.length_map]; omega, fun m hm hmax => ?_⟩
    refine ⟨_, _, rfl, rfl, _, rfl, ?_⟩
    refine if_both (fun c4 => ?_) (fun c4 => ?_)
    · rw [decide_eq_true_eq] at c4
      refine ⟨_, rfl, q, t, rfl, hn, by omega, by omega, by omega, ?_⟩
      have e : okTable t = rises (pairs t) := by
        have hs : ∀ x ∈ t, x ≤ 60000 := fun x hx => by
          have := hmax (x : Int) (List.mem_map_of_mem hx)
          omega
        cases c : rises (pairs t) with
        | true => exact (table_iff t).mpr ⟨by omega, by omega, by omega, (rises_iff t (by omega)).mp c, hs⟩
        | false =>
          rw [Bool.eq_false_iff]
          intro y
          have z := (table_iff t).mp y
          rw [(rises_iff t z.even).mpr z.up] at c
          cases c
      rw [e] at k
      exact k
    · rw [decide_eq_false_iff_not] at c4
      refine bad fun z => ?_
      obtain ⟨n, h1, rfl⟩ := List.mem_map.mp hm
      have := z.small n h1
      omega
abbrev s_in_table : Stmt := top 6
theorem sc_in_table : FnScope ["table", "tons"] ["table", "tons"] (defScope s_in_table) := ⟨rfl, rfl, rfl, by decide +kernel, rfl, by decide +kernel, by decide +kernel⟩
theorem ok_in {f : Addr} {fd : FuncData} (F : Fun K "in_table" "in_table" s_in_table f fd) (T : Txt2 K mg CL CS) : FnOk P w K mg base CX0 1 f fd ["table", "tons"] spIn := by
  refine F.ok sc_in_table (fun vs H Q E h => ?_) (fun cdv A outer s H vs Q E hr h => ⟨_, (pss_one (ps_ret (pe_and (pe_cmpR op_le (pe_ix ix_list (pv 0) pe_int (fun _ _ => rfl)) (pv 1) (nomark _)) (pe_one (pe_cmpR op_le (pv 1) (pe_ix ix_list (pv 0) (pe_op op_sub (pe_callB call_len_seq (by rfl) T.b_len (by decide +kernel) (pa_cons (pv 0) pa_nil)) pe_int) (fun _ _ => rfl)) (nomark _)))))), ?_⟩)
  · obtain ⟨q, t, x, rfl, _⟩ := h
    rfl
  · obtain ⟨q, t, x, rfl, hn, ht, k⟩ := h
    have h4 := ht.four
    refine ⟨_, rfl, q, _, _, _, rfl, rfl, SqL.of hn, at_num (j := 0) rfl (by omega), ?_⟩
    refine ⟨_, rfl, _, _, rfl, rfl, _, rfl, ?_⟩
    have e1 : decide (((t.getD 0 0 : Nat) : Int) ≤ (x : Int)) = decide (t.getD 0 0 ≤ x) := decide_eq_decide.mpr (by omega)
    rw [e1]
    refine if_both (fun c1 => ?_) (fun c1 => ?_)
    · rw [c1, Bool.true_and] at k
      refine ⟨_, rfl, _, rfl, _, rfl, q, _, rfl, .inl (SqL.of hn), ?_⟩
      rw [List.length_map]
      refine ⟨_, _, rfl, rfl, q, _, _, _, rfl, rfl, SqL.of hn, at_num (j := t.length - 2) (by omega) (by omega), ?_⟩
      refine ⟨_, _, rfl, rfl, ?_⟩
      have e2 : decide ((x : Int) ≤ ((t.getD (t.length - 2) 0 : Nat) : Int)) = decide (x ≤ t.getD (t.length - 2) 0) := decide_eq_decide.mpr (by omega)
      show Q (.bl (decide ((x : Int) ≤ ((t.getD (t.length - 2) 0 : Nat) : Int)))) H
      rw [e2]
      exact k
    · rw [c1, Bool.false_and] at k
      exact k
abbrev s_depth_at : Stmt := top 7
theorem sc_depth_at : FnScope ["table", "tons", "place", "lighter", "depth"] ["table", "tons"] (defScope s_depth_at) := ⟨rfl, rfl, rfl, by decide +kernel, rfl, by decide +kernel, by decide +kernel⟩
theorem ok_depth {f : Addr} {fd : FuncData} (F : Fun K "depth_at" "depth_at" s_depth_at f fd) : FnOk P w K mg base CX0 1 f fd ["table", "tons"] spDepth := by
  refine F.ok sc_depth_at (fun vs H Q E h => ?_) (fun cdv A outer s H vs Q E hr h => ⟨_, (pss_cons (ps_set (i := 2) sc_depth_at.nd rfl (Or.inl rfl) pe_int)
     (pss_cons (ps_while PassesOwn.never (pt_cmpR op_lt (pe_ix ix_list (pv 0) (pv 2) (fun _ _ => rfl)) (pv 1) (nomark _))
     (pss_one (ps_set (i := 2) sc_depth_at.nd rfl (Or.inl rfl) (pe_op op_add (pv 2) pe_int))))
     (pss_cons (ps_set (i := 3) sc_depth_at.nd rfl (Or.inl rfl) (pe_ix ix_list (pv 0) (pe_op op_sub (pv 2) pe_int) (fun _ _ => rfl)))
     (pss_cons (ps_set (i := 4) sc_depth_at.nd rfl (Or.inl rfl) (pe_ix ix_list (pv 0) (pe_op op_sub (pv 2) pe_int) (fun _ _ => rfl)))
     (pss_one (ps_ret (pe_op op_add (pv 4) (pe_op op_fdiv (pe_op op_mul (pe_op op_sub (pe_ix ix_list (pv 0) (pe_op op_add (pv 2) pe_int) (fun _ _ => rfl)) (pv 4)) (pe_op op_sub (pv 1) (pv 3))) (pe_op op_sub (pe_ix ix_list (pv 0) (pv 2) (fun _ _ => rfl)) (pv 3)))))))))), ?_⟩)
  · obtain ⟨q, t, x, rfl, _⟩ := h
    rfl
  · obtain ⟨q, t, x, rfl, hn, ht, hlo, hhi, k⟩ := h
    have h4 := ht.four
    have he := ht.even
    refine while_by (fun σ H' => H' = H ∧ ∃ (i : Nat) (z : Int), σ = [some (.ref q), some (.int x), some (.int z), none, none] ∧ z = ((2 * i + 2 : Nat) : Int) ∧ 2 * i + 3 < t.length ∧ ∀ j, j < i → t.getD (2 * j + 2) 0 < x) (fun σ _ => match σ with | [_, _, some (.int z), _, _] => t.length - z.toNat | _ => 0) ?_ ?_ ?_
    · exact ⟨rfl, 0, 2, rfl, rfl, by omega, fun j hj => absurd hj (Nat.not_lt_zero _)⟩
    · rintro σ H' ⟨rfl, i, z, rfl, hz, hi, hb⟩
      refine ⟨_, rfl, _, rfl, q, _, _, _, rfl, rfl, SqL.of hn, at_num (j := 2 * i + 2) hz (by omega), ?_⟩
      refine ⟨_, rfl, _, _, rfl, rfl, _, rfl, ?_⟩
      refine if_both (fun c1 => ?_) (fun c1 => ?_)
      · rw [decide_eq_true_eq] at c1
        refine ⟨_, rfl, _, _, rfl, rfl, ?_⟩
        have hne : t.length - 2 ≠ 2 * i + 2 := fun y => by
          rw [y] at hhi
          omega
        refine ⟨⟨rfl, i + 1, z + 2, rfl, by omega, by omega, fun j hj => ?_⟩, ?_⟩
        · by_cases cj : j = i
          · subst cj
            omega
          · exact hb j (by omega)
        · show t.length - (z + 2).toNat < t.length - z.toNat
          omega
      · rw [decide_eq_false_iff_not] at c1
        have hle : x ≤ t.getD (2 * i + 2) 0 := by omega
        have hge : t.getD (2 * i) 0 ≤ x := by
          cases i with
          | zero => exact hlo
          | succ j => exact Nat.le_of_lt (hb j (Nat.lt_succ_self _))
        have hd := draft_some t i x hi hb hge hle
        obtain ⟨u1, u2⟩ := ht.up i hi
        have b1 := ht.at_le (2 * i + 2)
        have b2 := ht.at_le (2 * i + 3)
        refine ⟨_, rfl, _, rfl, _, _, rfl, rfl, q, _, _, _, rfl, rfl, SqL.of hn, at_num (j := 2 * i) (by omega) (by omega), ?_⟩
        refine ⟨_, rfl, _, rfl, _, _, rfl, rfl, q, _, _, _, rfl, rfl, SqL.of hn, at_num (j := 2 * i + 1) (by omega) (by omega), ?_⟩
        refine ⟨_, rfl, _, rfl, _, rfl, _, _, rfl, rfl, q, _, _, _, rfl, rfl, SqL.of hn, at_num (j := 2 * i + 3) (by omega) (by omega), ?_⟩
        refine ⟨_, rfl, _, _, rfl, rfl, _, rfl, _, rfl, _, _, rfl, rfl, _, _, rfl, rfl, .inl ⟨by omega, by omega⟩, ?_⟩
        refine ⟨_, rfl, _, rfl, q, _, _, _, rfl, rfl, SqL.of hn, at_num (j := 2 * i + 2) (by omega) (by omega), ?_⟩
        refine ⟨_, rfl, _, _, rfl, rfl, _, _, rfl, rfl, ⟨by omega, by omega⟩, _, _, rfl, rfl, ?_⟩
        refine qi (k _ hd) ?_
        generalize t.getD (2 * i) 0 = w0 at *
        generalize t.getD (2 * i + 1) 0 = d0 at *
        generalize t.getD (2 * i + 2) 0 = w1 at *
        generalize t.getD (2 * i + 3) 0 = d1 at *
        have e1 : (d1 : Int) - (d0 : Int) = ((d1 - d0 : Nat) : Int) := by omega
        have e2 : (x : Int) - (w0 : Int) = ((x - w0 : Nat) : Int) := by omega
        have e3 : (w1 : Int) - (w0 : Int) = ((w1 - w0 : Nat) : Int) := by omega
        rw [e1, e2, e3, ← Int.natCast_mul]
        rfl
    · intro σ H' Q1 Q2 hq hc
      obtain ⟨v0, e0, v2, e2, p, xs, kk, y, e3, e4, hs, ha, v1, e1, i, j, ei, ej, b, eb, q2⟩ := hc
      exact ⟨v0, e0, v2, e2, p, xs, kk, y, e3, e4, hs, ha, v1, e1, i, j, ei, ej, b, eb, hq _ _ q2⟩
end
end Hop

namespace Hop
open PySem PySem.Spec PyProof.Rows L2
open Kv334 (Load Ship none_)
theorem not_all {α : Type} (f : α → Bool) : ∀ l : List α, (!((l.map f).all id)) = l.any fun m => !(f m)
  | [] => rfl
  | a :: r => by
    have ih := not_all f r
    rw [List.map_cons, List.all_cons, List.any_cons, ← ih]
    cases f a <;> simp
section
variable {P : Program} {w : World} {K : PySem.W.Frag} {mg : Str → Option Value} {base : Heap} {CL CS : Addr}
abbrev s_answer_fill : Stmt := top 54
theorem sc_answer_fill : FnScope ["ship", "numbers", "n", "loads", "load"] ["ship", "numbers"] (defScope s_answer_fill) := ⟨rfl, rfl, rfl, by decide +kernel, rfl, by decide +kernel, by decide +kernel⟩
theorem ok_fill {f : Addr} {fd : FuncData} (F : Fun K "answer_fill" "answer_fill" s_answer_fill f fd) (T : Txt2 K mg CL CS) (D_outside : Def P w K mg base 1 "outside" spOut) (D_loads_on : Def P w K mg base 5 "loads_on" (spOn CL CS)) (D_may_carry : Def P w K mg base 2 "may_carry" (spMay CL CS)) :
    FnOk P w K mg base CX0 9 f fd ["ship", "numbers"] (spS CL CS 1 fun r ns => mFill r (ns.getD 0 0)) := by
  refine F.ok sc_answer_fill (fun vs H Q E h => ?_) (fun cdv A outer s H vs Q E hr h => ⟨_, (pss_cons (ps_set (i := 2) sc_answer_fill.nd rfl (Or.inl rfl) (pe_ix ix_list (pv 1) pe_int (fun _ _ => rfl)))
     (pss_cons (ps_if (PW.pt (pw_or (pt_val (call_def D_outside (hr.mono (by decide)) rfl (pa_cons (pv 2) (pa_cons pe_int (pa_cons (gint T.c_MOST_MINUTES rfl) pa_nil))))) (pw_or1 (pt_cmpR op_gt (pe_op op_add (pe_fld (pe_fld (pv 0) rfl) rfl) (pv 2)) (gint T.c_MOST_MINUTES rfl) (nomark _)))))
     (pss_one (ps_ret (pe_lst (pa_cons (gint T.c_OUT_OF_RANGE rfl) pa_nil))))
     pss_nil)
     (pss_cons (ps_set (i := 3) sc_answer_fill.nd rfl (Or.inl rfl) (call_def D_loads_on (hr.mono (by decide)) rfl (pa_cons (pv 0) (pa_cons (pe_fld (pv 0) rfl) (pa_cons (pv 2) pa_nil)))))
     (pss_cons (ps_if (pt_not (pt_val (pe_callB (cr_all rfl) (by rfl) T.b_all (by decide +kernel) (pa_cons (pe_lc (own := [("load", 4)]) (g := (gName 4)) (by rfl) sc_answer_fill.nd (pi_list (pv 3)) (blkOk_by (own := [("load", 4)]) (N := ["ship", "numbers", "n", "loads", "load"]) (sc := defScope s_answer_fill) (by decide +kernel)) (fun _ _ _ _ _ => (pg_name (i := 4) sc_answer_fill.nd rfl (Or.inl rfl))) (fun _ _ _ _ _ => pts_nil) (fun _ _ _ _ _ => (call_def D_may_carry (hr.mono (by decide)) rfl (pa_cons (pv 0) (pa_cons (pv 4) pa_nil))))) pa_nil))))
     (pss_one (ps_ret (pe_lst (pa_cons (gint T.c_TOO_HEAVY rfl) pa_nil))))
     pss_nil)
     (pss_cons (ps_fld (pv 0) (pe_ix ix_list (pv 3) (pv 2) (fun _ _ => rfl)) rfl)
     (pss_one (ps_ret (pe_lst (pa_cons (pe_op op_fdiv (pe_fld (pe_fld (pv 0) rfl) rfl) (gint T.c_HUNDREDTHS rfl)) (pa_cons (pe_op op_fdiv (pe_fld (pe_fld (pv 0) rfl) rfl) (gint T.c_HUNDREDTHS rfl)) (pa_cons (pe_fld (pe_fld (pv 0) rfl) rfl) pa_nil))))))))))), ?_⟩)
  · obtain ⟨a, q, r, ns, rfl, _⟩ := h
    rfl
  · obtain ⟨a, q, r, ns, rfl, hR, gr, hn, hlen, k⟩ := h
    obtain ⟨n, rfl⟩ := len1 hlen
    replace k : SA CL CS H a (mFill r n) Q := k
    obtain ⟨la, hs, hl⟩ := id hR
    have refuse : n = 0 ∨ 200 < n ∨ 200 < r.l.filled + n → ∀ p, H p = none → Q (.ref p) (upd H p (.lst [.int (-22)])) := fun c p np => by
      rw [show mFill r n = (r, [-22]) from if_pos c] at k
      exact k.say hR (Same.refl _) np rfl
    refine ⟨_, rfl, q, _, _, .int n, rfl, rfl, SqL.of hn, atI_nat (j := 0) rfl, ?_⟩
    refine ⟨_, rfl, _, _, _, rfl, _, rfl, ?_⟩
    refine if_both (fun c1 => ?_) (fun c1 => ?_)
    · rw [Bool.or_eq_true, decide_eq_true_eq, decide_eq_true_eq] at c1
      exact if_true_of rfl ⟨(by show 1 ≤ sizeLine; decide), refuse (by omega)⟩
    rw [Bool.or_eq_false_iff, decide_eq_false_iff_not, decide_eq_false_iff_not] at c1
    refine ⟨_, rfl, f_load T.toCls2 hs (f_minutes T.toCls2 hl ⟨_, rfl, _, _, rfl, rfl, _, _, rfl, rfl, _, rfl, ?_⟩)⟩
    refine if_both (fun c2 => ?_) (fun c2 => ?_)
    · rw [decide_eq_true_eq] at c2
      exact ⟨(by show 1 ≤ sizeLine; decide), refuse (by omega)⟩
    rw [decide_eq_false_iff_not] at c2
    have cn : ¬ (n = 0 ∨ 200 < n ∨ 200 < r.l.filled + n) := by omega
    refine ⟨_, rfl, _, rfl, f_load T.toCls2 hs ⟨_, rfl, ?_⟩⟩
    refine ⟨a, la, la, r.x, r.t, r.c, n, r.l, rfl, hs, hl, gr.gs, gr.gl, by omega, fun H1 pl as s1 npl hpl has hL => ?_⟩
    refine ⟨_, rfl, pl, rfl, ⟨_, SqL.of hpl⟩, fun D hD => ?_⟩
    have s2 : Same H1 (upd H1 D (.lst [])) := Same.new hD
    refine lc_list (K := K) (a := pl) (xs := as.map V.ref) (fun i H' => H' D = some (.lst (((List.range i).map fun m => r.x.may (r.x.minutes m r.l)).map V.bl)) ∧ Same H1 H') ?_ ?_ ?_ ?_
    · exact ⟨upd_same, s2⟩
    · rintro i H' _ ⟨_, sm⟩
      exact SqL.of (sm _ _ hpl)
    · rintro i y H' hi ⟨hDi, sm⟩
      obtain ⟨b, hb, rfl⟩ := map_ref hi
      have hi200 : i < 1000 := by
        have := (List.getElem?_eq_some_iff.mp hb).1
        omega
      refine ⟨rfl, _, rfl, _, rfl, a, b, la, r.x, r.t, r.c, r.x.minutes i r.l, rfl, (hs.same s1).same sm, (hL i b hb).same sm, _, hDi, ?_, ?_, ?_⟩
      · rw [List.length_map, List.length_map, List.length_range]
        exact Nat.lt_trans hi200 (by decide)
      · rw [upd_same, List.range_succ, List.map_append, List.map_append]
        rfl
      · intro b' o e
        rw [upd_ne (ne_of_none e hD)]
        exact sm _ _ e
    · rintro H2 ⟨hDn, sm⟩
      rw [List.length_map, has] at hDn
      refine ⟨D, _, rfl, SqL.of hDn, _, rfl, ?_⟩
      have s12 := s1.trans sm
      dsimp only
      rw [not_all]
      refine if_both (fun c3 => ?_) (fun c3 => ?_)
      · refine ⟨(by show 1 ≤ sizeLine; decide), fun p np => ?_⟩
        rw [show mFill r n = (r, [-41]) from (if_neg cn).trans (if_pos c3)] at k
        exact k.say hR s12 np rfl
      · rw [show mFill r n = _ from (if_neg cn).trans (if_neg (by rw [c3]; exact Bool.false_ne_true))] at k
        obtain ⟨b, hb⟩ := as_get has (Nat.lt_succ_self n)
        have hlb := (hL n b hb).same sm
        refine ⟨_, rfl, _, rfl, pl, _, _, .ref b, rfl, rfl, SqL.of (sm _ _ hpl), at_ref hb, ?_⟩
        obtain ⟨dx, hs2⟩ := hs.same s12
        refine ⟨_, rfl, a, CS, dx, _, rfl, hs2, T.cs, T.s7, (by show 9 < 1000; decide), ?_⟩
        rw [ship_put_load]
        have hsA : ShipAt CS (upd H2 a (.ins CS dx (sF r.x b r.t r.c))) a r.x b r.t r.c := ⟨dx, upd_same⟩
        have hlA : LoadAt CL (upd H2 a (.ins CS dx (sF r.x b r.t r.c))) b (r.x.minutes n r.l) := by
          have ne := ls_ne hlb ⟨dx, hs2⟩
          obtain ⟨dl, hb'⟩ := hlb
          exact ⟨dl, by rw [upd_ne ne]; exact hb'⟩
        refine ⟨_, rfl, f_load T.toCls2 hsA (f_sand T.toCls2 hlA ⟨_, _, rfl, rfl, ⟨by decide, by decide⟩, ?_⟩)⟩
        refine ⟨_, rfl, f_load T.toCls2 hsA (f_water T.toCls2 hlA ⟨_, _, rfl, rfl, ⟨by decide, by decide⟩, ?_⟩)⟩
        refine ⟨_, rfl, f_load T.toCls2 hsA (f_overflow T.toCls2 hlA ?_)⟩
        refine ⟨(by show 3 ≤ sizeLine; decide), fun p np => ?_⟩
        exact k.out ((keep_of s12).trans (Keep.upd _ _ _)) ⟨b, hsA, hlA⟩ np rfl
end
end Hop

namespace Hop
open PySem PySem.Spec PyProof.Rows L2
open Kv334 (Load Ship none_)
theorem sqT_same {K : PySem.W.Frag} {H H' : Hp} {a : Addr} {xs : List V} (e : Same H H') (h : SqT K H a xs) : SqT K H' a xs := by
  rcases h with (z | ⟨ob, z⟩) | z
  · exact .inl (.inl (e _ _ z))
  · exact .inl (.inr ⟨ob, e _ _ z⟩)
  · exact .inr z
theorem lc_zipM {K : PySem.W.Frag} {a b : Addr} {xs ys : List V} {g : TG} {tt : TT} {tel : TE} {vs : List Nat} {σ : L2.St} {H1 : Hp} {Dl : Addr} {Qd : Hp → Prop} (hl : xs.length = ys.length) (Pv : Nat → Hp → Prop) (h0 : Pv 0 (upd H1 Dl (.lst []))) (hq : ∀ i H, Pv i H → SqL K H a xs ∧ SqT K H b ys)
    (hs : ∀ i x y T H, xs[i]? = some x → ys[i]? = some y → H T = none → Pv i H → g (.ref T) (wipe σ vs) (upd H T (.tup [x, y])) fun σ2 H2 => wipe σ2 vs = wipe σ vs ∧ tt σ2 H2 fun b H3 =>
      if b = true then tel σ2 H3 fun y' H4 => ∃ acc, H4 Dl = some (.lst acc) ∧ acc.length < sizeLine ∧ Pv (i + 1) (upd H4 Dl (.lst (acc ++ [y']))) else Pv (i + 1) H3) (hd : ∀ H, Pv xs.length H → Qd H) :
    ∃ W : Nat → Nat → Hp → Prop, (∃ m, W 0 m (upd H1 Dl (.lst []))) ∧ ∀ i m H, W i m H →
      ((ItzM K a b).stop i H ∧ Qd H) ∨ ((ItzM K a b).go i H ∧ ∃ Nx : Hp → Prop, (∀ H', Nx H' → ∃ m', m' < m ∧ W (i + 1) m' H') ∧ ∀ x H', (ItzM K a b).yld i H x H' → g x (wipe σ vs) H' fun σ2 H2 => wipe σ2 vs = wipe σ vs ∧ tt σ2 H2 fun b H3 =>
        if b = true then tel σ2 H3 fun y H4 => ∃ acc, H4 Dl = some (.lst acc) ∧ acc.length < sizeLine ∧ Nx (upd H4 Dl (.lst (acc ++ [y]))) else Nx H3) := by
  refine ⟨fun i m H => m = xs.length - i ∧ i ≤ xs.length ∧ Pv i H, ⟨_, rfl, Nat.zero_le _, h0⟩, ?_⟩
  rintro i m H ⟨rfl, hi, p⟩
  obtain ⟨q1, q2⟩ := hq i H p
  by_cases hlt : i < xs.length
  · refine .inr ⟨⟨xs, ys, xs[i], ys[i], q1, q2, List.getElem?_eq_getElem hlt, List.getElem?_eq_getElem (by omega)⟩, Pv (i + 1), fun H' p' => ⟨xs.length - (i + 1), by omega, rfl, hlt, p'⟩, fun v H' y => ?_⟩
    obtain ⟨T, x, y, rfl, nT, rfl, y1, y2⟩ := y
    exact hs i x y T H (y1 xs q1) (y2 ys q2) nT p
  · have e : i = xs.length := by omega
    subst e
    exact .inl ⟨⟨xs, ys, q1, q2, .inl (Nat.le_refl _)⟩, hd H p⟩
/-- a tuple of pairs (least, most) -/
def RangesAt (K : PySem.W.Frag) (H : Hp) (rg : Addr) (rs : List (Int × Int)) : Prop := ∃ as : List Addr, SqT K H rg (as.map V.ref) ∧ as.length = rs.length ∧ ∀ (i : Nat) (b : Addr) (z : Int × Int), as[i]? = some b → rs[i]? = some z → SqT K H b [.int z.1, .int z.2]
theorem RangesAt.same {K : PySem.W.Frag} {H H' : Hp} {rg : Addr} {rs : List (Int × Int)} (e : Same H H') (h : RangesAt K H rg rs) : RangesAt K H' rg rs := by
  obtain ⟨as, h1, h2, h3⟩ := h
  exact ⟨as, sqT_same e h1, h2, fun i b z x y => sqT_same e (h3 i b z x y)⟩
def outs (ns : List Nat) (rs : List (Int × Int)) : List Bool := (ns.zip rs).map fun z => decide ((z.1 : Int) < z.2.1) || decide (z.2.2 < (z.1 : Int))
def spAny (K : PySem.W.Frag) : Sp := fun vs H Q _ => ∃ (q rg : Addr) (ns : List Nat) (rs : List (Int × Int)), vs = [.ref q, .ref rg] ∧ NumsAt H q ns ∧ RangesAt K H rg rs ∧ ns.length = rs.length ∧ ns.length ≤ 1000 ∧ ∀ H', Same H H' → Q (.bl ((outs ns rs).any id)) H'
section
variable {P : Program} {w : World} {K : PySem.W.Frag} {mg : Str → Option Value} {base : Heap} {CL CS : Addr}
abbrev s_any_outside : Stmt := top 51
theorem sc_any_outside : FnScope ["numbers", "ranges", "number", "limits"] ["numbers", "ranges"] (defScope s_any_outside) := ⟨rfl, rfl, rfl, by decide +kernel, rfl, by decide +kernel, by decide +kernel⟩
theorem outs_take {ns : List Nat} {rs : List (Int × Int)} {i : Nat} {n : Nat} {z : Int × Int} (h1 : ns[i]? = some n) (h2 : rs[i]? = some z) : (outs ns rs).take (i + 1) = (outs ns rs).take i ++ [decide ((n : Int) < z.1) || decide (z.2 < (n : Int))] := by
  have e : (outs ns rs)[i]? = some (decide ((n : Int) < z.1) || decide (z.2 < (n : Int))) := by
    unfold outs
    rw [List.getElem?_map, (List.getElem?_zip_eq_some (z := (n, z))).mpr ⟨h1, h2⟩]
    rfl
  rw [List.take_add_one, e]
  rfl
theorem ok_any {f : Addr} {fd : FuncData} (F : Fun K "any_outside" "any_outside" s_any_outside f fd) (T : Txt2 K mg CL CS) (D_outside : Def P w K mg base 1 "outside" spOut) : FnOk P w K mg base CX0 2 f fd ["numbers", "ranges"] (spAny K) := by
  refine F.ok sc_any_outside (fun vs H Q E h => ?_) (fun cdv A outer s H vs Q E hr h => ⟨_, (pss_one (ps_ret (pe_callB (cr_any rfl) (by rfl) T.b_any (by decide +kernel) (pa_cons (pe_lc (own := [("number", 2), ("limits", 3)]) (g := gTup K 2 (gCons (gName 2) (gCons (gName 3) gNil))) (by rfl) sc_any_outside.nd (pi_zipM (by rfl) T.b_zip (pa_cons (pv 0) (pa_cons (pv 1) pa_nil))) (blkOk_by (own := [("number", 2), ("limits", 3)]) (N := ["numbers", "ranges", "number", "limits"]) (sc := defScope s_any_outside) (by decide +kernel)) (fun _ _ _ _ _ => (pg_tup rfl (pgs_cons (pg_name (i := 2) sc_any_outside.nd rfl (Or.inl rfl)) (pgs_cons (pg_name (i := 3) sc_any_outside.nd rfl (Or.inl rfl)) pgs_nil)))) (fun _ _ _ _ _ => pts_nil) (fun _ _ _ _ _ => (call_def D_outside (hr.mono (by decide)) rfl (pa_cons (pv 2) (pa_cons (pe_ix (r := rIxT K) ix_tup (pv 3) pe_int (fun _ _ => rfl)) (pa_cons (pe_ix (r := rIxT K) ix_tup (pv 3) pe_int (fun _ _ => rfl)) pa_nil)))))) pa_nil)))), ?_⟩)
  · obtain ⟨q, rg, ns, rs, rfl, _⟩ := h
    rfl
  · obtain ⟨q, rg, ns, rs, rfl, hn, hR, hlen, h6, k⟩ := h
    obtain ⟨as, hT, hal, hA⟩ := hR
    refine ⟨_, rfl, _, rfl, q, rg, _, _, rfl, SqL.of hn, hT, fun D hD => ?_⟩
    have lo : (outs ns rs).length = ns.length := by
      unfold outs
      rw [List.length_map, List.length_zip]
      omega
    refine lc_zipM (K := K) (a := q) (b := rg) (xs := ns.map fun (n : Nat) => V.int (n : Int)) (ys := as.map V.ref) (by rw [List.length_map, List.length_map]; omega) (fun i H' => H' D = some (.lst (((outs ns rs).take i).map V.bl)) ∧ Same H H') ?_ ?_ ?_ ?_
    · exact ⟨upd_same, Same.new hD⟩
    · rintro i H' ⟨_, sm⟩
      exact ⟨SqL.of (sm _ _ hn), sqT_same sm hT⟩
    · rintro i x y U H' hx hy nU ⟨hDi, sm⟩
      obtain ⟨b, hb, rfl⟩ := map_ref hy
      obtain ⟨n, hnn, rfl⟩ : ∃ n, ns[i]? = some n ∧ x = V.int (n : Int) := by
        rw [List.getElem?_map] at hx
        cases e : ns[i]? with
        | none => rw [e] at hx; cases hx
        | some n => rw [e] at hx; exact ⟨n, rfl, (Option.some.inj hx).symm⟩
      have hi : i < ns.length := (List.getElem?_eq_some_iff.mp hnn).1
      obtain ⟨z, hz⟩ : ∃ z, rs[i]? = some z := ⟨rs[i]'(by omega), List.getElem?_eq_getElem (by omega)⟩
      have sU : Same H' (upd H' U (.tup [V.int (n : Int), V.ref b])) := Same.new nU
      have hlim := sqT_same sU (sqT_same sm (hA i b z hb hz))
      refine ⟨U, _, rfl, SqT.of upd_same, rfl, _, _, rfl, _, _, rfl, rfl, ?_⟩
      refine ⟨rfl, _, rfl, ?_⟩
      refine ⟨_, rfl, b, _, _, .int z.1, rfl, rfl, hlim, atI_nat (j := 0) rfl, ?_⟩
      refine ⟨_, rfl, b, _, _, .int z.2, rfl, rfl, hlim, atI_nat (j := 1) rfl, ?_⟩
      refine ⟨_, _, _, rfl, _, sU _ _ hDi, ?_, ?_, ?_⟩
      · rw [List.length_map, List.length_take]
        exact Nat.lt_of_le_of_lt (by omega : min i (outs ns rs).length ≤ 1000) (by decide)
      · rw [upd_same, outs_take hnn hz, List.map_append]
        rfl
      · intro b' o e
        rw [upd_ne (ne_of_none e hD)]
        exact sU _ _ (sm _ _ e)
    · rintro H' ⟨hDn, sm⟩
      rw [List.length_map, ← lo, List.take_length] at hDn
      exact ⟨D, _, rfl, SqL.of hDn, k H' sm⟩
end
end Hop

namespace Hop
open PySem PySem.Spec PyProof.Rows L2
open Kv334 (Load Ship none_)
structure Txt3 (K : PySem.W.Frag) (mg : Str → Option Value) (CL CS RG : Addr) : Prop extends Txt2 K mg CL CS where
  c_SHIP_RANGES : GRef mg "SHIP_RANGES" RG
  rgs : ∀ H, RangesAt K H RG [(1, 10000), (1, 20000), (1, 20000), (1, 200), (1, 60), (0, 10)]
section
variable {P : Program} {w : World} {K : PySem.W.Frag} {mg : Str → Option Value} {base : Heap} {CL CS RG : Addr}
theorem outs2 (f p : Nat) : (outs [f, p] [(1, 200), (1, 60)]).any id = decide (f = 0 ∨ 200 < f ∨ p = 0 ∨ 60 < p) := by
  show ((decide ((f : Int) < 1) || decide ((200 : Int) < f)) || ((decide ((p : Int) < 1) || decide ((60 : Int) < p)) || false)) = _
  rw [Bool.or_false, ← Bool.decide_or, ← Bool.decide_or, ← Bool.decide_or]
  exact decide_eq_decide.mpr (by omega)
theorem outs6 (r e m f s l : Nat) : (outs [r, e, m, f, s, l] [(1, 10000), (1, 20000), (1, 20000), (1, 200), (1, 60), (0, 10)]).any id = decide (r = 0 ∨ 10000 < r ∨ e = 0 ∨ 20000 < e ∨ m = 0 ∨ 20000 < m ∨ f = 0 ∨ 200 < f ∨ s = 0 ∨ 60 < s ∨ 10 < l) := by
  show ((decide ((r : Int) < 1) || decide ((10000 : Int) < r)) || ((decide ((e : Int) < 1) || decide ((20000 : Int) < e)) || ((decide ((m : Int) < 1) || decide ((20000 : Int) < m)) || ((decide ((f : Int) < 1) || decide ((200 : Int) < f)) || ((decide ((s : Int) < 1) || decide ((60 : Int) < s)) || ((decide ((l : Int) < 0) || decide ((10 : Int) < l)) || false)))))) = _
  simp only [Bool.or_false, ← Bool.decide_or]
  exact decide_eq_decide.mpr (by omega)
abbrev s_answer_change : Stmt := top 57
theorem sc_answer_change : FnScope ["ship", "numbers", "before"] ["ship", "numbers"] (defScope s_answer_change) := ⟨rfl, rfl, rfl, by decide +kernel, rfl, by decide +kernel, by decide +kernel⟩
theorem ok_change {f : Addr} {fd : FuncData} (F : Fun K "answer_change" "answer_change" s_answer_change f fd) (T : Txt3 K mg CL CS RG) (D_any_outside : Def P w K mg base 2 "any_outside" (spAny K)) : FnOk P w K mg base CX0 9 f fd ["ship", "numbers"] (spS CL CS 2 fun r ns => mChange r (ns.getD 0 0) (ns.getD 1 0)) := by
  refine F.ok sc_answer_change (fun vs H Q E h => ?_) (fun cdv A outer s H vs Q E hr h => ⟨_, (pss_cons (ps_if (pt_val (call_def D_any_outside (hr.mono (by decide)) rfl (pa_cons (pv 1) (pa_cons (pe_slice sl_tup (gref T.c_SHIP_RANGES rfl) (po_some pe_int) (po_some pe_int)) pa_nil))))
     (pss_one (ps_ret (pe_lst (pa_cons (gint T.c_OUT_OF_RANGE rfl) pa_nil))))
     pss_nil)
     (pss_cons (ps_if (pt_cmpR op_gt (pe_fld (pe_fld (pv 0) rfl) rfl) pe_int (nomark _))
     (pss_one (ps_ret (pe_lst (pa_cons (gint T.c_NOT_NOW rfl) pa_nil))))
     pss_nil)
     (pss_cons (ps_set (i := 2) sc_answer_change.nd rfl (Or.inl rfl) (pe_fld (pv 0) rfl))
     (pss_cons (ps_fld (pv 0) (pe_ix ix_list (pv 1) pe_int (fun _ _ => rfl)) rfl)
     (pss_cons (ps_fld (pv 0) (pe_ix ix_list (pv 1) pe_int (fun _ _ => rfl)) rfl)
     (pss_one (ps_ret (pe_lst (pa_cons (pv 2) pa_nil))))))))), ?_⟩)
  · obtain ⟨a, q, r, ns, rfl, _⟩ := h
    rfl
  · obtain ⟨a, q, r, ns, rfl, hR, gr, hn, hlen, k⟩ := h
    obtain ⟨n, m, rfl⟩ := len2 hlen
    replace k : SA CL CS H a (mChange r n m) Q := k
    obtain ⟨la, hs, hl⟩ := id hR
    obtain ⟨as, hT, hal, hA⟩ := T.rgs H
    obtain ⟨a0, a1, a2, a3, a4, a5, rfl⟩ := len6 hal
    refine ⟨_, rfl, _, rfl, _, rfl, RG, _, rfl, hT, (fun z => absurd (show HT.sIx 6 0 (some 3) = 0 from z.1) (by decide)), fun pt npt => ?_⟩
    have s0 : Same H (upd H pt (.tup [.ref a3, .ref a4])) := Same.new npt
    refine ⟨q, pt, [n, m], [(1, 200), (1, 60)], rfl, s0 _ _ hn, ?_, rfl, (by show 2 ≤ 1000; decide), fun H1 s1' => ?_⟩
    · refine ⟨[a3, a4], SqT.of upd_same, rfl, fun i b z hb hz => ?_⟩
      match i, hb, hz with
      | 0, hb, hz =>
        cases hb
        cases hz
        exact sqT_same s0 (hA 3 a3 _ rfl rfl)
      | 1, hb, hz =>
        cases hb
        cases hz
        exact sqT_same s0 (hA 4 a4 _ rfl rfl)
    · have s1 : Same H H1 := s0.trans s1'
      refine ⟨_, rfl, ?_⟩
      rw [outs2]
      by_cases c1 : n = 0 ∨ 200 < n ∨ m = 0 ∨ 60 < m
      · refine if_true_of (decide_eq_true c1) ?_
        refine ⟨(by show 1 ≤ sizeLine; decide), fun p np => ?_⟩
        rw [show mChange r n m = (r, [-22]) from if_pos c1] at k
        exact k.say hR s1 np rfl
      · refine if_false_of (decide_eq_false c1) ?_
        refine ⟨_, rfl, f_load T.toCls2 (hs.same s1) (f_minutes T.toCls2 (hl.same s1) ⟨_, _, rfl, rfl, _, rfl, ?_⟩)⟩
        by_cases c2 : r.l.filled ≠ 0
        · refine if_true_of (decide_eq_true (by omega)) ?_
          refine ⟨(by show 1 ≤ sizeLine; decide), fun p np => ?_⟩
          rw [show mChange r n m = (r, [-16]) from (if_neg c1).trans (if_pos c2)] at k
          exact k.say hR s1 np rfl
        · refine if_false_of (decide_eq_false (by omega)) ?_
          rw [show mChange r n m = _ from (if_neg c1).trans (if_neg c2)] at k
          refine ⟨_, rfl, f_flow T.toCls2 (hs.same s1) ?_⟩
          obtain ⟨dx, hs1⟩ := hs.same s1
          have hn1 := s1 _ _ hn
          refine ⟨_, rfl, q, _, _, .int n, rfl, rfl, SqL.of hn1, atI_nat (j := 0) rfl, _, rfl, a, CS, dx, _, rfl, hs1, T.cs, T.s4, (by show 9 < 1000; decide), ?_⟩
          rw [ship_put_flow]
          have neq : q ≠ a := by
            rintro rfl
            rw [hn1] at hs1
            cases hs1
          have hn2 : upd H1 a (.ins CS dx (sF { r.x with flow := n } la r.t r.c)) q = some (.lst ([n, m].map fun (n : Nat) => V.int (n : Int))) := by
            rw [upd_ne neq]
            exact hn1
          refine ⟨_, rfl, q, _, _, .int m, rfl, rfl, SqL.of hn2, atI_nat (j := 1) rfl, _, rfl, a, CS, dx, _, rfl, upd_same, T.cs, T.s5, (by show 9 < 1000; decide), ?_⟩
          rw [ship_put_solid, upd_upd]
          refine ⟨_, rfl, (by show 1 ≤ sizeLine; decide), fun p np => ?_⟩
          refine k.out ((keep_of s1).trans (Keep.upd _ _ _)) ⟨la, ⟨dx, upd_same⟩, ?_⟩ np rfl
          have ne := ls_ne (hl.same s1) ⟨dx, hs1⟩
          obtain ⟨dl, hl1⟩ := hl.same s1
          exact ⟨dl, by rw [upd_ne ne]; exact hl1⟩
def spShipInit (CL CS : Addr) : Sp := fun vs H Q _ => ∃ (p dx : Addr) (x : Ship), vs = [.ref p, .int x.room, .int x.empty, .int x.most, .int x.flow, .int x.solid, .int x.loss] ∧ H p = some (.ins CS dx []) ∧
  ∀ (H' : Hp) (la : Addr), H' p = some (.ins CS dx (sF x la 0 0)) → LoadAt CL H' la none_ → (∀ b o, H b = some o → b ≠ p → H' b = some o) → Q .non H'
def spShip (CL CS : Addr) : Sp := fun vs H Q _ => ∃ x : Ship, vs = [.int x.room, .int x.empty, .int x.most, .int x.flow, .int x.solid, .int x.loss] ∧ ∀ (H' : Hp) (p : Addr), Same H H' → H p = none → RecAt CL CS H' p ⟨x, none_, 0, 0⟩ → Q (.ref p) H'
abbrev s_Ship_init : Stmt := inClass (top 14) 0
theorem sc_Ship_init : FnScope ["self", "room", "empty", "most", "flow", "solid", "loss"] ["self", "room", "empty", "most", "flow", "solid", "loss"] (defScope s_Ship_init) := ⟨rfl, rfl, rfl, by decide +kernel, rfl, by decide +kernel, by decide +kernel⟩
theorem ship_put6 (x : Ship) : putF "loss" (.int x.loss) (putF "solid" (.int x.solid) (putF "flow" (.int x.flow) (putF "most" (.int x.most) (putF "empty" (.int x.empty) (putF "room" (.int x.room) []))))) = ([("room", .int x.room), ("empty", .int x.empty), ("most", .int x.most), ("flow", .int x.flow), ("solid", .int x.solid), ("loss", .int x.loss)] : List (Str × V)) := by
  simp only [putF]
  repeat (first | rfl | rw [if_neg (by decide +kernel)])
theorem ship_put9 (x : Ship) (la : Addr) : putF "carried" (.int 0) (putF "trips" (.int 0) (putF "load" (.ref la) ([("room", .int x.room), ("empty", .int x.empty), ("most", .int x.most), ("flow", .int x.flow), ("solid", .int x.solid), ("loss", .int x.loss)] : List (Str × V)))) = sF x la 0 0 := by
  simp only [putF]
  repeat (first | rfl | rw [if_neg (by decide +kernel)])
theorem ok_Ship_init {f : Addr} {fd : FuncData} (F : Fun K "__init__" "Ship.__init__" s_Ship_init f fd) (T : Txt K mg CL CS) (D_empty_load : Def P w K mg base 3 "empty_load" (spEmpty CL)) : FnOk P w K mg base CX0 4 f fd ["self", "room", "empty", "most", "flow", "solid", "loss"] (spShipInit CL CS) := by
  refine F.ok sc_Ship_init (fun vs H Q E h => ?_) (fun cdv A outer s H vs Q E hr h => ⟨_, (pss_cons (ps_fld (pv 0) (pv 1) rfl)
     (pss_cons (ps_fld (pv 0) (pv 2) rfl)
     (pss_cons (ps_fld (pv 0) (pv 3) rfl)
     (pss_cons (ps_fld (pv 0) (pv 4) rfl)
     (pss_cons (ps_fld (pv 0) (pv 5) rfl)
     (pss_cons (ps_fld (pv 0) (pv 6) rfl)
     (pss_cons (ps_fld (pv 0) (call_def0 D_empty_load (hr.mono (by decide)) rfl) rfl)
     (pss_cons (ps_fld (pv 0) pe_int rfl)
     (pss_one (ps_fld (pv 0) pe_int rfl)))))))))), ?_⟩)
  · obtain ⟨p, dx, x, rfl, _⟩ := h
    rfl
  · obtain ⟨p, dx, x, rfl, hp, k⟩ := h
    refine ⟨_, rfl, _, rfl, p, CS, dx, _, rfl, hp, T.cs, T.s1, (by show 0 < 1000; decide), ?_⟩
    refine ⟨_, rfl, _, rfl, p, CS, dx, _, rfl, upd_same, T.cs, T.s2, (by show 1 < 1000; decide), ?_⟩
    refine ⟨_, rfl, _, rfl, p, CS, dx, _, rfl, upd_same, T.cs, T.s3, (by show 2 < 1000; decide), ?_⟩
    refine ⟨_, rfl, _, rfl, p, CS, dx, _, rfl, upd_same, T.cs, T.s4, (by show 3 < 1000; decide), ?_⟩
    refine ⟨_, rfl, _, rfl, p, CS, dx, _, rfl, upd_same, T.cs, T.s5, (by show 4 < 1000; decide), ?_⟩
    refine ⟨_, rfl, _, rfl, p, CS, dx, _, rfl, upd_same, T.cs, T.s6, (by show 5 < 1000; decide), ?_⟩
    rw [upd_upd, upd_upd, upd_upd, upd_upd, upd_upd, ship_put6]
    refine ⟨rfl, fun H1 la s1 nl hl => ?_⟩
    have hp1 := s1 _ _ (upd_same (H := H) (a := p))
    have nel : la ≠ p := by
      rintro rfl
      rw [upd_same] at nl
      cases nl
    refine ⟨_, rfl, p, CS, dx, _, rfl, hp1, T.cs, T.s7, (by show 6 < 1000; decide), ?_⟩
    refine ⟨_, rfl, p, CS, dx, _, rfl, upd_same, T.cs, T.s8, (by show 7 < 1000; decide), ?_⟩
    refine ⟨_, rfl, p, CS, dx, _, rfl, upd_same, T.cs, T.s9, (by show 8 < 1000; decide), ?_⟩
    rw [upd_upd, upd_upd, ship_put9]
    refine k _ la upd_same ?_ fun b o e hb => ?_
    · obtain ⟨dl, hl'⟩ := hl
      exact ⟨dl, by rw [upd_ne nel]; exact hl'⟩
    · rw [upd_ne hb]
      exact s1 _ _ (by rw [upd_ne hb]; exact e)
theorem cl_Ship {fI : Addr} {fd : FuncData} (T : Txt K mg CL CS) (M : Mk K CS fI) (b : Binds K fd ["self", "room", "empty", "most", "flow", "solid", "loss"] []) (F : Fun K "__init__" "Ship.__init__" s_Ship_init fI fd) (D_empty_load : Def P w K mg base 3 "empty_load" (spEmpty CL)) : Cl P w K mg base 4 "Ship" (spShip CL CS) := by
  refine ⟨CS, fI, fd, _, spShipInit CL CS, T.g_Ship, M, b, ok_Ship_init F T D_empty_load, fun vs H Q E h x dx nx nd ne => ?_⟩
  obtain ⟨y, rfl, k⟩ := h
  exact ⟨x, dx, y, rfl, upd_same, fun H' la e hl kp => ⟨rfl, k H' x (Same.made nx nd kp) nx ⟨la, ⟨dx, e⟩, hl⟩⟩⟩
end
end Hop

namespace Hop
open PySem PySem.Spec PyProof.Rows L2
open Kv334 (Load Ship none_)
def fF (b : Bool) (ls : Addr) : List (Str × V) := [("begun", .bl b), ("ships", .ref ls)]
/-- the object: whether it is begun, its ships -/
structure Fl (CL CS CF : Addr) (H : Hp) (a : Addr) (b : Bool) (ls : Addr) (as : List Addr) (rs : List R) : Prop where
  fl : ∃ dx, H a = some (.ins CF dx (fF b ls))
  li : H ls = some (.lst (as.map V.ref))
  len : as.length = rs.length
  nd : as.Nodup
  recs : ∀ (i : Nat) (c : Addr) (r : R), as[i]? = some c → rs[i]? = some r → RecAt CL CS H c r
def KeepF (a ls : Addr) (as : List Addr) (H H' : Hp) : Prop := ∀ b o, H b = some o → b ≠ a → b ≠ ls → b ∉ as → H' b = some o
theorem keepF_of {a ls : Addr} {as : List Addr} {H H' : Hp} (s : Same H H') : KeepF a ls as H H' := fun b o e _ _ _ => s b o e
theorem KeepF.then {a ls : Addr} {as : List Addr} {H H1 H2 : Hp} (k : KeepF a ls as H H1) (s : Same H1 H2) : KeepF a ls as H H2 := fun b o e n1 n2 n3 => s _ _ (k b o e n1 n2 n3)
/-- a call's answer about the object -/
def FA (CL CS CF : Addr) (H : Hp) (a ls : Addr) (as : List Addr) (res : (Bool × List R) × List Int) (Q : VK) : Prop := ∀ (H' : Hp) (p ls' : Addr) (as' : List Addr), KeepF a ls as H H' → Fl CL CS CF H' a res.1.1 ls' as' res.1.2 → (ls' = ls ∨ H ls' = none) → H p = none → H' p = some (.lst (res.2.map V.int)) → Q (.ref p) H'
theorem Fl.same {CL CS CF : Addr} {H H' : Hp} {a ls : Addr} {b : Bool} {as : List Addr} {rs : List R} (f : Fl CL CS CF H a b ls as rs) (s : Same H H') : Fl CL CS CF H' a b ls as rs := by
  obtain ⟨⟨dx, h1⟩, h2, h3, h4, h5⟩ := f
  exact ⟨⟨dx, s _ _ h1⟩, s _ _ h2, h3, h4, fun i c r x y => (h5 i c r x y).same s⟩
theorem RecAt.past {CL CS : Addr} {H : Hp} {a p : Addr} {r : R} {xs : List V} {o : HO} (h : RecAt CL CS H a r) (hp : H p = some (.lst xs)) : RecAt CL CS (upd H p o) a r := by
  obtain ⟨la, h1, h2⟩ := h
  exact ⟨la, h1.past hp, h2.past hp⟩
theorem RecAt.ins {CL CS : Addr} {H : Hp} {a : Addr} {r : R} (h : RecAt CL CS H a r) : ∃ dx fs, H a = some (.ins CS dx fs) := by
  obtain ⟨la, ⟨dx, e⟩, _⟩ := h
  exact ⟨dx, _, e⟩
theorem Fl.mem {CL CS CF : Addr} {H : Hp} {a ls : Addr} {b : Bool} {as : List Addr} {rs : List R} (f : Fl CL CS CF H a b ls as rs) {c : Addr} (h : c ∈ as) : ∃ r, RecAt CL CS H c r := by
  obtain ⟨i, hi⟩ := List.mem_iff_getElem?.mp h
  have hlt := (List.getElem?_eq_some_iff.mp hi).1
  have hl := f.len
  exact ⟨rs[i]'(by omega), f.recs i c _ hi (List.getElem?_eq_getElem (by omega))⟩
/-- what is answered, the object as it was -/
theorem FA.say {CL CS CF : Addr} {H0 H : Hp} {a ls p : Addr} {as : List Addr} {b : Bool} {rs : List R} {out : List Int} {Q : VK} {vs : List V} (k : FA CL CS CF H0 a ls as ((b, rs), out) Q) (h0 : Fl CL CS CF H0 a b ls as rs) (s : Same H0 H) (np : H p = none) (e : vs = out.map V.int) : Q (.ref p) (upd H p (.lst vs)) := by
  have sm : Same H (L2.upd H p (.lst vs)) := Same.new np
  refine k _ p ls as (keepF_of (s.trans sm)) (h0.same (s.trans sm)) (.inl rfl) (s.free np) ?_
  rw [← e]
  exact upd_same
def spF (CL CS CF : Addr) (n : Nat) (g : Bool → List R → List Nat → (Bool × List R) × List Int) : Sp := fun vs H Q _ => ∃ (a q ls : Addr) (b : Bool) (as : List Addr) (rs : List R) (ns : List Nat), vs = [.ref a, .ref q] ∧ Fl CL CS CF H a b ls as rs ∧ NumsAt H q ns ∧ ns.length = n ∧ rs.length ≤ 4 ∧ FA CL CS CF H a ls as (g b rs ns) Q
structure Txt4 (K : PySem.W.Frag) (mg : Str → Option Value) (CL CS RG CF : Addr) : Prop extends Txt3 K mg CL CS RG where
  cf : Cls K CF
  fl1 : NoAttr K CF "begun"
  fl2 : NoAttr K CF "ships"
  g_Fleet : mg "Fleet" = some (.ref CF)
section
variable {P : Program} {w : World} {K : PySem.W.Frag} {mg : Str → Option Value} {base : Heap} {CL CS RG CF : Addr}
theorem f_begun {H : Hp} {a ls : Addr} {b : Bool} {Q : V → Prop} (c : Cls K CF) (n : NoAttr K CF "begun") (h : ∃ dx, H a = some (.ins CF dx (fF b ls))) (q : Q (.bl b)) : Fld K a "begun" H Q := by
  obtain ⟨dx, e⟩ := h
  exact ⟨a, CF, dx, _, _, rfl, e, c, n, lk_here, q⟩
theorem f_ships {H : Hp} {a ls : Addr} {b : Bool} {Q : V → Prop} (c : Cls K CF) (n : NoAttr K CF "ships") (h : ∃ dx, H a = some (.ins CF dx (fF b ls))) (q : Q (.ref ls)) : Fld K a "ships" H Q := by
  obtain ⟨dx, e⟩ := h
  exact ⟨a, CF, dx, _, _, rfl, e, c, n, (lk_past (by decide +kernel)).trans lk_here, q⟩
theorem fl_put_begun (b b' : Bool) (ls : Addr) : putF "begun" (.bl b') (fF b ls) = fF b' ls := put_here
theorem fl_put_ships (b : Bool) (ls ls' : Addr) : putF "ships" (.ref ls') (fF b ls) = fF b ls' := (put_past (by decide +kernel)).trans (congrArg _ put_here)
abbrev s_answer_begin : Stmt := top 52
theorem sc_answer_begin : FnScope ["fleet", "numbers"] ["fleet", "numbers"] (defScope s_answer_begin) := ⟨rfl, rfl, rfl, by decide +kernel, rfl, by decide +kernel, by decide +kernel⟩
theorem ok_begin {f : Addr} {fd : FuncData} (F : Fun K "answer_begin" "answer_begin" s_answer_begin f fd) (T : Txt4 K mg CL CS RG CF) : FnOk P w K mg base CX0 9 f fd ["fleet", "numbers"] (spF CL CS CF 0 fun _ _ _ => mBegin) := by
  refine F.ok sc_answer_begin (fun vs H Q E h => ?_) (fun cdv A outer s H vs Q E hr h => ⟨_, (pss_cons (ps_fld (pv 0) pe_bl rfl)
     (pss_cons (ps_fld (pv 0) (pe_lst pa_nil) rfl)
     (pss_one (ps_ret (pe_lst (pa_cons pe_int pa_nil)))))), ?_⟩)
  · obtain ⟨a, q, ls, b, as, rs, ns, rfl, _⟩ := h
    rfl
  · obtain ⟨a, q, ls, b, as, rs, ns, rfl, hF, hn, hlen, h4, k⟩ := h
    replace k : FA CL CS CF H a ls as mBegin Q := k
    obtain ⟨dx, hf⟩ := hF.fl
    refine ⟨_, rfl, a, CF, dx, _, rfl, hf, T.cf, T.fl1, (by show 2 < 1000; decide), ?_⟩
    rw [fl_put_begun]
    refine ⟨(by show 0 ≤ sizeLine; decide), fun pl npl => ?_⟩
    have nepl : a ≠ pl := by
      rintro rfl
      rw [upd_same] at npl
      cases npl
    have npl' : H pl = none := by
      rw [upd_ne nepl.symm] at npl
      exact npl
    refine ⟨_, rfl, a, CF, dx, _, rfl, (by rw [upd_ne nepl, upd_same]), T.cf, T.fl2, (by show 2 < 1000; decide), ?_⟩
    rw [fl_put_ships]
    refine ⟨(by show 1 ≤ sizeLine; decide), fun p np => ?_⟩
    have nea : p ≠ a := by
      rintro rfl
      rw [upd_same] at np
      cases np
    have nel : p ≠ pl := by
      rintro rfl
      rw [upd_ne nea, upd_same] at np
      cases np
    refine k _ p pl [] ?_ ⟨⟨dx, ?_⟩, ?_, rfl, List.nodup_nil, ?_⟩ (.inr npl') ?_ upd_same
    · intro b' o e n1 n2 n3
      rw [upd_ne, upd_ne n1, upd_ne (ne_of_none e npl'), upd_ne n1]
      · exact e
      · rintro rfl
        rw [upd_ne n1, upd_ne (ne_of_none e npl'), upd_ne n1, e] at np
        cases np
    · rw [upd_ne nea.symm]
      exact upd_same
    · rw [upd_ne nel.symm, upd_ne nepl.symm]
      exact upd_same
    · intro i c r x y
      cases y
    · rw [upd_ne nea, upd_ne nel, upd_ne nea] at np
      exact np
abbrev s_answer_ship : Stmt := top 53
theorem sc_answer_ship : FnScope ["fleet", "numbers"] ["fleet", "numbers"] (defScope s_answer_ship) := ⟨rfl, rfl, rfl, by decide +kernel, rfl, by decide +kernel, by decide +kernel⟩
theorem ok_ship {f : Addr} {fd : FuncData} (F : Fun K "answer_ship" "answer_ship" s_answer_ship f fd) (T : Txt4 K mg CL CS RG CF) (D_any_outside : Def P w K mg base 2 "any_outside" (spAny K)) (D_Ship : Cl P w K mg base 4 "Ship" (spShip CL CS)) :
    FnOk P w K mg base CX0 9 f fd ["fleet", "numbers"] (spF CL CS CF 6 fun b rs ns => mShip b rs (ns.getD 0 0) (ns.getD 1 0) (ns.getD 2 0) (ns.getD 3 0) (ns.getD 4 0) (ns.getD 5 0)) := by
  refine F.ok sc_answer_ship (fun vs H Q E h => ?_) (fun cdv A outer s H vs Q E hr h => ⟨_, (pss_cons (ps_if (pt_val (call_def D_any_outside (hr.mono (by decide)) rfl (pa_cons (pv 1) (pa_cons (gref T.c_SHIP_RANGES rfl) pa_nil))))
     (pss_one (ps_ret (pe_lst (pa_cons (gint T.c_OUT_OF_RANGE rfl) pa_nil))))
     pss_nil)
     (pss_cons (ps_if (pt_cmpR op_ge (pe_callB call_len_seq (by rfl) T.b_len (by decide +kernel) (pa_cons (pe_fld (pv 0) rfl) pa_nil)) (gint T.c_MOST_SHIPS rfl) (nomark _))
     (pss_one (ps_ret (pe_lst (pa_cons (gint T.c_TOO_MANY rfl) pa_nil))))
     pss_nil)
     (pss_cons (ps_expr (pe_bm PySem.F.plainAttrs_list PySem.F.slot_list_append PySem.F.type_list_append mt_append (pe_fld (pv 0) rfl) (pa_cons (make_cl D_Ship (hr.mono (by decide)) rfl (pa_cons (pe_ix ix_list (pv 1) pe_int (fun _ _ => rfl)) (pa_cons (pe_ix ix_list (pv 1) pe_int (fun _ _ => rfl)) (pa_cons (pe_ix ix_list (pv 1) pe_int (fun _ _ => rfl)) (pa_cons (pe_ix ix_list (pv 1) pe_int (fun _ _ => rfl)) (pa_cons (pe_ix ix_list (pv 1) pe_int (fun _ _ => rfl)) (pa_cons (pe_ix ix_list (pv 1) pe_int (fun _ _ => rfl)) pa_nil))))))) pa_nil)))
     (pss_one (ps_ret (pe_lst (pa_cons (pe_op op_sub (pe_callB call_len_seq (by rfl) T.b_len (by decide +kernel) (pa_cons (pe_fld (pv 0) rfl) pa_nil)) pe_int) pa_nil))))))), ?_⟩)
  · obtain ⟨a, q, ls, b, as, rs, ns, rfl, _⟩ := h
    rfl
  · obtain ⟨a, q, ls, b, as, rs, ns, rfl, hF, hn, hlen, h4, k⟩ := h
    obtain ⟨n0, n1, n2, n3, n4, n5, rfl⟩ := len6 hlen
    replace k : FA CL CS CF H a ls as (mShip b rs n0 n1 n2 n3 n4 n5) Q := k
    refine ⟨_, rfl, q, RG, _, _, rfl, hn, T.rgs H, rfl, (by show 6 ≤ 1000; decide), fun H1 s1 => ⟨_, rfl, ?_⟩⟩
    rw [outs6]
    by_cases c1 : n0 = 0 ∨ 10000 < n0 ∨ n1 = 0 ∨ 20000 < n1 ∨ n2 = 0 ∨ 20000 < n2 ∨ n3 = 0 ∨ 200 < n3 ∨ n4 = 0 ∨ 60 < n4 ∨ 10 < n5
    · refine if_true_of (decide_eq_true c1) ?_
      refine ⟨(by show 1 ≤ sizeLine; decide), fun p np => ?_⟩
      rw [show mShip b rs n0 n1 n2 n3 n4 n5 = ((b, rs), [-22]) from if_pos c1] at k
      exact k.say hF s1 np rfl
    · refine if_false_of (decide_eq_false c1) ?_
      have hF1 := hF.same s1
      have hn1 := s1 _ _ hn
      refine ⟨_, rfl, f_ships T.cf T.fl2 hF1.fl ⟨ls, _, rfl, .inl (SqL.of hF1.li), _, _, rfl, rfl, _, rfl, ?_⟩⟩
      rw [List.length_map, hF.len]
      by_cases c2 : 4 ≤ rs.length
      · refine if_true_of (decide_eq_true (by omega)) ?_
        refine ⟨(by show 1 ≤ sizeLine; decide), fun p np => ?_⟩
        rw [show mShip b rs n0 n1 n2 n3 n4 n5 = ((b, rs), [-28]) from (if_neg c1).trans (if_pos c2)] at k
        exact k.say hF s1 np rfl
      · refine if_false_of (decide_eq_false (by omega)) ?_
        rw [show mShip b rs n0 n1 n2 n3 n4 n5 = _ from (if_neg c1).trans (if_neg c2)] at k
        refine ⟨_, rfl, f_ships T.cf T.fl2 hF1.fl ⟨.inl ⟨rfl, _, SqL.of hF1.li⟩, ?_⟩⟩
        refine ⟨_, rfl, q, _, _, .int n0, rfl, rfl, SqL.of hn1, atI_nat (j := 0) rfl, ?_⟩
        refine ⟨_, rfl, q, _, _, .int n1, rfl, rfl, SqL.of hn1, atI_nat (j := 1) rfl, ?_⟩
        refine ⟨_, rfl, q, _, _, .int n2, rfl, rfl, SqL.of hn1, atI_nat (j := 2) rfl, ?_⟩
        refine ⟨_, rfl, q, _, _, .int n3, rfl, rfl, SqL.of hn1, atI_nat (j := 3) rfl, ?_⟩
        refine ⟨_, rfl, q, _, _, .int n4, rfl, rfl, SqL.of hn1, atI_nat (j := 4) rfl, ?_⟩
        refine ⟨_, rfl, q, _, _, .int n5, rfl, rfl, SqL.of hn1, atI_nat (j := 5) rfl, ?_⟩
        refine ⟨⟨n0, n1, n2, n3, n4, n5⟩, rfl, fun H2 ps s2 nps hps => ?_⟩
        have hF2 := hF1.same s2
        have hal := hF.len
        refine ⟨ls, _, _, rfl, rfl, hF2.li, (by rw [List.length_map]; exact Nat.lt_of_le_of_lt (by omega : as.length ≤ 1000) (by decide)), ?_⟩
        have hF3 : Fl CL CS CF (upd H2 ls (.lst ((as ++ [ps]).map V.ref))) a b ls (as ++ [ps]) (rs ++ [⟨⟨n0, n1, n2, n3, n4, n5⟩, none_, 0, 0⟩]) := by
          refine ⟨?_, upd_same, by rw [List.length_append, List.length_append, hal]; rfl, ?_, ?_⟩
          · obtain ⟨dx, e⟩ := hF2.fl
            exact ⟨dx, by rw [upd_ne (ne_of e hF2.li (by intro z; cases z))]; exact e⟩
          · rw [List.nodup_append]
            refine ⟨hF.nd, by simp, fun c hc d hd => ?_⟩
            rw [List.mem_singleton] at hd
            subst hd
            rintro rfl
            obtain ⟨r, hr'⟩ := hF1.mem hc
            obtain ⟨dx, fs, e⟩ := hr'.ins
            rw [e] at nps
            cases nps
          · intro i c r x y
            rcases app_get x with x1 | ⟨x1, rfl⟩
            · have hi := (List.getElem?_eq_some_iff.mp x1).1
              rw [List.getElem?_append_left (by omega)] at y
              exact (hF2.recs i c r x1 y).past hF2.li
            · rw [x1, hal, List.getElem?_append_right (Nat.le_refl _), Nat.sub_self] at y
              cases y
              exact hps.past hF2.li
        have em : as.map V.ref ++ [V.ref ps] = (as ++ [ps]).map V.ref := by rw [List.map_append]; rfl
        rw [em]
        refine ⟨_, rfl, f_ships T.cf T.fl2 hF3.fl ⟨ls, _, rfl, .inl (SqL.of hF3.li), _, _, rfl, rfl, ?_⟩⟩
        refine ⟨(by show 1 ≤ sizeLine; decide), fun p np => ?_⟩
        have sp : ∀ o, Same (upd H2 ls (.lst ((as ++ [ps]).map V.ref))) (upd (upd H2 ls (.lst ((as ++ [ps]).map V.ref))) p o) := fun o => Same.new np
        have kf : KeepF a ls as H (upd H2 ls (.lst ((as ++ [ps]).map V.ref))) := fun b' o e z1 z2 z3 => by
          rw [upd_ne z2]
          exact s2 _ _ (s1 _ _ e)
        have npl : p ≠ ls := by
          rintro rfl
          rw [upd_same] at np
          cases np
        rw [upd_ne npl] at np
        refine k _ p ls (as ++ [ps]) (kf.then (sp _)) (hF3.same (sp _)) (.inl rfl) (s1.free (s2.free np)) ?_
        rw [upd_same]
        refine congrArg (fun z => some (HO.lst [V.int z])) ?_
        rw [List.length_map, List.length_append, hal]
        show ((rs.length + 1 : Nat) : Int) - 1 = (rs.length : Int)
        omega
end
end Hop

namespace Hop
open PySem PySem.Spec PyProof.Rows L2
open Kv334 (Load Ship none_)
/-- a method of a class of the top -/
def MDef (P : Program) (w : World) (K : PySem.W.Frag) (mg : Str → Option Value) (base : Heap) (k : Nat) (C : Addr) (m : Str) (sp : Sp) : Prop :=
  ∃ (f : Addr) (fd : FuncData) (ps : List Str), Meth K C m f ∧ Binds K fd ps [] ∧ FnOk P w K mg base CX0 k f fd ps sp
section
variable {X : Cx} {k : Nat} {C : Addr} {m : Str} {sp : Sp} {apos pos : Pos} {e o : Expr} {es : List Expr} {t : TA} {ta : TE}
theorem call_meth {pl : Sem Bool} (D : MDef X.prog X.w X.K X.mg X.base k C m sp) (c : Cls X.K C) (hr : Room k X.A) (he : PE X o ta) (ha : PA X (e :: es) t)
    (hsx : starEach (e :: es) X.env = (false, eval e X.env) :: starEach es X.env := by rfl) (hpx : (backTo pos (starEach es X.env)).any (·.1) = false := by rfl)
    (hev : eval (.Call (.Attribute o m apos) (e :: es) [] pos) X.env = (do let ov ← eval o X.env; standAt apos.atName; let (f, first) ← holding [ov] (getMethod ov m pl); callWith pos f first (backTo pos (starEach (e :: es) X.env)) (backToKw pos (keywordEach [] X.env))) := by rfl) :
    PE X (.Call (.Attribute o m apos) (e :: es) [] pos) (tMeth C m sp [] E0 ta t) := by
  obtain ⟨f, fd, ps, hm, hb, F⟩ := D
  exact pe_meth he c hm F hr hb .nil pass0 ha hsx hpx hev
theorem call_meth0 {pl : Sem Bool} (D : MDef X.prog X.w X.K X.mg X.base k C m sp) (c : Cls X.K C) (hr : Room k X.A) (he : PE X o ta)
    (hev : eval (.Call (.Attribute o m apos) [] [] pos) X.env = (do let ov ← eval o X.env; standAt apos.atName; let (f, first) ← holding [ov] (getMethod ov m pl); callWith pos f first (backTo pos (starEach [] X.env)) (backToKw pos (keywordEach [] X.env))) := by rfl) :
    PE X (.Call (.Attribute o m apos) [] [] pos) (tMeth C m sp [] E0 ta tNil) := by
  obtain ⟨f, fd, ps, hm, hb, F⟩ := D
  exact pe_meth0 he c hm F hr hb .nil pass0 hev
end
def rF (c : Addr) (i : Nat) : List (Str × V) := [("calls", .ref c), ("place", .int i)]
def ReaderAt (CR : Addr) (H : Hp) (a c : Addr) (i : Nat) : Prop := ∃ dx, H a = some (.ins CR dx (rF c i))
theorem ReaderAt.same {CR : Addr} {H H' : Hp} {a c : Addr} {i : Nat} (h : ReaderAt CR H a c i) (s : Same H H') : ReaderAt CR H' a c i := by
  obtain ⟨dx, e⟩ := h
  exact ⟨dx, s _ _ e⟩
/-- a list that is not changed: another address than a list's or an instance's that is -/
def CallsAt (K : PySem.W.Frag) (H : Hp) (c : Addr) (ns : List Int) : Prop := SqL K H c (ns.map V.int)
def spReaderInit (CR : Addr) : Sp := fun vs H Q _ => ∃ (p dx c : Addr), vs = [.ref p, .ref c] ∧ H p = some (.ins CR dx []) ∧ ∀ H' : Hp, ReaderAt CR H' p c 0 → (∀ b o, H b = some o → b ≠ p → H' b = some o) → Q .non H'
def spReader (CR : Addr) : Sp := fun vs H Q _ => ∃ c, vs = [.ref c] ∧ ∀ (H' : Hp) (p : Addr), Same H H' → H p = none → ReaderAt CR H' p c 0 → Q (.ref p) H'
def spFleetInit (CF : Addr) : Sp := fun vs H Q _ => ∃ (p dx : Addr), vs = [.ref p] ∧ H p = some (.ins CF dx []) ∧ ∀ (H' : Hp) (ls : Addr), (∃ dx, H' p = some (.ins CF dx (fF false ls))) → H ls = none → H' ls = some (.lst []) → (∀ b o, H b = some o → b ≠ p → H' b = some o) → Q .non H'
def spFleet (CF : Addr) : Sp := fun vs H Q _ => vs = [] ∧ ∀ (H' : Hp) (p ls : Addr), Same H H' → H p = none → H ls = none → (∃ dx, H' p = some (.ins CF dx (fF false ls))) → H' ls = some (.lst []) → Q (.ref p) H'
def spEnded (K : PySem.W.Frag) (CR : Addr) : Sp := fun vs H Q _ => ∃ (a c : Addr) (i : Nat) (ns : List Int), vs = [.ref a] ∧ ReaderAt CR H a c i ∧ CallsAt K H c ns ∧ Q (.bl (decide (ns.length ≤ i))) H
def spOne (K : PySem.W.Frag) (CR : Addr) : Sp := fun vs H Q _ => ∃ (a c : Addr) (i : Nat) (ns : List Int) (z : Int), vs = [.ref a] ∧ ReaderAt CR H a c i ∧ CallsAt K H c ns ∧ ns[i]? = some z ∧ ∀ H' : Hp, Keep a H H' → ReaderAt CR H' a c (i + 1) → Q (.int z) H'
def spTake (K : PySem.W.Frag) (CR : Addr) : Sp := fun vs H Q _ => ∃ (a c : Addr) (i n : Nat) (ns : List Int), vs = [.ref a, .int n] ∧ ReaderAt CR H a c i ∧ CallsAt K H c ns ∧ i + n ≤ ns.length ∧
  ∀ (H' : Hp) (p : Addr), Keep a H H' → ReaderAt CR H' a c (i + n) → H p = none → H' p = some (.lst (((ns.drop i).take n).map V.int)) → Q (.ref p) H'
structure Txt5 (K : PySem.W.Frag) (mg : Str → Option Value) (CL CS RG CF CR : Addr) : Prop extends Txt4 K mg CL CS RG CF where
  cr : Cls K CR
  r1 : NoAttr K CR "calls"
  r2 : NoAttr K CR "place"
  g_Reader : mg "Reader" = some (.ref CR)
theorem cut_nat {xs : List V} {i n : Nat} (h : i + n ≤ xs.length) : cutV xs (some (i : Int)) (some ((i + n : Nat) : Int)) = (xs.drop i).take n := by
  unfold cutV
  rw [HT.sIx_nat, HT.sIx_nat, Nat.min_eq_left h, Nat.min_eq_left (show i ≤ xs.length by omega)]
  congr 1
  omega
section
variable {P : Program} {w : World} {K : PySem.W.Frag} {mg : Str → Option Value} {base : Heap} {CL CS RG CF CR : Addr}
theorem f_calls {H : Hp} {a c : Addr} {i : Nat} {Q : V → Prop} (T : Txt5 K mg CL CS RG CF CR) (h : ReaderAt CR H a c i) (q : Q (.ref c)) : Fld K a "calls" H Q := by
  obtain ⟨dx, e⟩ := h
  exact ⟨a, CR, dx, _, _, rfl, e, T.cr, T.r1, lk_here, q⟩
theorem f_place {H : Hp} {a c : Addr} {i : Nat} {Q : V → Prop} (T : Txt5 K mg CL CS RG CF CR) (h : ReaderAt CR H a c i) (q : Q (.int i)) : Fld K a "place" H Q := by
  obtain ⟨dx, e⟩ := h
  exact ⟨a, CR, dx, _, _, rfl, e, T.cr, T.r2, (lk_past (by decide +kernel)).trans lk_here, q⟩
theorem r_put (c : Addr) (i j : Nat) : putF "place" (.int j) (rF c i) = rF c j := (put_past (by decide +kernel)).trans (congrArg _ put_here)
/-- a list at c stays where an instance is changed -/
theorem calls_past {H : Hp} {a c C dx : Addr} {fs fs' : List (Str × V)} {ns : List Int} (h : CallsAt K H c ns) (ha : H a = some (.ins C dx fs)) : CallsAt K (upd H a (.ins C dx fs')) c ns := by
  rcases h with (h | ⟨o, h⟩) | h
  · exact .inl (.inl (by rw [upd_ne (ne_of h ha (by intro z; cases z))]; exact h))
  · exact .inl (.inr ⟨o, by rw [upd_ne (ne_of h ha (by intro z; cases z))]; exact h⟩)
  · exact .inr h
abbrev s_Reader_init : Stmt := inClass (top 49) 0
theorem sc_Reader_init : FnScope ["self", "calls"] ["self", "calls"] (defScope s_Reader_init) := ⟨rfl, rfl, rfl, by decide +kernel, rfl, by decide +kernel, by decide +kernel⟩
theorem ok_Reader_init {f : Addr} {fd : FuncData} (F : Fun K "__init__" "Reader.__init__" s_Reader_init f fd) (T : Txt5 K mg CL CS RG CF CR) : FnOk P w K mg base CX0 1 f fd ["self", "calls"] (spReaderInit CR) := by
  refine F.ok sc_Reader_init (fun vs H Q E h => ?_) (fun cdv A outer s H vs Q E hr h => ⟨_, (pss_cons (ps_fld (pv 0) (pv 1) rfl)
     (pss_one (ps_fld (pv 0) pe_int rfl))), ?_⟩)
  · obtain ⟨p, dx, c, rfl, _⟩ := h
    rfl
  · obtain ⟨p, dx, c, rfl, hp, k⟩ := h
    refine ⟨_, rfl, _, rfl, p, CR, dx, _, rfl, hp, T.cr, T.r1, (by show 0 < 1000; decide), ?_⟩
    refine ⟨_, rfl, p, CR, dx, _, rfl, upd_same, T.cr, T.r2, (by show 1 < 1000; decide), ?_⟩
    refine k _ ⟨dx, Eq.trans upd_same (congrArg (fun q => some (HO.ins CR dx q)) ?_)⟩ fun b o e hb => ?_
    · exact (put_past (by decide +kernel)).trans rfl
    · rw [upd_ne hb, upd_ne hb]
      exact e
theorem cl_Reader {fI : Addr} {fd : FuncData} (T : Txt5 K mg CL CS RG CF CR) (M : Mk K CR fI) (b : Binds K fd ["self", "calls"] []) (F : Fun K "__init__" "Reader.__init__" s_Reader_init fI fd) : Cl P w K mg base 1 "Reader" (spReader CR) := by
  refine ⟨CR, fI, fd, _, spReaderInit CR, T.g_Reader, M, b, ok_Reader_init F T, fun vs H Q E h x dx nx nd ne => ?_⟩
  obtain ⟨c, rfl, k⟩ := h
  exact ⟨x, dx, c, rfl, upd_same, fun H' e kp => ⟨rfl, k H' x (Same.made nx nd kp) nx e⟩⟩
abbrev s_Fleet_init : Stmt := inClass (top 48) 0
theorem sc_Fleet_init : FnScope ["self"] ["self"] (defScope s_Fleet_init) := ⟨rfl, rfl, rfl, by decide +kernel, rfl, by decide +kernel, by decide +kernel⟩
theorem ok_Fleet_init {f : Addr} {fd : FuncData} (F : Fun K "__init__" "Fleet.__init__" s_Fleet_init f fd) (T : Txt5 K mg CL CS RG CF CR) : FnOk P w K mg base CX0 1 f fd ["self"] (spFleetInit CF) := by
  refine F.ok sc_Fleet_init (fun vs H Q E h => ?_) (fun cdv A outer s H vs Q E hr h => ⟨_, (pss_cons (ps_fld (pv 0) pe_bl rfl)
     (pss_one (ps_fld (pv 0) (pe_lst pa_nil) rfl))), ?_⟩)
  · obtain ⟨p, dx, rfl, _⟩ := h
    rfl
  · obtain ⟨p, dx, rfl, hp, k⟩ := h
    refine ⟨_, rfl, p, CF, dx, _, rfl, hp, T.cf, T.fl1, (by show 0 < 1000; decide), ?_⟩
    refine ⟨(by show 0 ≤ sizeLine; decide), fun pl npl => ?_⟩
    have ne : p ≠ pl := by
      rintro rfl
      rw [upd_same] at npl
      cases npl
    have npl' : H pl = none := by
      rw [upd_ne ne.symm] at npl
      exact npl
    refine ⟨_, rfl, p, CF, dx, _, rfl, (by rw [upd_ne ne, upd_same]), T.cf, T.fl2, (by show 1 < 1000; decide), ?_⟩
    refine k _ pl ⟨dx, Eq.trans upd_same (congrArg (fun q => some (HO.ins CF dx q)) ?_)⟩ npl' ?_ fun b o e hb => ?_
    · exact (put_past (by decide +kernel)).trans rfl
    · rw [upd_ne ne.symm]
      exact upd_same
    · rw [upd_ne hb, upd_ne (ne_of_none e npl'), upd_ne hb]
      exact e
theorem cl_Fleet {fI : Addr} {fd : FuncData} (T : Txt5 K mg CL CS RG CF CR) (M : Mk K CF fI) (b : Binds K fd ["self"] []) (F : Fun K "__init__" "Fleet.__init__" s_Fleet_init fI fd) : Cl P w K mg base 1 "Fleet" (spFleet CF) := by
  refine ⟨CF, fI, fd, _, spFleetInit CF, T.g_Fleet, M, b, ok_Fleet_init F T, fun vs H Q E h x dx nx nd ne => ?_⟩
  obtain ⟨rfl, k⟩ := h
  refine ⟨x, dx, rfl, upd_same, fun H' ls e nls hls kp => ⟨rfl, k H' x ls (Same.made nx nd kp) nx ?_ e hls⟩⟩
  have n1 : ls ≠ x := by
    rintro rfl
    rw [upd_same] at nls
    cases nls
  have n2 : ls ≠ dx := by
    rintro rfl
    rw [upd_ne n1, upd_same] at nls
    cases nls
  rw [upd_ne n1, upd_ne n2] at nls
  exact nls
abbrev s_Reader_ended : Stmt := inClass (top 49) 1
theorem sc_Reader_ended : FnScope ["self"] ["self"] (defScope s_Reader_ended) := ⟨rfl, rfl, rfl, by decide +kernel, rfl, by decide +kernel, by decide +kernel⟩
theorem ok_ended {f : Addr} {fd : FuncData} (F : Fun K "ended" "Reader.ended" s_Reader_ended f fd) (T : Txt5 K mg CL CS RG CF CR) : FnOk P w K mg base CX0 1 f fd ["self"] (spEnded K CR) := by
  refine F.ok sc_Reader_ended (fun vs H Q E h => ?_) (fun cdv A outer s H vs Q E hr h => ⟨_, (pss_one (ps_ret (pe_cmpR op_ge (pe_fld (pv 0) rfl) (pe_callB call_len_seq (by rfl) T.b_len (by decide +kernel) (pa_cons (pe_fld (pv 0) rfl) pa_nil)) (nomark _)))), ?_⟩)
  · obtain ⟨a, c, i, ns, rfl, _⟩ := h
    rfl
  · obtain ⟨a, c, i, ns, rfl, hr', hc, k⟩ := h
    refine ⟨_, rfl, f_place T hr' ⟨_, rfl, f_calls T hr' ⟨c, _, rfl, .inl hc, _, _, rfl, rfl, ?_⟩⟩⟩
    have e : decide ((((ns.map V.int).length : Nat) : Int) ≤ (i : Int)) = decide (ns.length ≤ i) := by
      rw [List.length_map]
      exact decide_eq_decide.mpr (by omega)
    show Q (.bl (decide ((((ns.map V.int).length : Nat) : Int) ≤ (i : Int)))) H
    rw [e]
    exact k
abbrev s_Reader_take_one : Stmt := inClass (top 49) 2
theorem sc_Reader_take_one : FnScope ["self", "number"] ["self"] (defScope s_Reader_take_one) := ⟨rfl, rfl, rfl, by decide +kernel, rfl, by decide +kernel, by decide +kernel⟩
theorem ok_one {f : Addr} {fd : FuncData} (F : Fun K "take_one" "Reader.take_one" s_Reader_take_one f fd) (T : Txt5 K mg CL CS RG CF CR) : FnOk P w K mg base CX0 1 f fd ["self"] (spOne K CR) := by
  refine F.ok sc_Reader_take_one (fun vs H Q E h => ?_) (fun cdv A outer s H vs Q E hr h => ⟨_, (pss_cons (ps_set (i := 1) sc_Reader_take_one.nd rfl (Or.inl rfl) (pe_ix ix_list (pe_fld (pv 0) rfl) (pe_fld (pv 0) rfl) (fun _ _ => rfl)))
     (pss_cons (ps_fld (pv 0) (pe_op op_add (pe_fld (pv 0) rfl) pe_int) rfl)
     (pss_one (ps_ret (pv 1))))), ?_⟩)
  · obtain ⟨a, c, i, ns, z, rfl, _⟩ := h
    rfl
  · obtain ⟨a, c, i, ns, z, rfl, hr', hc, hz, k⟩ := h
    refine ⟨_, rfl, f_calls T hr' ⟨_, rfl, f_place T hr' ⟨c, _, _, .int z, rfl, rfl, hc, ?_, ?_⟩⟩⟩
    · refine atI_nat ?_
      rw [List.getElem?_map, hz]
      rfl
    · refine ⟨_, rfl, f_place T hr' ⟨_, _, rfl, rfl, ?_⟩⟩
      obtain ⟨dx, e⟩ := id hr'
      refine ⟨_, rfl, a, CR, dx, _, rfl, e, T.cr, T.r2, (by show 2 < 1000; decide), ?_⟩
      have e1 : (i : Int) + 1 = ((i + 1 : Nat) : Int) := by omega
      dsimp only
      rw [e1, r_put]
      exact ⟨_, rfl, k _ (Keep.upd _ _ _) ⟨dx, upd_same⟩⟩
abbrev s_Reader_take : Stmt := inClass (top 49) 3
theorem sc_Reader_take : FnScope ["self", "count", "start"] ["self", "count"] (defScope s_Reader_take) := ⟨rfl, rfl, rfl, by decide +kernel, rfl, by decide +kernel, by decide +kernel⟩
theorem ok_take {f : Addr} {fd : FuncData} (F : Fun K "take" "Reader.take" s_Reader_take f fd) (T : Txt5 K mg CL CS RG CF CR) : FnOk P w K mg base CX0 1 f fd ["self", "count"] (spTake K CR) := by
  refine F.ok sc_Reader_take (fun vs H Q E h => ?_) (fun cdv A outer s H vs Q E hr h => ⟨_, (pss_cons (ps_set (i := 2) sc_Reader_take.nd rfl (Or.inl rfl) (pe_fld (pv 0) rfl))
     (pss_cons (ps_fld (pv 0) (pe_op op_add (pv 2) (pv 1)) rfl)
     (pss_one (ps_ret (pe_slice sl_list (pe_fld (pv 0) rfl) (po_some (pv 2)) (po_some (pe_fld (pv 0) rfl))))))), ?_⟩)
  · obtain ⟨a, c, i, n, ns, rfl, _⟩ := h
    rfl
  · obtain ⟨a, c, i, n, ns, rfl, hr', hc, hle, k⟩ := h
    refine ⟨_, rfl, f_place T hr' ?_⟩
    refine ⟨_, rfl, _, rfl, _, _, rfl, rfl, ?_⟩
    obtain ⟨dx, e⟩ := id hr'
    refine ⟨_, rfl, a, CR, dx, _, rfl, e, T.cr, T.r2, (by show 2 < 1000; decide), ?_⟩
    have e1 : (i : Int) + (n : Int) = ((i + n : Nat) : Int) := by omega
    dsimp only
    rw [e1, r_put]
    have hrA : ReaderAt CR (upd H a (.ins CR dx (rF c (i + n)))) a c (i + n) := ⟨dx, upd_same⟩
    refine ⟨_, rfl, f_calls T hrA ⟨_, rfl, _, rfl, _, rfl, f_place T hrA ⟨_, rfl, c, _, rfl, calls_past hc e, fun p np => ?_⟩⟩⟩
    have nea : p ≠ a := by
      rintro rfl
      rw [upd_same] at np
      cases np
    have sp := Same.new (o := .lst (cutV (ns.map V.int) (some (i : Int)) (some ((i + n : Nat) : Int)))) np
    refine k _ p ((Keep.upd _ _ _).trans (keep_of sp)) (hrA.same sp) ?_ ?_
    · rw [upd_ne nea] at np
      exact np
    · rw [upd_same, cut_nat (by rw [List.length_map]; exact hle), List.map_take, List.map_drop]
end
end Hop

namespace Hop
open PySem PySem.Spec PyProof.Rows L2
open Kv334 (Load Ship none_)
def wholes : List Nat := [0, 6, 2, 1, 2, 3, 1, 1, 2, 1, 1, 2, 3, 3, 2, 2, 1, 1, 0, 2, 1, 0, 0]
structure Txt6 (K : PySem.W.Frag) (mg : Str → Option Value) (CL CS RG CF CR WN : Addr) : Prop extends Txt5 K mg CL CS RG CF CR where
  c_WHOLE_NUMBERS : GRef mg "WHOLE_NUMBERS" WN
  c_DRAFT : GInt mg "DRAFT" 17
  wn : ∀ H, SqT K H WN (wholes.map fun (n : Nat) => V.int (n : Int))
  kr : CR ≠ CS
theorem shape_whole {j n k : Nat} (h : PyKv334.shape (j : Int) = some (n, k)) : wholes[j]? = some n ∧ k = (if j = 17 then 1 else 0) ∧ j < 23 := by
  obtain ⟨i, e, e2, hi⟩ := shape_cases h
  obtain rfl : j = i := by omega
  match j, hi, e2 with
  | 0, _, e2 | 1, _, e2 | 2, _, e2 | 3, _, e2 | 4, _, e2 | 5, _, e2 | 6, _, e2 | 7, _, e2 | 8, _, e2 | 9, _, e2 | 10, _, e2 | 11, _, e2 | 12, _, e2 | 13, _, e2 | 14, _, e2 | 15, _, e2 | 16, _, e2 | 17, _, e2 | 18, _, e2 | 19, _, e2 | 20, _, e2 | 21, _, e2 | 22, _, e2 =>
    cases e2
    exact ⟨rfl, rfl, by decide⟩
  | n + 23, hi, _ => exact absurd hi (by omega)
/-- from place i on: the call's numbers, its rows, the rest -/
def spRead (K : PySem.W.Frag) (CR : Addr) : Sp := fun vs H Q _ => ∃ (a c : Addr) (i j : Nat) (ns ar rest : List Int) (xs : List (List Int)), vs = [.ref a, .int j] ∧ ReaderAt CR H a c i ∧ CallsAt K H c ns ∧ ns.drop i = ar ++ (PyFlat.putRows xs ++ rest) ∧ PyKv334.shape (j : Int) = some (ar.length, xs.length) ∧ ns.length ≤ 30000 ∧ i ≤ ns.length ∧
  ∀ (H' : Hp) (p : Addr), Keep a H H' → ReaderAt CR H' a c (i + ar.length + (PyFlat.putRows xs).length) → H p = none → H' p = some (.lst ((ar ++ xs.flatten).map V.int)) → Q (.ref p) H'
section
variable {P : Program} {w : World} {K : PySem.W.Frag} {mg : Str → Option Value} {base : Heap} {CL CS RG CF CR WN : Addr}
theorem calls_keep {H H' : Hp} {a c C dx : Addr} {fs : List (Str × V)} {ns : List Int} (h : CallsAt K H c ns) (ha : H a = some (.ins C dx fs)) (k : Keep a H H') : CallsAt K H' c ns := by
  rcases h with (h | ⟨o, h⟩) | h
  · exact .inl (.inl (k _ _ h (ne_of h ha (by intro z; cases z))))
  · exact .inl (.inr ⟨o, k _ _ h (ne_of h ha (by intro z; cases z))⟩)
  · exact .inr h
theorem r_no (m : Str) (h1 : (m == ("calls" : Str)) = false) (h2 : (m == ("place" : Str)) = false) (c : Addr) (i : Nat) : (rF c i).lookup m = none := (lk_past h1).trans ((lk_past h2).trans rfl)
abbrev s_read_numbers : Stmt := top 79
theorem sc_read_numbers : FnScope ["reader", "number", "numbers", "count"] ["reader", "number"] (defScope s_read_numbers) := ⟨rfl, rfl, rfl, by decide +kernel, rfl, by decide +kernel, by decide +kernel⟩
theorem ok_read {f : Addr} {fd : FuncData} (F : Fun K "read_numbers" "read_numbers" s_read_numbers f fd) (T : Txt6 K mg CL CS RG CF CR WN) (D_take : MDef P w K mg base 1 CR "take" (spTake K CR)) (D_take_one : MDef P w K mg base 1 CR "take_one" (spOne K CR)) : FnOk P w K mg base CX0 2 f fd ["reader", "number"] (spRead K CR) := by
  refine F.ok sc_read_numbers (fun vs H Q E h => ?_) (fun cdv A outer s H vs Q E hr h => ⟨_, (pss_cons (ps_set (i := 2) sc_read_numbers.nd rfl (Or.inl rfl) (call_meth D_take T.cr (hr.mono (by decide)) (pv 0) (pa_cons (pe_ix ix_tup (gref T.c_WHOLE_NUMBERS rfl) (pv 1) (fun _ _ => rfl)) pa_nil)))
     (pss_cons (ps_if (pt_cmpR op_eq (pv 1) (gint T.c_DRAFT rfl) (nomark _))
     (pss_cons (ps_set (i := 3) sc_read_numbers.nd rfl (Or.inl rfl) (call_meth0 D_take_one T.cr (hr.mono (by decide)) (pv 0)))
     (pss_one (ps_set (i := 2) sc_read_numbers.nd rfl (Or.inl rfl) (pe_op op_cat (pv 2) (call_meth D_take T.cr (hr.mono (by decide)) (pv 0) (pa_cons (pv 3) pa_nil))))))
     pss_nil)
     (pss_one (ps_ret (pv 2))))), ?_⟩)
  · obtain ⟨a, c, i, j, ns, ar, rest, xs, rfl, _⟩ := h
    rfl
  · obtain ⟨a, c, i, j, ns, ar, rest, xs, rfl, hR, hC, hd, hsh, hln, hi, k⟩ := h
    obtain ⟨hw, hx, h23⟩ := shape_whole hsh
    obtain ⟨dx, hR0⟩ := id hR
    have hlen2 : i + ar.length + ((PyFlat.putRows xs).length + rest.length) = ns.length := by
      have := congrArg List.length hd
      rw [List.length_drop, List.length_append, List.length_append] at this
      omega
    refine ⟨_, rfl, a, dx, _, rfl, hR0, r_no _ (by decide +kernel) (by decide +kernel) _ _, ?_⟩
    refine ⟨_, rfl, WN, _, _, .int ar.length, rfl, rfl, T.wn H, ?_, ?_⟩
    · refine atI_nat ?_
      rw [List.getElem?_map, hw]
      rfl
    · refine ⟨a, c, i, ar.length, ns, rfl, hR, hC, by omega, fun H1 p1 k1 hR1 np1 hp1 => ?_⟩
      have hC1 := calls_keep hC hR0 k1
      have e1 : (ns.drop i).take ar.length = ar := by rw [hd, List.take_left]
      rw [e1] at hp1
      refine ⟨_, rfl, rfl, _, rfl, ?_⟩
      by_cases h17 : j = 17
      · refine if_true_of (decide_eq_true (by rw [h17]; rfl)) ?_
        rw [if_pos h17] at hx
        obtain ⟨t, rfl⟩ := ln1 hx
        have ep : PyFlat.putRows [t] = (t.length : Int) :: t := by
          show ((t.length : Int) :: t) ++ [] = _
          rw [List.append_nil]
        rw [ep] at hd k hlen2
        rw [List.length_cons] at hlen2 k
        obtain ⟨dx1, hR10⟩ := id hR1
        refine ⟨_, rfl, a, dx1, _, rfl, hR10, r_no _ (by decide +kernel) (by decide +kernel) _ _, ?_⟩
        have hdd : ns.drop (i + ar.length) = (t.length : Int) :: (t ++ rest) := by
          rw [← List.drop_drop, hd, List.drop_left]
          rfl
        have hz : ns[i + ar.length]? = some (t.length : Int) := by
          have := congrArg (fun l => l[0]?) hdd
          simpa using this
        refine ⟨a, c, i + ar.length, ns, t.length, rfl, hR1, hC1, hz, fun H2 k2 hR2 => ?_⟩
        have hC2 := calls_keep hC1 hR10 k2
        have ne1 : p1 ≠ a := ne_of hp1 hR10 (by intro z; cases z)
        have hp2 := k2 _ _ hp1 ne1
        obtain ⟨dx2, hR20⟩ := id hR2
        refine ⟨_, rfl, _, rfl, a, dx2, _, rfl, hR20, r_no _ (by decide +kernel) (by decide +kernel) _ _, ?_⟩
        refine ⟨_, rfl, a, c, i + ar.length + 1, t.length, ns, rfl, hR2, hC2, by omega, fun H3 p3 k3 hR3 np3 hp3 => ?_⟩
        have hp1' := k3 _ _ hp2 ne1
        have e3 : (ns.drop (i + ar.length + 1)).take t.length = t := by
          rw [← List.drop_drop, hdd]
          show (t ++ rest).take t.length = t
          rw [List.take_left]
        rw [e3] at hp3
        refine ⟨p1, p3, _, _, rfl, rfl, hp1', hp3, ?_, fun p np => ?_⟩
        · rw [List.length_map, List.length_map]
          exact Nat.le_trans (by omega : ar.length + t.length ≤ 30000) (by decide)
        · refine ⟨_, rfl, ?_⟩
          have kk : Keep a H (upd H3 p (.lst (ar.map V.int ++ t.map V.int))) := fun b o e hb => by
            have e' := k3 _ _ (k2 _ _ (k1 _ _ e hb) hb) hb
            rw [upd_ne (ne_of_none e' np)]
            exact e'
          have nea : p ≠ a := by
            rintro rfl
            obtain ⟨dx3, q⟩ := hR3
            rw [q] at np
            cases np
          refine k _ p kk ?_ ?_ ?_
          · obtain ⟨dx3, q⟩ := hR3
            refine ⟨dx3, ?_⟩
            rw [upd_ne nea.symm, q]
            congr 3
            omega
          · cases q : H p with
            | none => rfl
            | some o =>
              rw [k3 _ _ (k2 _ _ (k1 _ _ q nea) nea) nea] at np
              cases np
          · rw [upd_same, List.map_append]
            show some (HO.lst (ar.map V.int ++ t.map V.int)) = some (HO.lst (ar.map V.int ++ (t ++ []).map V.int))
            rw [List.append_nil]
      · refine if_false_of (decide_eq_false fun z => h17 (by injection z with z; exact Int.ofNat.inj z)) ?_
        rw [if_neg h17] at hx
        obtain rfl := ln0 hx
        refine ⟨_, rfl, ?_⟩
        refine k H1 p1 k1 ?_ np1 ?_
        · exact hR1
        · show H1 p1 = some (HO.lst ((ar ++ []).map V.int))
          rw [List.append_nil]
          exact hp1
end
end Hop

namespace Hop
open PySem PySem.Spec PyProof.Rows L2
open Kv334 (Load Ship none_)
/-- the list that is handed in: known, not changed -/
def Fz (K : PySem.W.Frag) (H : Hp) (a : Addr) (ns : List Int) : Prop := (∃ o, H a = some (.frz o (.lst (ns.map V.int)))) ∨ ∃ (o : Obj) (its : Array Value) (n : Nat), K.lookup a = some o ∧ o.cls = .type "list" ∧ o.dict = none ∧ o.data = .seq its n ∧ its.size ≤ sizeLine ∧ Vals (ns.map V.int) its.toList
theorem Fz.calls {K : PySem.W.Frag} {H : Hp} {a : Addr} {ns : List Int} (h : Fz K H a ns) : CallsAt K H a ns := by
  rcases h with h | h
  · exact .inl (.inr h)
  · exact .inr h
theorem Fz.kept {K : PySem.W.Frag} {H H' : Hp} {a : Addr} {ns : List Int} (h : Fz K H a ns) (k : ∀ o u, H a = some (.frz o u) → H' a = some (.frz o u)) : Fz K H' a ns := by
  rcases h with ⟨o, h⟩ | h
  · exact .inl ⟨o, k _ _ h⟩
  · exact .inr h
theorem Fz.of {K : PySem.W.Frag} {H : Hp} {a : Addr} {ns : List Int} (h : SqL K H a (ns.map V.int)) (o : OnlyF H) : Fz K H a ns := by
  rcases h with (h | h) | h
  · rcases o a with z | ⟨ob, u, z⟩
    · rw [z] at h
      cases h
    · rw [z] at h
      cases h
  · exact .inl h
  · exact .inr h
def Fits (k : Nat) (ns : List Nat) : Prop := (k ≠ 17 → wholes[k]? = some ns.length) ∧ (k = 17 → 1 ≤ ns.length) ∧ k < 23 ∧ ns.length ≤ 30000
def spCall (CL CS CF : Addr) : Sp := fun vs H Q _ => ∃ (a q ls : Addr) (b : Bool) (as : List Addr) (rs : List R) (k : Nat) (ns : List Nat), vs = [.ref a, .int k, .ref q] ∧ Fl CL CS CF H a b ls as rs ∧ Goods rs ∧ rs.length ≤ 4 ∧ NumsAt H q ns ∧ Fits k ns ∧ FA CL CS CF H a ls as (mCall b rs k ns) Q
def spAns (K : PySem.W.Frag) : Sp := fun vs H Q _ => ∃ (a : Addr) (ns : List Int), vs = [.ref a] ∧ Fz K H a ns ∧ PyKv334.answers_asked ns = true ∧ (∀ z ∈ ns, 0 ≤ z) ∧ ns.length ≤ 30000 ∧ ∀ (H' : Hp) (p : Addr), H' p = some (.lst ((PyKv334.answers ns).map V.int)) → Q (.ref p) H'
theorem fr_ne {CF CR : Addr} {H : Hp} {f r c ls : Addr} {b : Bool} {i : Nat} (hf : ∃ dx, H f = some (.ins CF dx (fF b ls))) (hr : ReaderAt CR H r c i) : r ≠ f := by
  rintro rfl
  obtain ⟨dx, h1⟩ := hf
  obtain ⟨dy, h2⟩ := hr
  rw [h1] at h2
  injection h2 with z
  injection z with z1 z2 z3
  exact absurd z3 (by unfold fF rF; intro q; injection q with q1 q2; injection q1 with q3 q4; exact absurd q3 (by decide +kernel))
theorem sr_ne {CL CS CR : Addr} {H : Hp} {s r c : Addr} {i : Nat} {x : R} (hs : RecAt CL CS H s x) (hr : ReaderAt CR H r c i) : r ≠ s := by
  rintro rfl
  obtain ⟨la, ⟨dx, h1⟩, _⟩ := hs
  obtain ⟨dy, h2⟩ := hr
  rw [h1] at h2
  injection h2 with z
  injection z with z1 z2 z3
  exact absurd z3 (by unfold sF rF; intro q; injection q with q1 q2; injection q1 with q3 q4; exact absurd q3 (by decide +kernel))
/-- the object stays where something else is changed -/
theorem Fl.kept {CL CS CF : Addr} {H H' : Hp} {a ls : Addr} {b : Bool} {as : List Addr} {rs : List R} (f : Fl CL CS CF H a b ls as rs) (h1 : ∀ dx, H a = some (.ins CF dx (fF b ls)) → H' a = some (.ins CF dx (fF b ls))) (h2 : H ls = some (.lst (as.map V.ref)) → H' ls = some (.lst (as.map V.ref)))
    (h3 : ∀ c r, RecAt CL CS H c r → RecAt CL CS H' c r) : Fl CL CS CF H' a b ls as rs := by
  obtain ⟨⟨dx, g1⟩, g2, g3, g4, g5⟩ := f
  exact ⟨⟨dx, h1 dx g1⟩, h2 g2, g3, g4, fun i c r x y => h3 c r (g5 i c r x y)⟩
theorem put_mem : ∀ (xs : List (List Int)) (z : Int), z ∈ xs.flatten → z ∈ PyFlat.putRows xs
  | [], z, h => by simp at h
  | x :: r, z, h => by
    rw [List.flatten_cons, List.mem_append] at h
    show z ∈ PyFlat.putRow x ++ PyFlat.putRows r
    rw [List.mem_append]
    rcases h with h | h
    · exact .inl (List.mem_cons_of_mem _ h)
    · exact .inr (put_mem r z h)
theorem nats_back {l : List Int} (h : ∀ z ∈ l, 0 ≤ z) : (l.map Int.toNat).map (fun (n : Nat) => V.int (n : Int)) = l.map V.int := by
  rw [List.map_map]
  refine List.map_congr_left fun z hz => ?_
  show V.int ((z.toNat : Nat) : Int) = V.int z
  rw [Int.toNat_of_nonneg (h z hz)]
structure Txt7 (K : PySem.W.Frag) (mg : Str → Option Value) (CL CS RG CF CR WN : Addr) : Prop extends Txt6 K mg CL CS RG CF CR WN
section
variable {P : Program} {w : World} {K : PySem.W.Frag} {mg : Str → Option Value} {base : Heap} {CL CS RG CF CR WN : Addr}
abbrev s_answers : Stmt := top 80
theorem sc_answers : FnScope ["calls", "fleet", "reader", "given", "number", "numbers", "answer"] ["calls"] (defScope s_answers) := ⟨rfl, rfl, rfl, by decide +kernel, rfl, by decide +kernel, by decide +kernel⟩
theorem ok_answers {f : Addr} {fd : FuncData} (F : Fun K "answers" "answers" s_answers f fd) (T : Txt6 K mg CL CS RG CF CR WN) (D_Fleet : Cl P w K mg base 1 "Fleet" (spFleet CF)) (D_Reader : Cl P w K mg base 1 "Reader" (spReader CR)) (D_ended : MDef P w K mg base 1 CR "ended" (spEnded K CR)) (D_take_one : MDef P w K mg base 1 CR "take_one" (spOne K CR))
    (D_read_numbers : Def P w K mg base 2 "read_numbers" (spRead K CR)) (D_answer_call : Def P w K mg base 12 "answer_call" (spCall CL CS CF)) : FnOk P w K mg base CX0 14 f fd ["calls"] (spAns K) := by
  refine F.ok sc_answers (fun vs H Q E h => ?_) (fun cdv A outer s H vs Q E hr h => ⟨_, (pss_cons (ps_set (i := 1) sc_answers.nd rfl (Or.inl rfl) (make_cl0 D_Fleet (hr.mono (by decide)) rfl))
     (pss_cons (ps_set (i := 2) sc_answers.nd rfl (Or.inl rfl) (make_cl D_Reader (hr.mono (by decide)) rfl (pa_cons (pv 0) pa_nil)))
     (pss_cons (ps_set (i := 3) sc_answers.nd rfl (Or.inl rfl) (pe_lst pa_nil))
     (pss_cons (ps_while PassesOwn.never (pt_not (pt_val (call_meth0 D_ended T.cr (hr.mono (by decide)) (pv 2))))
     (pss_cons (ps_set (i := 4) sc_answers.nd rfl (Or.inl rfl) (call_meth0 D_take_one T.cr (hr.mono (by decide)) (pv 2)))
     (pss_cons (ps_set (i := 5) sc_answers.nd rfl (Or.inl rfl) (call_def D_read_numbers (hr.mono (by decide)) rfl (pa_cons (pv 2) (pa_cons (pv 4) pa_nil))))
     (pss_cons (ps_set (i := 6) sc_answers.nd rfl (Or.inl rfl) (call_def D_answer_call (hr.mono (by decide)) rfl (pa_cons (pv 1) (pa_cons (pv 4) (pa_cons (pv 5) pa_nil)))))
     (pss_cons (ps_expr (pe_bm PySem.F.plainAttrs_list PySem.F.slot_list_append PySem.F.type_list_append mt_append (pv 3) (pa_cons (pe_callB call_len_seq (by rfl) T.b_len (by decide +kernel) (pa_cons (pv 6) pa_nil)) pa_nil)))
     (pss_one (ps_expr (pe_bm PySem.F.plainAttrs_list PySem.F.slot_list_extend PySem.F.type_list_extend mt_extend (pv 3) (pa_cons (pv 6) pa_nil)))))))))
     (pss_one (ps_ret (pv 3))))))), ?_⟩)
  · obtain ⟨a, ns, rfl, _⟩ := h
    rfl
  · obtain ⟨ca, l, rfl, hz, hask, hpos, hlen, k⟩ := h
    obtain ⟨cs, hcs, _, hbig⟩ := asked_calls hask
    obtain ⟨hans, hput, hok⟩ := answers_is hcs
    refine ⟨rfl, fun H1 fl ls0 s1 nfl nls0 hfl hls0 => ?_⟩
    refine ⟨_, rfl, ca, rfl, fun H2 rd s2 nrd hrd => ?_⟩
    refine ⟨(by show 0 ≤ sizeLine; decide), fun gv ngv => ?_⟩
    have s3 : Same H2 (upd H2 gv (.lst [])) := Same.new ngv
    refine while_by (fun σ H' => ∃ (v4 v5 v6 : Option V) (b : Bool) (ls : Addr) (as : List Addr) (rs : List R) (rest : List (List (List Int))) (out : List Int) (i : Nat), σ = [some (.ref ca), some (.ref fl), some (.ref rd), some (.ref gv), v4, v5, v6] ∧ Fl CL CS CF H' fl b ls as rs ∧ Goods rs ∧ rs.length ≤ 4 ∧ ReaderAt CR H' rd ca i ∧ Fz K H' ca l ∧ H' gv = some (.lst (out.map V.int)) ∧ gv ≠ ls ∧
      l.drop i = PyFlat.put rest ∧ i ≤ l.length ∧ (∀ c ∈ rest, PyFlat.okCall PyKv334.shape c) ∧ out ++ PyFlat.told (mPlay b rs rest) = PyKv334.answers l) (fun σ H' => match H' rd with | some (.ins _ _ [_, (_, .int i)]) => l.length - i.toNat | _ => 0) ?_ ?_ ?_
    · refine ⟨none, none, none, false, ls0, [], [], cs, [], 0, rfl, ⟨?_, ?_, rfl, List.nodup_nil, fun i c r x y => (by cases y)⟩, fun i r e => (by cases e), Nat.zero_le _, hrd.same s3, ?_, upd_same, ?_, hput, Nat.zero_le _, hok, hans.symm⟩
      · obtain ⟨dx, e⟩ := hfl
        exact ⟨dx, s3 _ _ (s2 _ _ e)⟩
      · exact s3 _ _ (s2 _ _ hls0)
      · exact hz.kept fun o u e => s3 _ _ (s2 _ _ (s1 _ _ e))
      · rintro rfl
        rw [s2 _ _ hls0] at ngv
        cases ngv
    · rintro σ H' ⟨v4, v5, v6, b, ls, as, rs, rest, out, i, rfl, hF, hG, h4, hR, hZ, hgv, hgl, hd, hi, hok, hout⟩
      obtain ⟨dr, hR0⟩ := id hR
      refine ⟨_, rfl, rd, dr, _, rfl, hR0, r_no _ (by decide +kernel) (by decide +kernel) _ _, rd, ca, i, l, rfl, hR, hZ.calls, _, rfl, ?_⟩
      by_cases hend : l.length ≤ i
      · rw [decide_eq_true hend]
        refine if_false_of rfl ?_
        have er : rest = [] := by
          rw [List.drop_eq_nil_of_le hend] at hd
          cases rest with
          | nil => rfl
          | cons c r =>
            obtain ⟨p, ar, xs, rfl, _⟩ := hok c (List.mem_cons_self ..)
            cases hd
        subst er
        refine ⟨_, rfl, k H' gv ?_⟩
        rw [← hout]
        show H' gv = some (.lst ((out ++ []).map V.int))
        rw [List.append_nil]
        exact hgv
      · rw [decide_eq_false hend]
        refine if_true_of rfl ?_
        obtain ⟨c, r, rfl⟩ : ∃ c r, rest = c :: r := by
          cases rest with
          | nil =>
            have := congrArg List.length hd
            rw [List.length_drop] at this
            have z : (PyFlat.put []).length = 0 := rfl
            omega
          | cons c r => exact ⟨c, r, rfl⟩
        obtain ⟨p, ar, xs, rfl, hsh⟩ := hok c (List.mem_cons_self ..)
        obtain ⟨j, rfl, _, hj23⟩ := shape_cases hsh
        have hd1 : l.drop i = (j : Int) :: (ar ++ (PyFlat.putRows xs ++ PyFlat.put r)) := by
          rw [hd]
          show ((j : Int) :: ar ++ PyFlat.putRows xs) ++ PyFlat.put r = _
          rw [List.cons_append, List.cons_append, List.append_assoc]
        have hz0 : l[i]? = some (j : Int) := by
          have := congrArg (fun q => q[0]?) hd1
          simpa using this
        have hd2 : l.drop (i + 1) = ar ++ (PyFlat.putRows xs ++ PyFlat.put r) := by
          rw [← List.drop_drop, hd1]
          rfl
        have hmem : ∀ z ∈ ar ++ xs.flatten, 0 ≤ z := by
          intro z hz'
          refine hpos z (List.mem_of_mem_drop (i := i + 1) ?_)
          rw [hd2]
          rw [List.mem_append] at hz' ⊢
          rcases hz' with q | q
          · exact .inl q
          · exact .inr (List.mem_append.mpr (.inl (put_mem xs z q)))
        have hl2 : i + 1 + (ar.length + ((PyFlat.putRows xs).length + (PyFlat.put r).length)) = l.length := by
          have := congrArg List.length hd1
          rw [List.length_drop, List.length_cons, List.length_append, List.length_append] at this
          omega
        refine ⟨_, rfl, rd, dr, _, rfl, hR0, r_no _ (by decide +kernel) (by decide +kernel) _ _, rd, ca, i, l, j, rfl, hR, hZ.calls, hz0, fun H3 k3 hR3 => ?_⟩
        have keepI : ∀ {Ha Hb : Hp}, Keep rd Ha Hb → ReaderAt CR Ha rd ca i ∨ ReaderAt CR Ha rd ca (i + 1) → ∀ {b : Bool} {ls : Addr} {as : List Addr} {rs : List R}, Fl CL CS CF Ha fl b ls as rs → Fl CL CS CF Hb fl b ls as rs := by
          intro Ha Hb kk hrr b ls as rs ff
          have nef : rd ≠ fl := by
            rcases hrr with q | q
            · exact fr_ne ff.fl q
            · exact fr_ne ff.fl q
          have nei : ∃ dd fs, Ha rd = some (.ins CR dd fs) := by
            rcases hrr with ⟨dd, q⟩ | ⟨dd, q⟩
            · exact ⟨dd, _, q⟩
            · exact ⟨dd, _, q⟩
          obtain ⟨dd, fs, hrd'⟩ := nei
          refine ff.kept (fun dx e => kk _ _ e nef.symm) (fun e => kk _ _ e (ne_of e hrd' (by intro z; cases z))) fun cc rr hh => ?_
          have nec : rd ≠ cc := by
            rcases hrr with q | q
            · exact sr_ne hh q
            · exact sr_ne hh q
          obtain ⟨la, ⟨dx, e1⟩, ⟨dl, e2⟩⟩ := hh
          have nel : la ≠ rd := by
            rintro rfl
            have key : ∀ {ii : Nat}, ReaderAt CR Ha la ca ii → False := by
              rintro ii ⟨dy, q⟩
              rw [e2] at q
              injection q with z
              injection z with z1 z2 z3
              exact absurd z3 (by unfold lF rF; intro q; injection q with q1 q2; injection q1 with q3 q4; exact absurd q3 (by decide +kernel))
            rcases hrr with q | q
            · exact key q
            · exact key q
          exact ⟨la, ⟨dx, kk _ _ e1 nec.symm⟩, ⟨dl, kk _ _ e2 nel⟩⟩
        have hF3 := keepI k3 (.inl hR) hF
        have hZ3 : Fz K H3 ca l := hZ.kept fun o u e => k3 _ _ e (ne_of e hR0 (by intro z; cases z))
        have hgv3 := k3 _ _ hgv (ne_of hgv hR0 (by intro z; cases z))
        refine ⟨_, rfl, _, rfl, rd, ca, i + 1, j, l, ar, PyFlat.put r, xs, rfl, hR3, hZ3.calls, hd2, hsh, hlen, by omega, fun H4 q k4 hR4 nq hq => ?_⟩
        obtain ⟨dr3, hR30⟩ := id hR3
        have hF4 := keepI k4 (.inr hR3) hF3
        have hZ4 : Fz K H4 ca l := hZ3.kept fun o u e => k4 _ _ e (ne_of e hR30 (by intro z; cases z))
        have hgv4 := k4 _ _ hgv3 (ne_of hgv3 hR30 (by intro z; cases z))
        have hn : NumsAt H4 q (natsOf (((j : Int) :: ar) :: xs)) := by
          show H4 q = some (.lst (((ar ++ xs.flatten).map Int.toNat).map fun (n : Nat) => V.int (n : Int)))
          rw [nats_back hmem]
          exact hq
        have hfit : Fits j (natsOf (((j : Int) :: ar) :: xs)) := by
          obtain ⟨w1, w2, w3⟩ := shape_whole hsh
          have hl : (natsOf (((j : Int) :: ar) :: xs)).length = ar.length + xs.flatten.length := by
            show ((ar ++ xs.flatten).map Int.toNat).length = _
            rw [List.length_map, List.length_append]
          refine ⟨fun h17 => ?_, fun h17 => ?_, w3, ?_⟩
          · rw [if_neg h17] at w2
            obtain rfl := ln0 w2
            rw [w1, hl]
            rfl
          · rw [hl]
            subst h17
            have w1' : (some 1 : Option Nat) = some ar.length := w1
            have := Option.some.inj w1'
            omega
          · rw [hl]
            by_cases h17 : j = 17
            · rw [if_pos h17] at w2
              obtain ⟨t, rfl⟩ := ln1 w2
              have e1 : (PyFlat.putRows [t]).length = t.length + 1 := by
                show (((t.length : Int) :: t) ++ []).length = _
                rw [List.append_nil]
                rfl
              have e2 : ([t] : List (List Int)).flatten.length = t.length := by simp
              omega
            · rw [if_neg h17] at w2
              obtain rfl := ln0 w2
              have e2 : ([] : List (List Int)).flatten.length = 0 := rfl
              omega
        refine ⟨_, rfl, _, rfl, _, rfl, fl, q, ls, b, as, rs, j, _, rfl, hF4, hG, h4, hn, hfit, fun H5 pa ls' as' k5 hF5 hls' npa hpa => ?_⟩
        have hcall := good_call (b := b) hG h4 j (natsOf (((j : Int) :: ar) :: xs))
        obtain ⟨dr4, hR40⟩ := id hR4
        have ner : ∀ c ∈ as, rd ≠ c := fun c hc => by
          obtain ⟨rr, hh⟩ := hF4.mem hc
          exact sr_ne hh hR4
        have hR5 : ReaderAt CR H5 rd ca (i + 1 + ar.length + (PyFlat.putRows xs).length) := ⟨dr4, k5 _ _ hR40 (fr_ne hF4.fl hR4) (ne_of hR40 hF4.li (by intro z; cases z)) fun hc => ner _ hc rfl⟩
        have nelst : ∀ {g : Addr} {ys : List V}, H4 g = some (.lst ys) → g ∉ as := fun hg hc => by
          obtain ⟨rr, hh⟩ := hF4.mem hc
          obtain ⟨dx, fs, e⟩ := hh.ins
          rw [e] at hg
          cases hg
        have hgf : gv ≠ fl := by
          obtain ⟨dx, e⟩ := hF4.fl
          exact ne_of hgv4 e (by intro z; cases z)
        have hgv5 := k5 _ _ hgv4 hgf hgl (nelst hgv4)
        have hZ5 : Fz K H5 ca l := hZ4.kept fun o u e => by
          obtain ⟨dx, ef⟩ := hF4.fl
          refine k5 _ _ e (ne_of e ef (by intro z; cases z)) (ne_of e hF4.li (by intro z; cases z)) fun hc => ?_
          obtain ⟨rr, hh⟩ := hF4.mem hc
          obtain ⟨dy, fs, e'⟩ := hh.ins
          rw [e'] at e
          cases e
        have hgl' : gv ≠ ls' := by
          rcases hls' with rfl | nls
          · exact hgl
          · rintro rfl
            rw [hgv4] at nls
            cases nls
        have npg : pa ≠ gv := by
          rintro rfl
          rw [hgv4] at npa
          cases npa
        have hplay : mPlay b rs ((((j : Int) :: ar) :: xs) :: r) = (mCall b rs j (natsOf (((j : Int) :: ar) :: xs))).2 :: mPlay (mCall b rs j (natsOf (((j : Int) :: ar) :: xs))).1.1 (mCall b rs j (natsOf (((j : Int) :: ar) :: xs))).1.2 r := rfl
        rw [hplay, told_cons] at hout
        generalize hres : mCall b rs j (natsOf (((j : Int) :: ar) :: xs)) = res at hout hF5 hpa hcall
        have hbl : out.length + (1 + (res.2.length + (PyFlat.told (mPlay res.1.1 res.1.2 r)).length)) ≤ 10000000 := by
          have := congrArg List.length hout
          rw [List.length_append, List.length_cons, List.length_append] at this
          omega
        refine ⟨_, rfl, .inl ⟨rfl, _, SqL.of hgv5⟩, ?_⟩
        refine ⟨_, rfl, pa, _, rfl, .inl (SqL.of hpa), gv, _, _, rfl, rfl, hgv5, ?_, ?_⟩
        · rw [List.length_map]
          exact Nat.lt_of_le_of_lt (by omega : out.length ≤ 10000000) (by decide)
        refine ⟨_, rfl, .inl ⟨rfl, _, SqL.of upd_same⟩, ?_⟩
        have hpa' : ∀ o, upd H5 gv o pa = some (.lst (res.2.map V.int)) := fun o => by
          rw [upd_ne npg]
          exact hpa
        refine ⟨_, rfl, gv, pa, _, _, rfl, rfl, upd_same, hpa' _, ?_, ?_⟩
        · rw [List.length_append, List.length_map, List.length_map]
          exact Nat.le_trans (by show out.length + 1 + res.2.length ≤ 10000000; omega) (by decide)
        rw [upd_upd]
        refine ⟨⟨_, _, _, res.1.1, ls', as', res.1.2, r, out ++ ((res.2.length : Int) :: res.2), i + 1 + ar.length + (PyFlat.putRows xs).length, rfl, ?_, hcall.1, hcall.2, ?_, ?_, ?_, hgl', ?_, by omega, fun c hc => hok c (List.mem_cons_of_mem _ hc), ?_⟩, ?_⟩
        · refine hF5.kept (fun dx e => ?_) (fun e => ?_) fun cc rr hh => hh.past hgv5
          · rw [upd_ne (ne_of e hgv5 (by intro z; cases z))]
            exact e
          · rw [upd_ne hgl'.symm]
            exact e
        · obtain ⟨dx, e⟩ := hR5
          exact ⟨dx, by rw [upd_ne (ne_of e hgv5 (by intro z; cases z))]; exact e⟩
        · exact hZ5.kept fun o u e => by
            rw [upd_ne (ne_of e hgv5 (by intro z; cases z))]
            exact e
        · rw [upd_same, List.map_append, List.map_cons, List.append_assoc, List.length_map]
          rfl
        · rw [← List.drop_drop, ← List.drop_drop, hd2, List.drop_left, List.drop_left]
        · rw [List.append_assoc]
          exact hout
        · have q1 : upd H5 gv (.lst ((out.map V.int ++ [V.int ((List.map V.int res.2).length : Int)]) ++ res.2.map V.int)) rd = some (.ins CR dr4 (rF ca (i + 1 + ar.length + (PyFlat.putRows xs).length))) := by
            obtain ⟨dx, e⟩ := id hR5
            have e' := k5 _ _ hR40 (fr_ne hF4.fl hR4) (ne_of hR40 hF4.li (by intro z; cases z)) fun hc => ner _ hc rfl
            rw [upd_ne (ne_of e' hgv5 (by intro z; cases z))]
            exact e'
          show (match upd H5 gv (.lst ((out.map V.int ++ [V.int ((List.map V.int res.2).length : Int)]) ++ res.2.map V.int)) rd with | some (.ins _ _ [_, (_, .int i)]) => l.length - i.toNat | _ => 0) < (match H' rd with | some (.ins _ _ [_, (_, .int i)]) => l.length - i.toNat | _ => 0)
          rw [q1, hR0]
          show l.length - ((i + 1 + ar.length + (PyFlat.putRows xs).length : Nat) : Int).toNat < l.length - ((i : Nat) : Int).toNat
          rw [Int.toNat_natCast, Int.toNat_natCast]
          omega
    · intro σ H' Q1 Q2 hq hc
      obtain ⟨v, hv, a', dx, fs, rfl, h1, h2, a2, c2, i2, n2, e2, hr2, hc2, d2, ed, q2⟩ := hc
      exact ⟨_, hv, a', dx, fs, rfl, h1, h2, a2, c2, i2, n2, e2, hr2, hc2, d2, ed, hq _ _ q2⟩
end
end Hop

/-! ### the calls rate to look that name a ship -/
namespace Hop
open PySem PySem.Spec PyProof.Rows L2
open Kv334 (Load Ship none_ pairs rises okTable draft)
/-- a call on a ship with however many numbers -/
def spD (CL CS : Addr) (g : R → List Nat → R × List Int) : Sp := fun vs H Q _ => ∃ (a q : Addr) (r : R) (ns : List Nat), vs = [.ref a, .ref q] ∧ RecAt CL CS H a r ∧ GoodR r ∧ NumsAt H q ns ∧ SA CL CS H a (g r ns) Q
section
variable {P : Program} {w : World} {K : PySem.W.Frag} {mg : Str → Option Value} {base : Heap} {CL CS : Addr}
abbrev s_answer_rate : Stmt := top 64
theorem sc_answer_rate : FnScope ["ship", "numbers", "n", "rest", "sand"] ["ship", "numbers"] (defScope s_answer_rate) := ⟨rfl, rfl, rfl, by decide +kernel, rfl, by decide +kernel, by decide +kernel⟩
theorem ok_rate {f : Addr} {fd : FuncData} (F : Fun K "answer_rate" "answer_rate" s_answer_rate f fd) (T : Txt2 K mg CL CS) (D_outside : Def P w K mg base 1 "outside" spOut) (D_load_from_empty : Def P w K mg base 7 "load_from_empty" (spLoadN CL CS)) :
    FnOk P w K mg base CX0 9 f fd ["ship", "numbers"] (spS CL CS 2 fun r ns => (r, mRate r (ns.getD 0 0) (ns.getD 1 0))) := by
  refine F.ok sc_answer_rate (fun vs H Q E h => ?_) (fun cdv A outer s H vs Q E hr h => ⟨_, (pss_cons (ps_set (i := 2) sc_answer_rate.nd rfl (Or.inl rfl) (pe_ix ix_list (pv 1) pe_int (fun _ _ => rfl)))
     (pss_cons (ps_set (i := 3) sc_answer_rate.nd rfl (Or.inl rfl) (pe_ix ix_list (pv 1) pe_int (fun _ _ => rfl)))
     (pss_cons (ps_if (PW.pt (pw_or (pt_cmpR op_gt (pv 2) (gint T.c_MOST_MINUTES rfl) (nomark _)) (pw_or1 (pt_val (call_def D_outside (hr.mono (by decide)) rfl (pa_cons (pv 3) (pa_cons pe_int (pa_cons (gint T.c_MOST_REST rfl) pa_nil))))))))
     (pss_one (ps_ret (pe_lst (pa_cons (gint T.c_OUT_OF_RANGE rfl) pa_nil))))
     pss_nil)
     (pss_cons (ps_set (i := 4) sc_answer_rate.nd rfl (Or.inl rfl) (pe_op op_mul (pe_fld (call_def D_load_from_empty (hr.mono (by decide)) rfl (pa_cons (pv 0) (pa_cons (pv 2) pa_nil))) rfl) (gint T.c_MINUTES_OF_HOUR rfl)))
     (pss_one (ps_ret (pe_lst (pa_cons (pe_op op_fdiv (pv 4) (pe_op op_add (pv 2) (pv 3))) (pa_cons (pe_op op_mod (pv 4) (pe_op op_add (pv 2) (pv 3))) pa_nil))))))))), ?_⟩)
  · obtain ⟨a, q, r, ns, rfl, _⟩ := h
    rfl
  · obtain ⟨a, q, r, ns, rfl, hR, gr, hn, hlen, k⟩ := h
    obtain ⟨n, m, rfl⟩ := len2 hlen
    replace k : SA CL CS H a (r, mRate r n m) Q := k
    obtain ⟨la, hs, hl⟩ := id hR
    have refuse : 200 < n ∨ m = 0 ∨ 2000 < m → ∀ p, H p = none → Q (.ref p) (upd H p (.lst [.int (-22)])) := fun c p np => by
      rw [show mRate r n m = [-22] from if_pos c] at k
      exact k.say hR (Same.refl _) np rfl
    refine ⟨_, rfl, q, _, _, .int n, rfl, rfl, SqL.of hn, atI_nat (j := 0) rfl, ?_⟩
    refine ⟨_, rfl, q, _, _, .int m, rfl, rfl, SqL.of hn, atI_nat (j := 1) rfl, ?_⟩
    refine ⟨_, rfl, _, _, rfl, rfl, _, rfl, ?_⟩
    refine if_both (fun c1 => ?_) (fun c1 => ?_)
    · rw [decide_eq_true_eq] at c1
      exact if_true_of rfl ⟨(by show 1 ≤ sizeLine; decide), refuse (by omega)⟩
    rw [decide_eq_false_iff_not] at c1
    refine ⟨_, rfl, _, _, _, rfl, _, rfl, ?_⟩
    refine if_both (fun c2 => ?_) (fun c2 => ?_)
    · rw [Bool.or_eq_true, decide_eq_true_eq, decide_eq_true_eq] at c2
      exact ⟨(by show 1 ≤ sizeLine; decide), refuse (by omega)⟩
    rw [Bool.or_eq_false_iff, decide_eq_false_iff_not, decide_eq_false_iff_not] at c2
    have cn : ¬ (200 < n ∨ m = 0 ∨ 2000 < m) := by omega
    rw [show mRate r n m = _ from if_neg cn] at k
    refine ⟨_, rfl, _, rfl, a, la, r.x, r.t, r.c, n, rfl, hs, gr.gs, by omega, fun H1 b s1 hlb => ?_⟩
    refine f_sand T.toCls2 hlb ⟨_, _, rfl, rfl, .inr ⟨by decide, by decide⟩, ?_⟩
    refine ⟨_, rfl, _, rfl, _, rfl, _, _, rfl, rfl, _, _, rfl, rfl, ⟨by omega, by omega⟩, ?_⟩
    refine ⟨_, rfl, _, rfl, _, rfl, _, _, rfl, rfl, _, _, rfl, rfl, (by show (0 : Int) < (n : Int) + (m : Int); omega), ?_⟩
    exact ⟨(by show 2 ≤ sizeLine; decide), fun p np => k.say hR s1 np rfl⟩
abbrev s_answer_trips : Stmt := top 65
theorem sc_answer_trips : FnScope ["ship", "numbers", "rest", "day", "load", "trips"] ["ship", "numbers"] (defScope s_answer_trips) := ⟨rfl, rfl, rfl, by decide +kernel, rfl, by decide +kernel, by decide +kernel⟩
theorem ok_trips {f : Addr} {fd : FuncData} (F : Fun K "answer_trips" "answer_trips" s_answer_trips f fd) (T : Txt2 K mg CL CS) (D_outside : Def P w K mg base 1 "outside" spOut) (D_best_load : Def P w K mg base 8 "best_load" (spBest CL CS)) :
    FnOk P w K mg base CX0 9 f fd ["ship", "numbers"] (spS CL CS 2 fun r ns => (r, mTrips r (ns.getD 0 0) (ns.getD 1 0))) := by
  refine F.ok sc_answer_trips (fun vs H Q E h => ?_) (fun cdv A outer s H vs Q E hr h => ⟨_, (pss_cons (ps_set (i := 2) sc_answer_trips.nd rfl (Or.inl rfl) (pe_ix ix_list (pv 1) pe_int (fun _ _ => rfl)))
     (pss_cons (ps_set (i := 3) sc_answer_trips.nd rfl (Or.inl rfl) (pe_ix ix_list (pv 1) pe_int (fun _ _ => rfl)))
     (pss_cons (ps_if (PW.pt (pw_or (pt_val (call_def D_outside (hr.mono (by decide)) rfl (pa_cons (pv 2) (pa_cons pe_int (pa_cons (gint T.c_MOST_REST rfl) pa_nil))))) (pw_or1 (pt_cmpR op_gt (pv 3) (gint T.c_MOST_DAY rfl) (nomark _)))))
     (pss_one (ps_ret (pe_lst (pa_cons (gint T.c_OUT_OF_RANGE rfl) pa_nil))))
     pss_nil)
     (pss_cons (ps_set (i := 4) sc_answer_trips.nd rfl (Or.inl rfl) (call_def D_best_load (hr.mono (by decide)) rfl (pa_cons (pv 0) (pa_cons (pv 2) pa_nil))))
     (pss_cons (ps_set (i := 5) sc_answer_trips.nd rfl (Or.inl rfl) (pe_op op_fdiv (pv 3) (pe_op op_add (pe_fld (pv 4) rfl) (pv 2))))
     (pss_one (ps_ret (pe_lst (pa_cons (pv 5) (pa_cons (pe_op op_mul (pv 5) (pe_fld (pv 4) rfl)) (pa_cons (pe_fld (pv 4) rfl) pa_nil))))))))))), ?_⟩)
  · obtain ⟨a, q, r, ns, rfl, _⟩ := h
    rfl
  · obtain ⟨a, q, r, ns, rfl, hR, gr, hn, hlen, k⟩ := h
    obtain ⟨n, m, rfl⟩ := len2 hlen
    replace k : SA CL CS H a (r, mTrips r n m) Q := k
    obtain ⟨la, hs, hl⟩ := id hR
    have refuse : n = 0 ∨ 2000 < n ∨ 100000 < m → ∀ p, H p = none → Q (.ref p) (upd H p (.lst [.int (-22)])) := fun c p np => by
      rw [show mTrips r n m = [-22] from if_pos c] at k
      exact k.say hR (Same.refl _) np rfl
    refine ⟨_, rfl, q, _, _, .int n, rfl, rfl, SqL.of hn, atI_nat (j := 0) rfl, ?_⟩
    refine ⟨_, rfl, q, _, _, .int m, rfl, rfl, SqL.of hn, atI_nat (j := 1) rfl, ?_⟩
    refine ⟨_, rfl, _, _, _, rfl, _, rfl, ?_⟩
    refine if_both (fun c2 => ?_) (fun c2 => ?_)
    · rw [Bool.or_eq_true, decide_eq_true_eq, decide_eq_true_eq] at c2
      exact if_true_of rfl ⟨(by show 1 ≤ sizeLine; decide), refuse (by omega)⟩
    rw [Bool.or_eq_false_iff, decide_eq_false_iff_not, decide_eq_false_iff_not] at c2
    refine ⟨_, rfl, _, _, rfl, rfl, _, rfl, ?_⟩
    refine if_both (fun c1 => ?_) (fun c1 => ?_)
    · rw [decide_eq_true_eq] at c1
      exact ⟨(by show 1 ≤ sizeLine; decide), refuse (by omega)⟩
    rw [decide_eq_false_iff_not] at c1
    have cn : ¬ (n = 0 ∨ 2000 < n ∨ 100000 < m) := by omega
    rw [show mTrips r n m = _ from if_neg cn] at k
    refine ⟨_, rfl, _, rfl, a, la, r.x, r.t, r.c, n, rfl, hs, gr.gs, fun H1 b i s1 hb hbest hm => ?_⟩
    rw [hbest] at k
    have hsand := after_sand gr.gs i
    refine ⟨_, rfl, _, rfl, f_minutes T.toCls2 hb ?_⟩
    rw [after_filled]
    refine ⟨_, rfl, _, _, rfl, rfl, _, _, rfl, rfl, ⟨by omega, by omega⟩, ?_⟩
    refine ⟨_, rfl, _, rfl, _, rfl, f_sand T.toCls2 hb ⟨_, _, rfl, rfl, .inr ⟨by omega, by omega⟩, ?_⟩⟩
    refine ⟨_, rfl, f_minutes T.toCls2 hb ?_⟩
    rw [after_filled]
    exact ⟨(by show 3 ≤ sizeLine; decide), fun p np => k.say hR s1 np rfl⟩
abbrev s_answer_keeps : Stmt := top 66
theorem sc_answer_keeps : FnScope ["ship", "numbers", "k"] ["ship", "numbers"] (defScope s_answer_keeps) := ⟨rfl, rfl, rfl, by decide +kernel, rfl, by decide +kernel, by decide +kernel⟩
theorem ok_keeps {f : Addr} {fd : FuncData} (F : Fun K "answer_keeps" "answer_keeps" s_answer_keeps f fd) (T : Txt2 K mg CL CS) (D_kept_hundredths : Def P w K mg base 1 "kept_hundredths" (spKept CS)) : FnOk P w K mg base CX0 9 f fd ["ship", "numbers"] (spS CL CS 1 fun r ns => (r, mKeeps r (ns.getD 0 0))) := by
  refine F.ok sc_answer_keeps (fun vs H Q E h => ?_) (fun cdv A outer s H vs Q E hr h => ⟨_, (pss_cons (ps_set (i := 2) sc_answer_keeps.nd rfl (Or.inl rfl) (pe_ix ix_list (pv 1) pe_int (fun _ _ => rfl)))
     (pss_cons (ps_if (pt_cmpR op_gt (pv 2) (gint T.c_MOST_MINUTES rfl) (nomark _))
     (pss_one (ps_ret (pe_lst (pa_cons (gint T.c_OUT_OF_RANGE rfl) pa_nil))))
     pss_nil)
     (pss_one (ps_ret (pe_lst (pa_cons (call_def D_kept_hundredths (hr.mono (by decide)) rfl (pa_cons (pv 0) (pa_cons (pv 2) pa_nil))) pa_nil)))))), ?_⟩)
  · obtain ⟨a, q, r, ns, rfl, _⟩ := h
    rfl
  · obtain ⟨a, q, r, ns, rfl, hR, gr, hn, hlen, k⟩ := h
    obtain ⟨n, rfl⟩ := len1 hlen
    replace k : SA CL CS H a (r, mKeeps r n) Q := k
    obtain ⟨la, hs, hl⟩ := id hR
    refine ⟨_, rfl, q, _, _, .int n, rfl, rfl, SqL.of hn, atI_nat (j := 0) rfl, ?_⟩
    refine ⟨_, rfl, _, _, rfl, rfl, _, rfl, ?_⟩
    by_cases c1 : 200 < n
    · refine if_true_of (decide_eq_true (by omega)) ?_
      rw [show mKeeps r n = [-22] from if_pos c1] at k
      exact ⟨(by show 1 ≤ sizeLine; decide), fun p np => k.say hR (Same.refl _) np rfl⟩
    · refine if_false_of (decide_eq_false (by omega)) ?_
      rw [show mKeeps r n = _ from if_neg c1] at k
      refine ⟨_, rfl, _, rfl, a, la, r.x, r.t, r.c, n, rfl, hs, gr.gs.loss2, ?_⟩
      exact ⟨(by show 1 ≤ sizeLine; decide), fun p np => k.say hR (Same.refl _) np rfl⟩
abbrev s_answer_lost : Stmt := top 67
theorem sc_answer_lost : FnScope ["ship", "numbers", "n", "load", "came"] ["ship", "numbers"] (defScope s_answer_lost) := ⟨rfl, rfl, rfl, by decide +kernel, rfl, by decide +kernel, by decide +kernel⟩
theorem ok_lost {f : Addr} {fd : FuncData} (F : Fun K "answer_lost" "answer_lost" s_answer_lost f fd) (T : Txt2 K mg CL CS) (D_outside : Def P w K mg base 1 "outside" spOut) (D_load_from_empty : Def P w K mg base 7 "load_from_empty" (spLoadN CL CS)) : FnOk P w K mg base CX0 9 f fd ["ship", "numbers"] (spS CL CS 1 fun r ns => (r, mLost r (ns.getD 0 0))) := by
  refine F.ok sc_answer_lost (fun vs H Q E h => ?_) (fun cdv A outer s H vs Q E hr h => ⟨_, (pss_cons (ps_set (i := 2) sc_answer_lost.nd rfl (Or.inl rfl) (pe_ix ix_list (pv 1) pe_int (fun _ _ => rfl)))
     (pss_cons (ps_if (pt_val (call_def D_outside (hr.mono (by decide)) rfl (pa_cons (pv 2) (pa_cons pe_int (pa_cons (gint T.c_MOST_MINUTES rfl) pa_nil)))))
     (pss_one (ps_ret (pe_lst (pa_cons (gint T.c_OUT_OF_RANGE rfl) pa_nil))))
     pss_nil)
     (pss_cons (ps_set (i := 3) sc_answer_lost.nd rfl (Or.inl rfl) (call_def D_load_from_empty (hr.mono (by decide)) rfl (pa_cons (pv 0) (pa_cons (pv 2) pa_nil))))
     (pss_cons (ps_set (i := 4) sc_answer_lost.nd rfl (Or.inl rfl) (pe_op op_add (pe_fld (pv 3) rfl) (pe_fld (pv 3) rfl)))
     (pss_one (ps_ret (pe_lst (pa_cons (pe_op op_fdiv (pe_op op_mul (pe_fld (pv 3) rfl) pe_int) (pv 4)) (pa_cons (pe_fld (pv 3) rfl) pa_nil))))))))), ?_⟩)
  · obtain ⟨a, q, r, ns, rfl, _⟩ := h
    rfl
  · obtain ⟨a, q, r, ns, rfl, hR, gr, hn, hlen, k⟩ := h
    obtain ⟨n, rfl⟩ := len1 hlen
    replace k : SA CL CS H a (r, mLost r n) Q := k
    obtain ⟨la, hs, hl⟩ := id hR
    refine ⟨_, rfl, q, _, _, .int n, rfl, rfl, SqL.of hn, atI_nat (j := 0) rfl, ?_⟩
    refine ⟨_, rfl, _, _, _, rfl, _, rfl, ?_⟩
    by_cases c1 : n = 0 ∨ 200 < n
    · refine if_true_of ?_ ?_
      · rw [Bool.or_eq_true, decide_eq_true_eq, decide_eq_true_eq]
        omega
      · rw [show mLost r n = [-22] from if_pos c1] at k
        exact ⟨(by show 1 ≤ sizeLine; decide), fun p np => k.say hR (Same.refl _) np rfl⟩
    · refine if_false_of ?_ ?_
      · rw [Bool.or_eq_false_iff, decide_eq_false_iff_not, decide_eq_false_iff_not]
        omega
      · rw [show mLost r n = _ from if_neg c1] at k
        refine ⟨_, rfl, _, rfl, a, la, r.x, r.t, r.c, n, rfl, hs, gr.gs, by omega, fun H1 b s1 hlb => ?_⟩
        have hc := after_came r.x n
        have hlo : 1 ≤ n * r.x.flow * r.x.solid := Nat.mul_pos (Nat.mul_pos (by omega) gr.gs.flow1) gr.gs.solid1
        have hhi : n * r.x.flow * r.x.solid ≤ 200 * 200 * 60 := Nat.mul_le_mul (Nat.mul_le_mul (by omega) gr.gs.flow2) gr.gs.solid2
        refine ⟨_, rfl, f_sand T.toCls2 hlb ⟨_, rfl, f_gone T.toCls2 hlb ⟨_, _, rfl, rfl, ?_⟩⟩⟩
        refine ⟨_, rfl, f_gone T.toCls2 hlb ⟨_, _, rfl, rfl, .inr ⟨by decide, by decide⟩, ?_⟩⟩
        have e : ((r.x.after n).sand : Int) + ((r.x.after n).gone : Int) = ((n * r.x.flow * r.x.solid : Nat) : Int) := by omega
        refine ⟨_, rfl, _, _, rfl, rfl, ?_⟩
        rw [e]
        refine ⟨⟨by omega, by omega⟩, ?_⟩
        refine ⟨_, rfl, f_gone T.toCls2 hlb ?_⟩
        exact ⟨(by show 2 ≤ sizeLine; decide), fun p np => k.say hR s1 np rfl⟩
abbrev s_answer_wet : Stmt := top 68
theorem sc_answer_wet : FnScope ["ship", "numbers", "load"] ["ship", "numbers"] (defScope s_answer_wet) := ⟨rfl, rfl, rfl, by decide +kernel, rfl, by decide +kernel, by decide +kernel⟩
theorem ok_wet {f : Addr} {fd : FuncData} (F : Fun K "answer_wet" "answer_wet" s_answer_wet f fd) (T : Txt2 K mg CL CS) : FnOk P w K mg base CX0 9 f fd ["ship", "numbers"] (spS CL CS 0 fun r _ => (r, mWet r)) := by
  refine F.ok sc_answer_wet (fun vs H Q E h => ?_) (fun cdv A outer s H vs Q E hr h => ⟨_, (pss_cons (ps_set (i := 2) sc_answer_wet.nd rfl (Or.inl rfl) (pe_fld (pv 0) rfl))
     (pss_cons (ps_if (pt_cmpR op_eq (pe_fld (pv 2) rfl) pe_int (nomark _))
     (pss_one (ps_ret (pe_lst (pa_cons (gint T.c_NONE_THERE rfl) pa_nil))))
     pss_nil)
     (pss_one (ps_ret (pe_lst (pa_cons (pe_op op_fdiv (pe_op op_mul (pe_fld (pv 2) rfl) pe_int) (pe_op op_add (pe_fld (pv 2) rfl) (pe_fld (pv 2) rfl))) pa_nil)))))), ?_⟩)
  · obtain ⟨a, q, r, ns, rfl, _⟩ := h
    rfl
  · obtain ⟨a, q, r, ns, rfl, hR, gr, hn, hlen, k⟩ := h
    replace k : SA CL CS H a (r, mWet r) Q := k
    obtain ⟨la, hs, hl⟩ := id hR
    refine ⟨_, rfl, f_load T.toCls2 hs ?_⟩
    refine ⟨_, rfl, f_minutes T.toCls2 hl ⟨rfl, _, rfl, ?_⟩⟩
    by_cases hz : r.l.filled = 0
    · refine if_true_of (decide_eq_true (by rw [hz]; rfl)) ?_
      rw [show mWet r = [-6] from if_pos hz] at k
      exact ⟨(by show 1 ≤ sizeLine; decide), fun p np => k.say hR (Same.refl _) np rfl⟩
    · refine if_false_of (decide_eq_false (fun z => hz (by injection z with z; exact Int.ofNat.inj z))) ?_
      rw [show mWet r = _ from if_neg hz] at k
      have h1 := gr.gl.some1 hz
      have h2 := gr.gl.room
      have h3 := gr.gs.room2
      refine ⟨_, rfl, f_water T.toCls2 hl ⟨_, _, rfl, rfl, .inr ⟨by decide, by decide⟩, ?_⟩⟩
      refine ⟨_, rfl, f_sand T.toCls2 hl ⟨_, rfl, f_water T.toCls2 hl ⟨_, _, rfl, rfl, _, _, rfl, rfl, ⟨by omega, by omega⟩, ?_⟩⟩⟩
      exact ⟨(by show 1 ≤ sizeLine; decide), fun p np => k.say hR (Same.refl _) np rfl⟩
abbrev s_answer_look : Stmt := top 72
theorem sc_answer_look : FnScope ["ship", "numbers"] ["ship", "numbers"] (defScope s_answer_look) := ⟨rfl, rfl, rfl, by decide +kernel, rfl, by decide +kernel, by decide +kernel⟩
theorem ok_look {f : Addr} {fd : FuncData} (F : Fun K "answer_look" "answer_look" s_answer_look f fd) (T : Txt2 K mg CL CS) : FnOk P w K mg base CX0 9 f fd ["ship", "numbers"] (spS CL CS 0 fun r _ => (r, mLook r)) := by
  refine F.ok sc_answer_look (fun vs H Q E h => ?_) (fun cdv A outer s H vs Q E hr h => ⟨_, (pss_one (ps_ret (pe_lst (pa_cons (pe_fld (pv 0) rfl) (pa_cons (pe_fld (pv 0) rfl) (pa_cons (pe_fld (pv 0) rfl) (pa_cons (pe_fld (pv 0) rfl) (pa_cons (pe_fld (pv 0) rfl) (pa_cons (pe_fld (pv 0) rfl) pa_nil))))))))), ?_⟩)
  · obtain ⟨a, q, r, ns, rfl, _⟩ := h
    rfl
  · obtain ⟨a, q, r, ns, rfl, hR, gr, hn, hlen, k⟩ := h
    obtain ⟨la, hs, hl⟩ := id hR
    refine ⟨_, rfl, f_room T.toCls2 hs ⟨_, rfl, f_empty T.toCls2 hs ⟨_, rfl, f_most T.toCls2 hs ⟨_, rfl, f_flow T.toCls2 hs ⟨_, rfl, f_solid T.toCls2 hs ⟨_, rfl, f_loss T.toCls2 hs ?_⟩⟩⟩⟩⟩⟩
    exact ⟨(by show 6 ≤ sizeLine; decide), fun p np => SA.say k hR (Same.refl _) np rfl⟩
abbrev s_answer_reaches : Stmt := top 71
theorem sc_answer_reaches : FnScope ["ship", "numbers", "n", "load"] ["ship", "numbers"] (defScope s_answer_reaches) := ⟨rfl, rfl, rfl, by decide +kernel, rfl, by decide +kernel, by decide +kernel⟩
theorem ok_reaches {f : Addr} {fd : FuncData} (F : Fun K "answer_reaches" "answer_reaches" s_answer_reaches f fd) (T : Txt2 K mg CL CS) (D_allowed_loads : Def P w K mg base 7 "allowed_loads" (spAllowed CL CS)) : FnOk P w K mg base CX0 9 f fd ["ship", "numbers"] (spS CL CS 1 fun r ns => (r, mReaches r (ns.getD 0 0))) := by
  refine F.ok sc_answer_reaches (fun vs H Q E h => ?_) (fun cdv A outer s H vs Q E hr h => ⟨_, (pss_cons (ps_set (i := 2) sc_answer_reaches.nd rfl (Or.inl rfl) (pe_ix ix_list (pv 1) pe_int (fun _ _ => rfl)))
     (pss_cons (ps_if (pt_cmpR op_gt (pv 2) (gint T.c_MOST_REACHED rfl) (nomark _))
     (pss_one (ps_ret (pe_lst (pa_cons (gint T.c_OUT_OF_RANGE rfl) pa_nil))))
     pss_nil)
     (pss_cons (ps_for PassesOwn.never rfl (pi_list (call_def D_allowed_loads (hr.mono (by decide)) rfl (pa_cons (pv 0) pa_nil))) (pg_name (i := 3) sc_answer_reaches.nd rfl (Or.inl rfl))
     (pss_one (ps_if (pt_cmpR op_ge (pe_fld (pv 3) rfl) (pe_op op_mul (pv 2) (gint T.c_HUNDREDTHS rfl)) (nomark _))
     (pss_one (ps_ret (pe_lst (pa_cons (pe_fld (pv 3) rfl) pa_nil))))
     pss_nil)))
     (pss_one (ps_ret (pe_lst (pa_cons (gint T.c_NEVER rfl) pa_nil))))))), ?_⟩)
  · obtain ⟨a, q, r, ns, rfl, _⟩ := h
    rfl
  · obtain ⟨a, q, r, ns, rfl, hR, gr, hn, hlen, k⟩ := h
    obtain ⟨n, rfl⟩ := len1 hlen
    replace k : SA CL CS H a (r, mReaches r n) Q := k
    obtain ⟨la, hs, hl⟩ := id hR
    refine ⟨_, rfl, q, _, _, .int n, rfl, rfl, SqL.of hn, atI_nat (j := 0) rfl, ?_⟩
    refine ⟨_, rfl, _, _, rfl, rfl, _, rfl, ?_⟩
    by_cases c1 : 10000 < n
    · refine if_true_of (decide_eq_true (by omega)) ?_
      rw [show mReaches r n = [-22] from if_pos c1] at k
      exact ⟨(by show 1 ≤ sizeLine; decide), fun p np => k.say hR (Same.refl _) np rfl⟩
    · refine if_false_of (decide_eq_false (by omega)) ?_
      rw [show mReaches r n = _ from if_neg c1] at k
      refine ⟨_, rfl, a, la, r.x, r.t, r.c, rfl, hs, gr.gs, fun H1 pl as s1 npl hpl has hL => ?_⟩
      refine ⟨pl, rfl, ⟨_, SqL.of hpl⟩, ?_⟩
      refine for_list (K := K) (a := pl) (xs := as.map V.ref) (fun i σ H' => H' = H1 ∧ (∃ v : Option V, σ = [some (.ref a), some (.ref q), some (.int n), v]) ∧ ∀ j, j < i → (r.x.after j).sand < n * 100) ?_ ?_ ?_ ?_
      · exact ⟨rfl, ⟨none, rfl⟩, fun j hj => absurd hj (Nat.not_lt_zero _)⟩
      · rintro i σ H' _ ⟨rfl, _⟩
        exact SqL.of hpl
      · rintro i y σ H' hi ⟨rfl, ⟨v, rfl⟩, hz⟩
        obtain ⟨b, hb, rfl⟩ := map_ref hi
        have hlb := hL i b hb
        have hil : i < r.x.loads.length := by
          have := (List.getElem?_eq_some_iff.mp hb).1
          omega
        refine ⟨_, rfl, f_sand T.toCls2 hlb ⟨_, rfl, _, _, rfl, rfl, .inr ⟨by decide, by decide⟩, _, _, rfl, rfl, _, rfl, ?_⟩⟩
        by_cases c : n * 100 ≤ (r.x.after i).sand
        · refine if_true_of (decide_eq_true (by omega)) ?_
          refine ⟨_, rfl, f_minutes T.toCls2 hlb ?_⟩
          refine ⟨(by show 1 ≤ sizeLine; decide), fun p np => ?_⟩
          have e : (List.range r.x.loads.length).find? (fun m => decide (n * 100 ≤ (r.x.loads.getD m none_).sand)) = some i := by
            refine find_at (i := i) (List.getElem?_range hil) (by rw [loads_getD hil]; exact decide_eq_true c) fun j z hj hzj => ?_
            obtain ⟨rfl, hjl⟩ := range_get hzj
            rw [loads_getD hjl]
            exact decide_eq_false (by have := hz z hj; omega)
          rw [e] at k
          refine k.say hR s1 np ?_
          rw [after_filled]
          rfl
        · refine if_false_of (decide_eq_false (by omega)) ?_
          refine ⟨rfl, ⟨_, rfl⟩, fun j hj => ?_⟩
          by_cases cj : j = i
          · rw [cj]
            omega
          · exact hz j (by omega)
      · rintro σ H' ⟨rfl, ⟨v, rfl⟩, hz⟩
        rw [List.length_map, has] at hz
        refine ⟨(by show 1 ≤ sizeLine; decide), fun p np => ?_⟩
        have e : (List.range r.x.loads.length).find? (fun m => decide (n * 100 ≤ (r.x.loads.getD m none_).sand)) = none := by
          refine find_not fun j z hzj => ?_
          obtain ⟨rfl, hjl⟩ := range_get hzj
          rw [loads_getD hjl]
          exact decide_eq_false (by have := hz z hjl; omega)
        rw [e] at k
        exact k.say hR s1 np rfl
abbrev s_answer_draft : Stmt := top 69
theorem sc_answer_draft : FnScope ["ship", "table", "tons"] ["ship", "table"] (defScope s_answer_draft) := ⟨rfl, rfl, rfl, by decide +kernel, rfl, by decide +kernel, by decide +kernel⟩
theorem ok_draft {f : Addr} {fd : FuncData} (F : Fun K "answer_draft" "answer_draft" s_answer_draft f fd) (T : Txt2 K mg CL CS) (D_is_table : Def P w K mg base 2 "is_table" spTable) (D_whole_tons : Def P w K mg base 2 "whole_tons" (spWhole CL)) (D_in_table : Def P w K mg base 1 "in_table" spIn) (D_depth_at : Def P w K mg base 1 "depth_at" spDepth) :
    FnOk P w K mg base CX0 9 f fd ["ship", "table"] (spD CL CS fun r ns => (r, mDraft r ns)) := by
  refine F.ok sc_answer_draft (fun vs H Q E h => ?_) (fun cdv A outer s H vs Q E hr h => ⟨_, (pss_cons (ps_if (pt_not (pt_val (call_def D_is_table (hr.mono (by decide)) rfl (pa_cons (pv 1) pa_nil))))
     (pss_one (ps_ret (pe_lst (pa_cons (gint T.c_OUT_OF_RANGE rfl) pa_nil))))
     pss_nil)
     (pss_cons (ps_set (i := 2) sc_answer_draft.nd rfl (Or.inl rfl) (pe_op op_add (call_def D_whole_tons (hr.mono (by decide)) rfl (pa_cons (pe_fld (pv 0) rfl) pa_nil)) (pe_fld (pv 0) rfl)))
     (pss_cons (ps_if (pt_not (pt_val (call_def D_in_table (hr.mono (by decide)) rfl (pa_cons (pv 1) (pa_cons (pv 2) pa_nil)))))
     (pss_one (ps_ret (pe_lst (pa_cons (gint T.c_NEVER rfl) pa_nil))))
     pss_nil)
     (pss_one (ps_ret (pe_lst (pa_cons (call_def D_depth_at (hr.mono (by decide)) rfl (pa_cons (pv 1) (pa_cons (pv 2) pa_nil))) pa_nil))))))), ?_⟩)
  · obtain ⟨a, q, r, ns, rfl, _⟩ := h
    rfl
  · obtain ⟨a, q, r, ns, rfl, hR, gr, hn, k⟩ := h
    replace k : SA CL CS H a (r, mDraft r ns) Q := k
    obtain ⟨la, hs, hl⟩ := id hR
    refine ⟨_, rfl, q, ns, rfl, hn, _, rfl, ?_⟩
    refine if_both (fun c1 => ?_) (fun c1 => ?_)
    · rw [Bool.not_eq_true'] at c1
      rw [show mDraft r ns = [-22] from if_pos c1] at k
      exact ⟨(by show 1 ≤ sizeLine; decide), fun p np => k.say hR (Same.refl _) np rfl⟩
    rw [Bool.not_eq_false'] at c1
    have ht := (table_iff ns).mp c1
    rw [show mDraft r ns = _ from if_neg (by rw [c1]; exact Bool.noConfusion)] at k
    refine ⟨_, rfl, f_load T.toCls2 hs ⟨la, r.l, rfl, hl, ?_⟩⟩
    refine ⟨_, rfl, f_empty T.toCls2 hs ⟨_, _, rfl, rfl, ?_⟩⟩
    have e1 : ((r.l.weight / 100 : Nat) : Int) + (r.x.empty : Int) = ((r.x.empty + r.l.weight / 100 : Nat) : Int) := by omega
    dsimp only
    rw [e1]
    refine ⟨_, rfl, _, rfl, q, ns, _, rfl, hn, ht, _, rfl, ?_⟩
    refine if_both (fun c2 => ?_) (fun c2 => ?_)
    · have hd := ht.outside (x := r.x.empty + r.l.weight / 100) (by
        rw [Bool.not_eq_true', Bool.and_eq_false_iff, decide_eq_false_iff_not, decide_eq_false_iff_not] at c2
        omega)
      rw [hd] at k
      exact ⟨(by show 1 ≤ sizeLine; decide), fun p np => k.say hR (Same.refl _) np rfl⟩
    · rw [Bool.not_eq_false', Bool.and_eq_true, decide_eq_true_eq, decide_eq_true_eq] at c2
      refine ⟨_, rfl, _, rfl, q, ns, _, rfl, hn, ht, c2.1, c2.2, fun d hd => ?_⟩
      rw [hd] at k
      exact ⟨(by show 1 ≤ sizeLine; decide), fun p np => k.say hR (Same.refl _) np rfl⟩
end
end Hop

/-! ### fullest, sums, state -/
namespace Hop
open PySem PySem.Spec PyProof.Rows L2
open Kv334 (Load Ship none_)
def spFG (CL CS CF : Addr) (n : Nat) (g : Bool → List R → List Nat → (Bool × List R) × List Int) : Sp := fun vs H Q _ => ∃ (a q ls : Addr) (b : Bool) (as : List Addr) (rs : List R) (ns : List Nat), vs = [.ref a, .ref q] ∧ Fl CL CS CF H a b ls as rs ∧ Goods rs ∧ NumsAt H q ns ∧ ns.length = n ∧ rs.length ≤ 4 ∧ FA CL CS CF H a ls as (g b rs ns) Q
def fullOf (rs : List R) (i : Nat) : Option Nat := (List.range i).foldl (fun b s => match b with
  | none => some s
  | some t => if ((absOf rs).load t).sand * ((absOf rs).ship s).room < ((absOf rs).load s).sand * ((absOf rs).ship t).room then some s else some t) none
theorem fullOf_zero (rs : List R) : fullOf rs 0 = none := rfl
theorem fullOf_succ (rs : List R) (i : Nat) : fullOf rs (i + 1) = (match fullOf rs i with
  | none => some i
  | some t => if ((absOf rs).load t).sand * ((absOf rs).ship i).room < ((absOf rs).load i).sand * ((absOf rs).ship t).room then some i else some t) := by
  unfold fullOf
  rw [List.range_succ, List.foldl_append]
  rfl
theorem fullest_fullOf (rs : List R) : (absOf rs).fullest = fullOf rs rs.length := by
  have hl : (absOf rs).ships.length = rs.length := List.length_map _
  unfold Kv334.Abs.fullest fullOf
  rw [hl]
  rfl
theorem sum_cast : ∀ l : List Nat, (l.map fun (n : Nat) => (n : Int)).sum = ((l.sum : Nat) : Int)
  | [] => rfl
  | a :: r => by
    rw [List.map_cons, List.sum_cons, sum_cast r, List.sum_cons]
    rfl
theorem rs_at {rs : List R} {i : Nat} (h : i < rs.length) : rs[i]? = some (rs.getD i default) := by
  rw [List.getD_eq_getElem?_getD, List.getElem?_eq_getElem h]
  rfl
section
variable {P : Program} {w : World} {K : PySem.W.Frag} {mg : Str → Option Value} {base : Heap} {CL CS RG CF : Addr}
abbrev s_answer_fullest : Stmt := top 70
theorem sc_answer_fullest : FnScope ["fleet", "numbers", "place", "other", "ship", "fullest"] ["fleet", "numbers"] (defScope s_answer_fullest) := ⟨rfl, rfl, rfl, by decide +kernel, rfl, by decide +kernel, by decide +kernel⟩
theorem ok_fullest {f : Addr} {fd : FuncData} (F : Fun K "answer_fullest" "answer_fullest" s_answer_fullest f fd) (T : Txt4 K mg CL CS RG CF) : FnOk P w K mg base CX0 9 f fd ["fleet", "numbers"] (spFG CL CS CF 0 fun b rs _ => ((b, rs), mFullest rs)) := by
  refine F.ok sc_answer_fullest (fun vs H Q E h => ?_) (fun cdv A outer s H vs Q E hr h => ⟨_, (pss_cons (ps_if (pt_cmpR op_eq (pe_callB call_len_seq (by rfl) T.b_len (by decide +kernel) (pa_cons (pe_fld (pv 0) rfl) pa_nil)) pe_int (nomark _))
     (pss_one (ps_ret (pe_lst (pa_cons (gint T.c_NONE_THERE rfl) pa_nil))))
     pss_nil)
     (pss_cons (ps_set (i := 2) sc_answer_fullest.nd rfl (Or.inl rfl) pe_int)
     (pss_cons (ps_for PassesOwn.never rfl (pi_enum (by rfl) T.b_enumerate (pa_cons (pe_fld (pv 0) rfl) pa_nil)) (pg_tup rfl (pgs_cons (pg_name (i := 3) sc_answer_fullest.nd rfl (Or.inl rfl)) (pgs_cons (pg_name (i := 4) sc_answer_fullest.nd rfl (Or.inl rfl)) pgs_nil)))
     (pss_cons (ps_set (i := 5) sc_answer_fullest.nd rfl (Or.inl rfl) (pe_ix ix_list (pe_fld (pv 0) rfl) (pv 2) (fun _ _ => rfl)))
     (pss_one (ps_if (pt_cmpR op_gt (pe_op op_mul (pe_fld (pe_fld (pv 4) rfl) rfl) (pe_fld (pv 5) rfl)) (pe_op op_mul (pe_fld (pe_fld (pv 5) rfl) rfl) (pe_fld (pv 4) rfl)) (nomark _))
     (pss_one (ps_set (i := 2) sc_answer_fullest.nd rfl (Or.inl rfl) (pv 3)))
     pss_nil))))
     (pss_one (ps_ret (pe_lst (pa_cons (pv 2) (pa_cons (pe_fld (pe_fld (pe_ix ix_list (pe_fld (pv 0) rfl) (pv 2) (fun _ _ => rfl)) rfl) rfl) (pa_cons (pe_fld (pe_ix ix_list (pe_fld (pv 0) rfl) (pv 2) (fun _ _ => rfl)) rfl) pa_nil))))))))), ?_⟩)
  · obtain ⟨a, q, ls, b, as, rs, ns, rfl, _⟩ := h
    rfl
  · obtain ⟨a, q, ls, b, as, rs, ns, rfl, hF, hG, hn, hlen, h4, k⟩ := h
    replace k : FA CL CS CF H a ls as ((b, rs), mFullest rs) Q := k
    have hal := hF.len
    refine ⟨_, rfl, f_ships T.cf T.fl2 hF.fl ⟨ls, _, rfl, .inl (SqL.of hF.li), ?_⟩⟩
    rw [List.length_map, hal]
    refine ⟨rfl, _, rfl, ?_⟩
    by_cases c0 : rs.length = 0
    · refine if_true_of (decide_eq_true (by rw [c0]; rfl)) ?_
      have e : mFullest rs = [-6] := by
        unfold mFullest
        rw [fullest_fullOf, c0, fullOf_zero]
      rw [e] at k
      exact ⟨(by show 1 ≤ sizeLine; decide), fun p np => k.say hF (Same.refl _) np rfl⟩
    · refine if_false_of (decide_eq_false (fun z => c0 (by injection z with z; exact Int.ofNat.inj z))) ?_
      refine ⟨_, rfl, f_ships T.cf T.fl2 hF.fl ⟨ls, _, rfl, SqL.of hF.li, ?_⟩⟩
      refine for_it (walk_enum (K := K) (a := ls) (xs := as.map V.ref)) (fun i σ H' => Same H H' ∧ ∃ (v3 v4 v5 : Option V) (z : Int) (p : Nat), σ = [some (.ref a), some (.ref q), some (.int z), v3, v4, v5] ∧ z = (p : Int) ∧ p < rs.length ∧ (i = 0 → p = 0) ∧ (0 < i → fullOf rs i = some p)) ?_ ?_ ?_ ?_
      · exact ⟨Same.refl _, none, none, none, 0, 0, rfl, rfl, by omega, fun _ => rfl, fun h => absurd h (Nat.lt_irrefl _)⟩
      · rintro i σ H' _ ⟨sm, _⟩
        exact SqL.of (hF.same sm).li
      · rintro i x σ H' H1 hi ⟨sm, v3, v4, v5, z, p, rfl, hz, hp, hp0, hpi⟩ ⟨U, x1, y1, rfl, nU, rfl, ex, ey⟩
        cases ex
        obtain ⟨ci, hci, rfl⟩ := map_ref ey
        have sU : Same H' (upd H' U (.tup [V.int (i : Nat), V.ref ci])) := Same.new nU
        have hF1 := hF.same (sm.trans sU)
        have hil : i < rs.length := by
          have := (List.getElem?_eq_some_iff.mp hci).1
          omega
        obtain ⟨cp, hcp⟩ : ∃ cp, as[p]? = some cp := ⟨as[p]'(by omega), List.getElem?_eq_getElem (by omega)⟩
        have hri := rs_at hil
        have hrp := rs_at hp
        have gi := hG i _ hri
        have gp := hG p _ hrp
        obtain ⟨li, hsi, hli⟩ := hF1.recs i ci _ hci hri
        obtain ⟨lp, hsp, hlp⟩ := hF1.recs p cp _ hcp hrp
        have r1 := gi.gs.room2
        have r2 := gp.gs.room2
        subst hz
        refine ⟨U, _, rfl, SqT.of upd_same, rfl, _, _, rfl, _, _, rfl, rfl, ?_⟩
        refine ⟨_, rfl, f_ships T.cf T.fl2 hF1.fl ⟨_, rfl, ls, _, _, .ref cp, rfl, rfl, SqL.of hF1.li, at_ref hcp, ?_⟩⟩
        refine ⟨_, rfl, f_load T.toCls2 hsi (f_sand T.toCls2 hli ⟨_, rfl, f_room T.toCls2 hsp ⟨_, _, rfl, rfl, .inr ⟨by omega, by omega⟩, ?_⟩⟩)⟩
        refine ⟨_, rfl, f_load T.toCls2 hsp (f_sand T.toCls2 hlp ⟨_, rfl, f_room T.toCls2 hsi ⟨_, _, rfl, rfl, .inr ⟨by omega, by omega⟩, ?_⟩⟩)⟩
        refine ⟨_, _, rfl, rfl, _, rfl, ?_⟩
        have ec : (((rs.getD p default).l.sand : Int) * ((rs.getD i default).x.room : Int) < ((rs.getD i default).l.sand : Int) * ((rs.getD p default).x.room : Int)) ↔ ((absOf rs).load p).sand * ((absOf rs).ship i).room < ((absOf rs).load i).sand * ((absOf rs).ship p).room := by
          rw [load_at hrp, load_at hri, ship_at hrp, ship_at hri, ← Int.natCast_mul, ← Int.natCast_mul]
          exact Int.ofNat_lt
        have hstep := fullOf_succ rs i
        by_cases c : ((absOf rs).load p).sand * ((absOf rs).ship i).room < ((absOf rs).load i).sand * ((absOf rs).ship p).room
        · refine if_true_of (decide_eq_true (ec.mpr c)) ?_
          refine ⟨_, rfl, sm.trans sU, _, _, _, _, i, rfl, rfl, hil, fun z => absurd z (Nat.succ_ne_zero _), fun _ => ?_⟩
          by_cases ci0 : i = 0
          · subst ci0
            rw [hstep, fullOf_zero]
          · rw [hstep, hpi (by omega)]
            exact if_pos c
        · refine if_false_of (decide_eq_false fun z => c (ec.mp z)) ?_
          refine ⟨sm.trans sU, _, _, _, _, p, rfl, rfl, hp, fun z => absurd z (Nat.succ_ne_zero _), fun _ => ?_⟩
          by_cases ci0 : i = 0
          · subst ci0
            rw [hstep, fullOf_zero, hp0 rfl]
          · rw [hstep, hpi (by omega)]
            exact if_neg c
      · rintro σ H' ⟨sm, v3, v4, v5, z, p, rfl, hz, hp, hp0, hpi⟩
        rw [List.length_map, hal] at hpi
        subst hz
        have hF1 := hF.same sm
        obtain ⟨cp, hcp⟩ : ∃ cp, as[p]? = some cp := ⟨as[p]'(by omega), List.getElem?_eq_getElem (by omega)⟩
        have hrp := rs_at hp
        obtain ⟨lp, hsp, hlp⟩ := hF1.recs p cp _ hcp hrp
        have e : mFullest rs = [(p : Int), ((rs.getD p default).l.sand : Nat), ((rs.getD p default).x.room : Nat)] := by
          unfold mFullest
          rw [fullest_fullOf, hpi (by omega)]
        rw [e] at k
        refine ⟨_, rfl, _, rfl, f_ships T.cf T.fl2 hF1.fl ⟨_, rfl, ls, _, _, .ref cp, rfl, rfl, SqL.of hF1.li, at_ref hcp, ?_⟩⟩
        refine f_load T.toCls2 hsp (f_sand T.toCls2 hlp ?_)
        refine ⟨_, rfl, f_ships T.cf T.fl2 hF1.fl ⟨_, rfl, ls, _, _, .ref cp, rfl, rfl, SqL.of hF1.li, at_ref hcp, ?_⟩⟩
        refine f_room T.toCls2 hsp ?_
        exact ⟨(by show 3 ≤ sizeLine; decide), fun pp np => k.say hF sm np rfl⟩
abbrev s_answer_sums : Stmt := top 73
theorem sc_answer_sums : FnScope ["fleet", "numbers", "trips", "carried", "aboard", "ship"] ["fleet", "numbers"] (defScope s_answer_sums) := ⟨rfl, rfl, rfl, by decide +kernel, rfl, by decide +kernel, by decide +kernel⟩
theorem ok_sums {f : Addr} {fd : FuncData} (F : Fun K "answer_sums" "answer_sums" s_answer_sums f fd) (T : Txt4 K mg CL CS RG CF) : FnOk P w K mg base CX0 9 f fd ["fleet", "numbers"] (spFG CL CS CF 0 fun b rs _ => ((b, rs), mSums rs)) := by
  refine F.ok sc_answer_sums (fun vs H Q E h => ?_) (fun cdv A outer s H vs Q E hr h => ⟨_, (pss_cons (ps_set (i := 2) sc_answer_sums.nd rfl (Or.inl rfl) (pe_callB (cr_sum rfl) (by rfl) T.b_sum (by decide +kernel) (pa_cons (pe_lc (own := [("ship", 5)]) (g := (gName 5)) (te := tFld K (tVar 5) "trips") (by rfl) sc_answer_sums.nd (pi_list (pe_fld (pv 0) rfl)) (blkOk_by (own := [("ship", 5)]) (N := ["fleet", "numbers", "trips", "carried", "aboard", "ship"]) (sc := defScope s_answer_sums) (by decide +kernel)) (fun _ _ _ _ _ => (pg_name (i := 5) sc_answer_sums.nd rfl (Or.inl rfl))) (fun _ _ _ _ _ => pts_nil) (fun _ _ _ _ _ => (pe_fld (pv 5) rfl))) pa_nil)))
     (pss_cons (ps_set (i := 3) sc_answer_sums.nd rfl (Or.inl rfl) (pe_callB (cr_sum rfl) (by rfl) T.b_sum (by decide +kernel) (pa_cons (pe_lc (own := [("ship", 5)]) (g := (gName 5)) (te := tFld K (tVar 5) "carried") (by rfl) sc_answer_sums.nd (pi_list (pe_fld (pv 0) rfl)) (blkOk_by (own := [("ship", 5)]) (N := ["fleet", "numbers", "trips", "carried", "aboard", "ship"]) (sc := defScope s_answer_sums) (by decide +kernel)) (fun _ _ _ _ _ => (pg_name (i := 5) sc_answer_sums.nd rfl (Or.inl rfl))) (fun _ _ _ _ _ => pts_nil) (fun _ _ _ _ _ => (pe_fld (pv 5) rfl))) pa_nil)))
     (pss_cons (ps_set (i := 4) sc_answer_sums.nd rfl (Or.inl rfl) (pe_callB (cr_sum rfl) (by rfl) T.b_sum (by decide +kernel) (pa_cons (pe_lc (own := [("ship", 5)]) (g := (gName 5)) (te := tFld K (tFld K (tVar 5) "load") "sand") (by rfl) sc_answer_sums.nd (pi_list (pe_fld (pv 0) rfl)) (blkOk_by (own := [("ship", 5)]) (N := ["fleet", "numbers", "trips", "carried", "aboard", "ship"]) (sc := defScope s_answer_sums) (by decide +kernel)) (fun _ _ _ _ _ => (pg_name (i := 5) sc_answer_sums.nd rfl (Or.inl rfl))) (fun _ _ _ _ _ => pts_nil) (fun _ _ _ _ _ => (pe_fld (pe_fld (pv 5) rfl) rfl))) pa_nil)))
     (pss_one (ps_ret (pe_lst (pa_cons pe_int (pa_cons (pv 2) (pa_cons (pv 3) (pa_cons (pv 4) pa_nil)))))))))), ?_⟩)
  · obtain ⟨a, q, ls, b, as, rs, ns, rfl, _⟩ := h
    rfl
  · obtain ⟨a, q, ls, b, as, rs, ns, rfl, hF, hG, hn, hlen, h4, k⟩ := h
    replace k : FA CL CS CF H a ls as ((b, rs), mSums rs) Q := k
    have hal := hF.len
    have snoc : ∀ (g : R → Nat) (i : Nat) (r : R), rs[i]? = some r → ((rs.take (i + 1)).map fun r => V.int (g r : Nat)) = ((rs.take i).map fun r => V.int (g r : Nat)) ++ [V.int (g r : Nat)] := fun g i r e => by
      rw [List.take_add_one, e, List.map_append]
      rfl
    have small : ∀ (g : R → Nat) (i : Nat), ((rs.take i).map fun r => V.int (g r : Nat)).length < sizeLine := fun g i => by
      rw [List.length_map, List.length_take]
      exact Nat.lt_of_le_of_lt (by omega : min i rs.length ≤ 1000) (by decide)
    refine ⟨_, rfl, f_ships T.cf T.fl2 hF.fl ⟨ls, rfl, ⟨_, SqL.of hF.li⟩, fun D hD => ?_⟩⟩
    refine lc_list (K := K) (a := ls) (xs := as.map V.ref) (fun i H' => H' D = some (.lst ((rs.take i).map fun r => V.int (r.t : Nat))) ∧ Same H H') ?_ ?_ ?_ ?_
    · exact ⟨upd_same, Same.new hD⟩
    · rintro i H' _ ⟨_, sm⟩
      exact SqL.of (hF.same sm).li
    · rintro i y H' hi ⟨hDi, sm⟩
      obtain ⟨c, hc, rfl⟩ := map_ref hi
      have hil : i < rs.length := by
        have := (List.getElem?_eq_some_iff.mp hc).1
        omega
      obtain ⟨la, hs, hl⟩ := (hF.same sm).recs i c _ hc (rs_at hil)
      refine ⟨rfl, _, rfl, f_trips T.toCls2 hs ⟨_, hDi, small _ _, ?_, ?_⟩⟩
      · rw [upd_same, snoc (fun r => r.t) i _ (rs_at hil)]
      · intro b' o e
        rw [upd_ne (ne_of_none e hD)]
        exact sm _ _ e
    rintro H1 ⟨hD1, s1⟩
    have hF1 := hF.same s1
    refine ⟨D, rs.map fun r => (r.t : Int), rfl, SqL.of (by rw [hD1, List.length_map, hal, List.take_length, List.map_map]; rfl), ?_⟩
    refine ⟨_, rfl, f_ships T.cf T.fl2 hF1.fl ⟨ls, rfl, ⟨_, SqL.of hF1.li⟩, fun D2 hD2 => ?_⟩⟩
    refine lc_list (K := K) (a := ls) (xs := as.map V.ref) (fun i H' => H' D2 = some (.lst ((rs.take i).map fun r => V.int (r.c : Nat))) ∧ Same H1 H') ?_ ?_ ?_ ?_
    · exact ⟨upd_same, Same.new hD2⟩
    · rintro i H' _ ⟨_, sm⟩
      exact SqL.of (hF1.same sm).li
    · rintro i y H' hi ⟨hDi, sm⟩
      obtain ⟨c, hc, rfl⟩ := map_ref hi
      have hil : i < rs.length := by
        have := (List.getElem?_eq_some_iff.mp hc).1
        omega
      obtain ⟨la, hs, hl⟩ := (hF1.same sm).recs i c _ hc (rs_at hil)
      refine ⟨rfl, _, rfl, f_carried T.toCls2 hs ⟨_, hDi, small _ _, ?_, ?_⟩⟩
      · rw [upd_same, snoc (fun r => r.c) i _ (rs_at hil)]
      · intro b' o e
        rw [upd_ne (ne_of_none e hD2)]
        exact sm _ _ e
    rintro H2 ⟨hD2', s2⟩
    have hF2 := hF1.same s2
    refine ⟨D2, rs.map fun r => (r.c : Int), rfl, SqL.of (by rw [hD2', List.length_map, hal, List.take_length, List.map_map]; rfl), ?_⟩
    refine ⟨_, rfl, f_ships T.cf T.fl2 hF2.fl ⟨ls, rfl, ⟨_, SqL.of hF2.li⟩, fun D3 hD3 => ?_⟩⟩
    refine lc_list (K := K) (a := ls) (xs := as.map V.ref) (fun i H' => H' D3 = some (.lst ((rs.take i).map fun r => V.int (r.l.sand : Nat))) ∧ Same H2 H') ?_ ?_ ?_ ?_
    · exact ⟨upd_same, Same.new hD3⟩
    · rintro i H' _ ⟨_, sm⟩
      exact SqL.of (hF2.same sm).li
    · rintro i y H' hi ⟨hDi, sm⟩
      obtain ⟨c, hc, rfl⟩ := map_ref hi
      have hil : i < rs.length := by
        have := (List.getElem?_eq_some_iff.mp hc).1
        omega
      obtain ⟨la, hs, hl⟩ := (hF2.same sm).recs i c _ hc (rs_at hil)
      refine ⟨rfl, _, rfl, f_load T.toCls2 hs (f_sand T.toCls2 hl ⟨_, hDi, small _ _, ?_, ?_⟩)⟩
      · rw [upd_same, snoc (fun r => r.l.sand) i _ (rs_at hil)]
      · intro b' o e
        rw [upd_ne (ne_of_none e hD3)]
        exact sm _ _ e
    rintro H3 ⟨hD3', s3⟩
    refine ⟨D3, rs.map fun r => (r.l.sand : Int), rfl, SqL.of (by rw [hD3', List.length_map, hal, List.take_length, List.map_map]; rfl), ?_⟩
    refine ⟨_, rfl, _, rfl, _, rfl, ?_⟩
    refine ⟨(by show 4 ≤ sizeLine; decide), fun p np => k.say hF (s1.trans (s2.trans s3)) np ?_⟩
    have e1 : (rs.map fun r => (r.t : Int)).sum = (((rs.map (·.t)).sum : Nat) : Int) := by
      rw [← sum_cast, List.map_map]
      rfl
    have e2 : (rs.map fun r => (r.c : Int)).sum = (((rs.map (·.c)).sum : Nat) : Int) := by
      rw [← sum_cast, List.map_map]
      rfl
    have e3 : (rs.map fun r => (r.l.sand : Int)).sum = (((rs.map (·.l.sand)).sum : Nat) : Int) := by
      rw [← sum_cast, List.map_map]
      rfl
    rw [e1, e2, e3]
    rfl
abbrev s_answer_state : Stmt := top 74
theorem sc_answer_state : FnScope ["fleet", "numbers", "told", "ship"] ["fleet", "numbers"] (defScope s_answer_state) := ⟨rfl, rfl, rfl, by decide +kernel, rfl, by decide +kernel, by decide +kernel⟩
def told1 (rs : List R) (i : Nat) : List Int := (rs.length : Int) :: (rs.take i).flatMap fun r => [(r.t : Int), (r.c : Int)]
theorem told1_succ {rs : List R} {i : Nat} {r : R} (h : rs[i]? = some r) : told1 rs (i + 1) = told1 rs i ++ [(r.t : Int), (r.c : Int)] := by
  unfold told1
  rw [List.take_add_one, h, List.flatMap_append]
  rfl
theorem told1_len (rs : List R) : ∀ i, (told1 rs i).length ≤ 1 + 2 * rs.length := by
  intro i
  have key : ∀ l : List R, (l.flatMap fun r => [(r.t : Int), (r.c : Int)]).length = 2 * l.length := by
    intro l
    induction l with
    | nil => rfl
    | cons a r ih =>
      rw [List.flatMap_cons, List.length_append, ih]
      show 2 + 2 * r.length = 2 * (r.length + 1)
      omega
  unfold told1
  rw [List.length_cons, key, List.length_take]
  omega
theorem ok_state {f : Addr} {fd : FuncData} (F : Fun K "answer_state" "answer_state" s_answer_state f fd) (T : Txt4 K mg CL CS RG CF) : FnOk P w K mg base CX0 9 f fd ["fleet", "numbers"] (spFG CL CS CF 0 fun b rs _ => ((b, rs), mState rs)) := by
  refine F.ok sc_answer_state (fun vs H Q E h => ?_) (fun cdv A outer s H vs Q E hr h => ⟨_, (pss_cons (ps_set (i := 2) sc_answer_state.nd rfl (Or.inl rfl) (pe_lst (pa_cons (pe_callB call_len_seq (by rfl) T.b_len (by decide +kernel) (pa_cons (pe_fld (pv 0) rfl) pa_nil)) pa_nil)))
     (pss_cons (ps_for PassesOwn.never rfl (pi_list (pe_fld (pv 0) rfl)) (pg_name (i := 3) sc_answer_state.nd rfl (Or.inl rfl))
     (pss_cons (ps_expr (pe_bm PySem.F.plainAttrs_list PySem.F.slot_list_append PySem.F.type_list_append mt_append (pv 2) (pa_cons (pe_fld (pv 3) rfl) pa_nil)))
     (pss_one (ps_expr (pe_bm PySem.F.plainAttrs_list PySem.F.slot_list_append PySem.F.type_list_append mt_append (pv 2) (pa_cons (pe_fld (pv 3) rfl) pa_nil))))))
     (pss_one (ps_ret (pv 2))))), ?_⟩)
  · obtain ⟨a, q, ls, b, as, rs, ns, rfl, _⟩ := h
    rfl
  · obtain ⟨a, q, ls, b, as, rs, ns, rfl, hF, hG, hn, hlen, h4, k⟩ := h
    replace k : FA CL CS CF H a ls as ((b, rs), mState rs) Q := k
    have hal := hF.len
    refine ⟨_, rfl, f_ships T.cf T.fl2 hF.fl ⟨ls, _, rfl, .inl (SqL.of hF.li), ?_⟩⟩
    rw [List.length_map, hal]
    refine ⟨(by show 1 ≤ sizeLine; decide), fun p np => ?_⟩
    have s0 : Same H (upd H p (.lst [.int (rs.length : Nat)])) := Same.new np
    have hF0 := hF.same s0
    refine ⟨_, rfl, f_ships T.cf T.fl2 hF0.fl ⟨ls, rfl, ⟨_, SqL.of hF0.li⟩, ?_⟩⟩
    refine for_list (K := K) (a := ls) (xs := as.map V.ref) (fun i σ H' => (∃ v : Option V, σ = [some (.ref a), some (.ref q), some (.ref p), v]) ∧ H' p = some (.lst ((told1 rs i).map V.int)) ∧ Same H H') ?_ ?_ ?_ ?_
    · exact ⟨⟨none, rfl⟩, upd_same, s0⟩
    · rintro i σ H' _ ⟨_, _, sm⟩
      exact SqL.of (hF.same sm).li
    · rintro i y σ H' hi ⟨⟨v, rfl⟩, hp, sm⟩
      obtain ⟨c, hc, rfl⟩ := map_ref hi
      have hil : i < rs.length := by
        have := (List.getElem?_eq_some_iff.mp hc).1
        omega
      have hri := rs_at hil
      have hF1 := hF.same sm
      obtain ⟨la, hs, hl⟩ := hF1.recs i c _ hc hri
      have hlen1 := told1_len rs i
      refine ⟨_, rfl, .inl ⟨rfl, _, SqL.of hp⟩, _, rfl, f_trips T.toCls2 hs ⟨p, _, _, rfl, rfl, hp, ?_, ?_⟩⟩
      · rw [List.length_map]
        exact Nat.lt_of_le_of_lt (by omega : (told1 rs i).length ≤ 1000) (by decide)
      have hs2 := hs.past (o := .lst ((told1 rs i).map V.int ++ [V.int ((rs.getD i default).t : Nat)])) hp
      refine ⟨_, rfl, .inl ⟨rfl, _, SqL.of upd_same⟩, _, rfl, f_carried T.toCls2 hs2 ⟨p, _, _, rfl, rfl, upd_same, ?_, ?_⟩⟩
      · rw [List.length_append, List.length_map]
        exact Nat.lt_of_le_of_lt (by show (told1 rs i).length + 1 ≤ 1000; omega) (by decide)
      refine ⟨⟨_, rfl⟩, ?_, ?_⟩
      · rw [upd_same, told1_succ hri, List.map_append, List.append_assoc]
        rfl
      · intro b' o e
        rw [upd_ne (ne_of_none e np), upd_ne (ne_of_none e np)]
        exact sm _ _ e
    · rintro σ H' ⟨⟨v, rfl⟩, hp, sm⟩
      rw [List.length_map, hal] at hp
      refine ⟨_, rfl, k H' p ls as (keepF_of sm) (hF.same sm) (.inl rfl) np ?_⟩
      rw [hp]
      unfold told1 mState
      rw [List.take_length]
end
end Hop

namespace Hop
open PySem PySem.Spec PyProof.Rows L2
open Kv334 (Load Ship none_)
theorem fs_ne {CL CS CF : Addr} {H : Hp} {f s ls : Addr} {b : Bool} {x : R} (hf : ∃ dx, H f = some (.ins CF dx (fF b ls))) (hs : RecAt CL CS H s x) : f ≠ s := by
  rintro rfl
  obtain ⟨la, ⟨dx, h1⟩, _⟩ := hs
  obtain ⟨dy, h2⟩ := hf
  rw [h1] at h2
  injection h2 with z
  injection z with z1 z2 z3
  exact absurd z3 (by unfold sF fF; intro q; injection q with q1 q2; injection q1 with q3 q4; exact absurd q3 (by decide +kernel))
theorem RecAt.keep {CL CS : Addr} {H H' : Hp} {c d : Addr} {r x : R} (h : RecAt CL CS H d r) (hc : RecAt CL CS H c x) (ne : d ≠ c) (k : Keep c H H') : RecAt CL CS H' d r := by
  obtain ⟨la, ⟨dx, e1⟩, hl⟩ := h
  obtain ⟨lc, hsc, _⟩ := hc
  have nel := ls_ne hl hsc
  obtain ⟨dl, e2⟩ := hl
  exact ⟨la, ⟨dx, k _ _ e1 ne⟩, ⟨dl, k _ _ e2 nel⟩⟩
/-- what is wanted of the object, from what is told of one ship -/
theorem FA.ship {CL CS CF : Addr} {H H1 : Hp} {a ls c : Addr} {as : List Addr} {b : Bool} {rs : List R} {s : Nat} {r : R} {o : R × List Int} {Q : VK} (k : FA CL CS CF H a ls as ((b, rs.set s o.1), o.2) Q) (hF : Fl CL CS CF H a b ls as rs) (hc : as[s]? = some c) (hr : rs[s]? = some r) (sm : Same H H1) : SA CL CS H1 c o Q := by
  intro H' p kp hR np hp
  have hF1 := hF.same sm
  have hRc := hF1.recs s c r hc hr
  have hcm : c ∈ as := List.mem_of_getElem? hc
  refine k H' p ls as (fun d u e n1 n2 n3 => kp _ _ (sm _ _ e) fun z => n3 (z ▸ hcm)) ⟨?_, ?_, ?_, hF.nd, ?_⟩ (.inl rfl) (sm.free np) hp
  · obtain ⟨dx, e⟩ := hF1.fl
    exact ⟨dx, kp _ _ e (fs_ne hF1.fl hRc)⟩
  · obtain ⟨dx, fs, e⟩ := hRc.ins
    exact kp _ _ hF1.li (ne_of hF1.li e (by intro z; cases z))
  · rw [List.length_set]
    exact hF.len
  · intro i d x hd hx
    by_cases hi : i = s
    · subst hi
      rw [hc] at hd
      cases hd
      have hlt := (List.getElem?_eq_some_iff.mp hr).1
      rw [List.getElem?_set_self hlt] at hx
      cases hx
      exact hR
    · rw [List.getElem?_set_ne (Ne.symm hi)] at hx
      have hdc : d ≠ c := by
        rintro rfl
        exact hi (nd_ix hF.nd hd hc)
      exact (hF1.recs i d x hd hx).keep hRc hdc kp
/-! ### the dispatch -/
def nargs : List Nat := [0, 6, 1, 0, 1, 2, 0, 0, 1, 0, 0, 1, 2, 2, 1, 1, 0, 0, 0, 1, 0, 0, 0]
def shipSp (CL CS : Addr) (k : Nat) : Sp := if k = 17 then spD CL CS (mS 17) else spS CL CS (nargs.getD k 0) (mS k)
structure Tab (P : Program) (w : World) (K : PySem.W.Frag) (mg : Str → Option Value) (base : Heap) (CL CS ST : Addr) (es : List DictEntry) : Prop where
  kdi : KDI K ST es
  ent : ∀ k : Nat, k < 23 → bare k = false → ∃ f, kget es (k : Int) = some (.ref f) ∧ Held P w K mg base 9 f (shipSp CL CS k)
structure TabF (P : Program) (w : World) (K : PySem.W.Frag) (mg : Str → Option Value) (base : Heap) (CL CS CF FT : Addr) (es : List DictEntry) : Prop where
  kdi : KDI K FT es
  ent : ∀ k : Nat, k < 23 → bare k = true → ∃ f, kget es (k : Int) = some (.ref f) ∧ Held P w K mg base 9 f (spFG CL CS CF (wholes.getD k 0) (mN k))
  non : ∀ k : Nat, k < 23 → bare k = false → kget es (k : Int) = none
def spWith (CL CS CF : Addr) : Sp := fun vs H Q _ => ∃ (a q ls : Addr) (b : Bool) (as : List Addr) (rs : List R) (k s : Nat) (ns : List Nat), vs = [.ref a, .int k, .ref q] ∧ Fl CL CS CF H a b ls as rs ∧ Goods rs ∧ NumsAt H q (s :: ns) ∧ k < 23 ∧ bare k = false ∧ (k ≠ 17 → ns.length = nargs.getD k 0) ∧
  FA CL CS CF H a ls as (if rs.length ≤ s then ((b, rs), [-2]) else ((b, rs.set s (mS k (rs.getD s default) ns).1), (mS k (rs.getD s default) ns).2)) Q
theorem if_then {c : Bool} {A R S : Prop} (d : Bool) (hA : (if d = true then R else S) → A) (h : if (c && d) = true then R else S) : if c = true then A else (if false = true then R else S) := by
  cases c with
  | true => exact if_true_of rfl (hA h)
  | false => exact if_false_of rfl h
theorem fits_ship {k : Nat} {ns : List Nat} (h : Fits k ns) (hb : bare k = false) : ∃ s rest, ns = s :: rest ∧ (k ≠ 17 → rest.length = nargs.getD k 0) := by
  obtain ⟨h1, h2, h3, _⟩ := h
  have key : k ≠ 17 → wholes[k]? = some (nargs.getD k 0 + 1) := by
    intro h17
    match k, h3, hb, h17 with
    | 2, _, _, _ | 3, _, _, _ | 4, _, _, _ | 5, _, _, _ | 6, _, _, _ | 7, _, _, _ | 8, _, _, _ | 9, _, _, _ | 10, _, _, _ | 11, _, _, _ | 12, _, _, _ | 13, _, _, _ | 14, _, _, _ | 15, _, _, _ | 16, _, _, _ | 19, _, _, _ | 20, _, _, _ => rfl
    | 0, _, hb, _ | 1, _, hb, _ | 18, _, hb, _ | 21, _, hb, _ | 22, _, hb, _ => cases hb
    | 17, _, _, h17 => exact absurd rfl h17
    | n + 23, h3, _, _ => exact absurd h3 (by omega)
  cases ns with
  | nil =>
    by_cases h17 : k = 17
    · have := h2 h17
      simp at this
    · have := (key h17).symm.trans (h1 h17)
      simp at this
  | cons s rest =>
    refine ⟨s, rest, rfl, fun h17 => ?_⟩
    have := Option.some.inj ((key h17).symm.trans (h1 h17))
    rw [List.length_cons] at this
    omega
theorem fits_bare {k : Nat} {ns : List Nat} (h : Fits k ns) (hb : bare k = true) : ns.length = wholes.getD k 0 := by
  obtain ⟨h1, h2, h3, _⟩ := h
  have h17 : k ≠ 17 := by
    rintro rfl
    cases hb
  rw [List.getD_eq_getElem?_getD, h1 h17]
  rfl
section
variable {P : Program} {w : World} {K : PySem.W.Frag} {mg : Str → Option Value} {base : Heap} {CL CS RG CF CR WN ST FT : Addr}
abbrev s_answer_with_ship : Stmt := top 77
theorem sc_answer_with_ship : FnScope ["fleet", "number", "numbers"] ["fleet", "number", "numbers"] (defScope s_answer_with_ship) := ⟨rfl, rfl, rfl, by decide +kernel, rfl, by decide +kernel, by decide +kernel⟩
theorem ok_with {f : Addr} {fd : FuncData} {es : List DictEntry} (F : Fun K "answer_with_ship" "answer_with_ship" s_answer_with_ship f fd) (T : Txt6 K mg CL CS RG CF CR WN) (g_ST : GRef mg "SHIP_CALLS" ST) (B : Tab P w K mg base CL CS ST es) : FnOk P w K mg base CX0 10 f fd ["fleet", "number", "numbers"] (spWith CL CS CF) := by
  have hS : ∀ f sp, (∃ k : Nat, k < 23 ∧ bare k = false ∧ kget es (k : Int) = some (.ref f) ∧ sp = shipSp CL CS k) → Held P w K mg base 9 f sp := by
    rintro f sp ⟨k, h1, h2, h3, rfl⟩
    obtain ⟨f', e, hh⟩ := B.ent k h1 h2
    rw [e] at h3
    cases h3
    exact hh
  refine F.ok sc_answer_with_ship (fun vs H Q E h => ?_) (fun cdv A outer s H vs Q E hr h => ⟨_, (pss_cons (ps_if (pt_cmpR op_ge (pe_ix ix_list (pv 2) pe_int (fun _ _ => rfl)) (pe_callB call_len_seq (by rfl) T.b_len (by decide +kernel) (pa_cons (pe_fld (pv 0) rfl) pa_nil)) (nomark _))
     (pss_one (ps_ret (pe_lst (pa_cons (gint T.c_NO_SUCH_SHIP rfl) pa_nil))))
     pss_nil)
     (pss_one (ps_ret (call_any hS (hr.mono (by decide)) (pe_ix ix_kdi (gref g_ST rfl) (pv 1) (fun _ _ => rfl)) (pa_cons (pe_ix ix_list (pe_fld (pv 0) rfl) (pe_ix ix_list (pv 2) pe_int (fun _ _ => rfl)) (fun _ _ => rfl)) (pa_cons (pe_slice sl_list (pv 2) (po_some pe_int) po_none) pa_nil)))))), ?_⟩)
  · obtain ⟨a, q, ls, b, as, rs, k, s, ns, rfl, _⟩ := h
    rfl
  · obtain ⟨a, q, ls, b, as, rs, k, s, ns, rfl, hF, hG, hn, h23, hb, hl, kk⟩ := h
    have hlen := hF.len
    obtain ⟨f0, ef, _⟩ := B.ent k h23 hb
    refine ⟨_, rfl, q, _, _, .int s, rfl, rfl, SqL.of hn, atI_nat (j := 0) rfl, ?_⟩
    refine ⟨_, rfl, f_ships T.cf T.fl2 hF.fl ⟨ls, _, rfl, .inl (SqL.of hF.li), _, _, rfl, rfl, _, rfl, ?_⟩⟩
    rw [List.length_map, hlen]
    by_cases c1 : rs.length ≤ s
    · rw [if_pos c1] at kk
      refine if_true_of (decide_eq_true (by omega)) ?_
      exact ⟨(by show 1 ≤ sizeLine; decide), fun p np => kk.say hF (Same.refl _) np rfl⟩
    · rw [if_neg c1] at kk
      refine if_false_of (decide_eq_false (by omega)) ?_
      refine ⟨_, rfl, ST, es, k, _, .ref f0, rfl, rfl, B.kdi, ef, rfl, ?_⟩
      obtain ⟨c, hc⟩ : ∃ c, as[s]? = some c := ⟨as[s]'(by omega), List.getElem?_eq_getElem (by omega)⟩
      have hr' : rs[s]? = some (rs.getD s default) := by
        rw [List.getD_eq_getElem?_getD, List.getElem?_eq_getElem (by omega)]
        rfl
      refine ⟨f0, _, rfl, ⟨k, h23, hb, ef, rfl⟩, ?_⟩
      refine ⟨_, rfl, f_ships T.cf T.fl2 hF.fl ⟨_, rfl, q, _, _, .int s, rfl, rfl, SqL.of hn, atI_nat (j := 0) rfl, ls, _, _, .ref c, rfl, rfl, SqL.of hF.li, at_ref hc, ?_⟩⟩
      refine ⟨_, rfl, _, rfl, q, _, rfl, SqL.of hn, fun pn npn => ?_⟩
      have sm := Same.new (o := .lst (cutV ((s :: ns).map fun (n : Nat) => V.int (n : Int)) (some 1) none)) npn
      have hnn : NumsAt (upd H pn (.lst (cutV ((s :: ns).map fun (n : Nat) => V.int (n : Int)) (some 1) none))) pn ns := by
        show upd H pn _ pn = _
        rw [upd_same]
        congr 2
        unfold cutV
        show (((s :: ns).map fun (n : Nat) => V.int (n : Int)).drop (HT.sIx _ 0 (some ((1 : Nat) : Int)))).take _ = _
        rw [HT.sIx_nat, HT.sIx_none, List.map_cons, List.length_cons, Nat.min_eq_left (by omega)]
        show (ns.map fun (n : Nat) => V.int (n : Int)).take ((ns.map fun (n : Nat) => V.int (n : Int)).length + 1 - 1) = _
        rw [Nat.add_sub_cancel, List.take_length]
      unfold shipSp
      by_cases h17 : k = 17
      · subst h17
        rw [if_pos rfl]
        exact ⟨c, pn, rs.getD s default, ns, rfl, (hF.same sm).recs s c _ hc hr', hG s _ hr', hnn, kk.ship hF hc hr' sm⟩
      · rw [if_neg h17]
        exact ⟨c, pn, rs.getD s default, ns, rfl, (hF.same sm).recs s c _ hc hr', hG s _ hr', hnn, hl h17, kk.ship hF hc hr' sm⟩
abbrev s_answer_call : Stmt := top 78
theorem sc_answer_call : FnScope ["fleet", "number", "numbers"] ["fleet", "number", "numbers"] (defScope s_answer_call) := ⟨rfl, rfl, rfl, by decide +kernel, rfl, by decide +kernel, by decide +kernel⟩
theorem ok_call {f : Addr} {fd : FuncData} {es : List DictEntry} (F : Fun K "answer_call" "answer_call" s_answer_call f fd) (T : Txt6 K mg CL CS RG CF CR WN) (g_FT : GRef mg "FLEET_CALLS" FT) (B : TabF P w K mg base CL CS CF FT es) (D_answer_with_ship : Def P w K mg base 10 "answer_with_ship" (spWith CL CS CF)) : FnOk P w K mg base CX0 12 f fd ["fleet", "number", "numbers"] (spCall CL CS CF) := by
  have hS : ∀ f sp, (∃ k : Nat, k < 23 ∧ bare k = true ∧ kget es (k : Int) = some (.ref f) ∧ sp = spFG CL CS CF (wholes.getD k 0) (mN k)) → Held P w K mg base 9 f sp := by
    rintro f sp ⟨k, h1, h2, h3, rfl⟩
    obtain ⟨f', e, hh⟩ := B.ent k h1 h2
    rw [e] at h3
    cases h3
    exact hh
  refine F.ok sc_answer_call (fun vs H Q E h => ?_) (fun cdv A outer s H vs Q E hr h => ⟨_, (pss_cons (ps_if (PW.pt (pw_and (pt_cmpR op_ne (pv 1) (gint T.c_BEGIN rfl) (nomark _)) (pw_and1 (pt_not (pt_val (pe_fld (pv 0) rfl))))))
     (pss_one (ps_ret (pe_lst (pa_cons (gint T.c_NOT_BEGUN rfl) pa_nil))))
     pss_nil)
     (pss_cons (ps_if (pt_cmpR op_in_kdi (pv 1) (gref g_FT rfl) (by rfl))
     (pss_one (ps_ret (call_any hS (hr.mono (by decide)) (pe_ix ix_kdi (gref g_FT rfl) (pv 1) (fun _ _ => rfl)) (pa_cons (pv 0) (pa_cons (pv 2) pa_nil)))))
     pss_nil)
     (pss_one (ps_ret (call_def D_answer_with_ship (hr.mono (by decide)) rfl (pa_cons (pv 0) (pa_cons (pv 1) (pa_cons (pv 2) pa_nil)))))))), ?_⟩)
  · obtain ⟨a, q, ls, b, as, rs, k, ns, rfl, _⟩ := h
    rfl
  · obtain ⟨a, q, ls, b, as, rs, k, ns, rfl, hF, hG, h4, hn, hfit, kk⟩ := h
    have h23 := hfit.2.2.1
    have onward : ¬ (k ≠ 0 ∧ b = false) → (if bare k = true then FA CL CS CF H a ls as (mN k b rs ns) Q else FA CL CS CF H a ls as (if rs.length ≤ ns.getD 0 0 then ((b, rs), [-2]) else ((b, rs.set (ns.getD 0 0) (mS k (rs.getD (ns.getD 0 0) default) (ns.drop 1)).1), (mS k (rs.getD (ns.getD 0 0) default) (ns.drop 1)).2)) Q) := fun c0 => by
      unfold mCall at kk
      rw [if_neg c0] at kk
      by_cases hb : bare k = true
      · rw [if_pos hb] at kk ⊢
        exact kk
      · rw [if_neg hb] at kk ⊢
        exact kk
    refine ⟨_, rfl, rfl, _, rfl, ?_⟩
    refine if_then (!b) (fun z => ⟨_, rfl, f_begun T.cf T.fl1 hF.fl ⟨_, rfl, z⟩⟩) ?_
    have ek : (!decide (V.int (k : Int) = V.int 0)) = !decide (k = 0) := by
      congr 1
      exact decide_eq_decide.mpr ⟨fun z => by injection z with z; exact Int.ofNat.inj z, fun z => by rw [z]; rfl⟩
    rw [ek]
    by_cases c0 : k ≠ 0 ∧ b = false
    · refine if_true_of (by rw [c0.2, decide_eq_false c0.1]; rfl) ?_
      rw [show mCall b rs k ns = ((b, rs), [-11]) from if_pos c0] at kk
      exact ⟨(by show 1 ≤ sizeLine; decide), fun p np => kk.say hF (Same.refl _) np rfl⟩
    · refine if_false_of ?_ ?_
      · rw [Bool.and_eq_false_iff, Bool.not_eq_false', Bool.not_eq_false', decide_eq_true_eq]
        by_cases hk : k = 0
        · exact .inl hk
        · refine .inr ?_
          cases hbb : b with
          | true => rfl
          | false => exact absurd ⟨hk, hbb⟩ c0
      · have kr := onward c0
        refine ⟨_, rfl, FT, es, k, rfl, rfl, B.kdi, _, rfl, ?_⟩
        cases hb : bare k with
        | true =>
          rw [if_pos hb] at kr
          obtain ⟨f0, ef, _⟩ := B.ent k h23 hb
          rw [ef]
          refine if_true_of rfl ?_
          refine ⟨_, rfl, FT, es, k, _, .ref f0, rfl, rfl, B.kdi, ef, rfl, ?_⟩
          refine ⟨f0, _, rfl, ⟨k, h23, hb, ef, rfl⟩, ?_⟩
          exact ⟨_, rfl, _, rfl, a, q, ls, b, as, rs, ns, rfl, hF, hG, hn, fits_bare hfit hb, h4, kr⟩
        | false =>
          rw [if_neg (by rw [hb]; exact Bool.false_ne_true)] at kr
          rw [B.non k h23 hb]
          refine if_false_of rfl ?_
          obtain ⟨s0, rest, rfl, hrest⟩ := fits_ship hfit hb
          exact ⟨_, rfl, _, rfl, _, rfl, a, q, ls, b, as, rs, k, s0, rest, rfl, hF, hG, hn, h23, hb, hrest, kr⟩
end
end Hop

/-! ### what the head finds, in short -/
namespace Hop
open PySem PySem.Spec PyProof.Rows L2
section
variable {K : PySem.W.Frag} {h : Heap} {mg : Str → Option Value}
theorem get_fun {x : Str} {st : Stmt} {f : Addr} {oc : Value} {od an : Option Addr} {osl : Array (Option Value)} {kV doc pm cdv ct : Value} (X : K.In h) (G : h.Ns mainGlobals mg) (a : PySem.W.nsIn K mainGlobals x = some (some (.ref f)))
    (l : K.lookup f = some ⟨oc, od, .func (PySem.W.fnOf x x (defArgs st) (defBody st) (defScope st) .none kV doc pm an cdv ct), osl⟩) (c : PySem.W.codeIn K cdv x = true) (k : PySem.W.keepIn K (.ref f) = true) : ∃ f fd, mg x = some (.ref f) ∧ Fun K x x st f fd := ⟨f, _, PySem.W.mg_of X G a, fun_mk l c k⟩
/-- the same, the address told (a table holds it) -/
theorem get_funA {x : Str} {st : Stmt} {f : Addr} {oc : Value} {od an : Option Addr} {osl : Array (Option Value)} {kV doc pm cdv ct : Value} (X : K.In h) (G : h.Ns mainGlobals mg) (a : PySem.W.nsIn K mainGlobals x = some (some (.ref f)))
    (l : K.lookup f = some ⟨oc, od, .func (PySem.W.fnOf x x (defArgs st) (defBody st) (defScope st) .none kV doc pm an cdv ct), osl⟩) (c : PySem.W.codeIn K cdv x = true) (k : PySem.W.keepIn K (.ref f) = true) : ∃ fd, mg x = some (.ref f) ∧ Fun K x x st f fd := ⟨_, PySem.W.mg_of X G a, fun_mk l c k⟩
theorem get_meth {C : Addr} {m q : Str} {st : Stmt} {f : Addr} {oc : Value} {od an : Option Addr} {osl : Array (Option Value)} {kV doc pm cdv ct : Value} (a : PySem.W.findIn K (.ref C) m = some (some (.ref f))) (i : PySem.W.isFn K (.ref f) = true)
    (l : K.lookup f = some ⟨oc, od, .func (PySem.W.fnOf m q (defArgs st) (defBody st) (defScope st) .none kV doc pm an cdv ct), osl⟩) (c : PySem.W.codeIn K cdv q = true) (k : PySem.W.keepIn K (.ref f) = true) : ∃ f fd, PySem.W.findIn K (.ref C) m = some (some (.ref f)) ∧ PySem.W.isFn K (.ref f) = true ∧ PySem.W.keepIn K (.ref f) = true ∧ Fun K m q st f fd := ⟨f, _, a, i, k, fun_mk l c k⟩
theorem get_cls {x : Str} {C : Addr} (X : K.In h) (G : h.Ns mainGlobals mg) (a : PySem.W.nsIn K mainGlobals x = some (some (.ref C))) (pg : PySem.W.plainGet K C Str.empty = true) (hd : PySem.W.hasDictIn K C = true) (po : PySem.W.plainOver K C = true) (sa : PySem.W.findIn K (.ref C) "__setattr__" = some (some (.builtin "object.__setattr__")))
    (mk : PySem.W.makesIn K C = true) (kc : PySem.W.keepIn K (.ref C) = true) : ∃ C', C' = C ∧ mg x = some (.ref C') ∧ Cls K C' ∧ PySem.W.makesIn K C' = true ∧ PySem.W.keepIn K (.ref C') = true := ⟨C, rfl, PySem.W.mg_of X G a, ⟨pg, hd, po, sa⟩, mk, kc⟩
theorem get_int {x : Str} {i : Int} {t : Tok} (X : K.In h) (G : h.Ns mainGlobals mg) (a : PySem.W.nsIn K mainGlobals x = some (some (.int i t))) : GInt mg x i := ⟨_, PySem.W.mg_of X G a, ⟨t, rfl⟩⟩
theorem get_none {x : Str} (X : K.In h) (G : h.Ns mainGlobals mg) (a : PySem.W.nsIn K mainGlobals x = some none) : mg x = none := PySem.W.mg_none_of X G a
theorem get_ref {x : Str} {a : Addr} (X : K.In h) (G : h.Ns mainGlobals mg) (e : PySem.W.nsIn K mainGlobals x = some (some (.ref a))) : ∃ a', a' = a ∧ GRef mg x a' := ⟨a, rfl, PySem.W.mg_of X G e⟩
theorem get_tup {a : Addr} {dd : Option Addr} {sl : Array (Option Value)} {n : Nat} {its : List Value} {xs : List V} (l : K.lookup a = some ⟨.type "tuple", dd, .seq its.toArray n, sl⟩) (hs : its.length ≤ 1000) (v : Vals xs its) : ∀ H, SqT K H a xs := fun H => .inr ⟨_, its.toArray, n, l, rfl, rfl, Nat.le_trans (by simpa using hs) (by decide), by simpa using v⟩
end
end Hop
namespace Hop
open PySem PySem.Spec PyProof.Rows L2
theorem get_no {K : PySem.W.Frag} {C : Addr} {f : Str} (a : PySem.W.findIn K (.ref C) f = some none) : NoAttr K C f := a
theorem bindsTo {K : PySem.W.Frag} {x qual : Str} {st : Stmt} {f : Addr} {fd : FuncData} {ps : List Str} (F : Fun K x qual st f fd)
    (h : ∀ (kV doc pm : Value) (an : Option Addr) (cdv ct : Value) (us : List Value), us.length = ps.length → bindArgs (PySem.W.fnOf x qual (defArgs st) (defBody st) (defScope st) .none kV doc pm an cdv ct) ⟨us, []⟩ = pure (ps.zip us)) : ∀ (s : Shared) (us : List Value), us.length = ps.length → BindsTo s fd ⟨us, []⟩ (ps.zip us) := by
  obtain ⟨oc, od, kV, doc, pm, an, cdv, ct, osl, rfl, lk, hcd⟩ := F.ex
  exact fun s us hl => .of_eq (h kV doc pm an cdv ct us hl)
theorem get_ranges {K : PySem.W.Frag} {a : Addr} {dd d0 d1 d2 d3 d4 d5 : Option Addr} {sl l0 l1 l2 l3 l4 l5 : Array (Option Value)} {n n0 n1 n2 n3 n4 n5 : Nat} {a0 a1 a2 a3 a4 a5 : Addr} {t0 t1 t2 t3 t4 t5 u0 u1 u2 u3 u4 u5 : Tok}
    (l : K.lookup a = some ⟨.type "tuple", dd, .seq (List.toArray [.ref a0, .ref a1, .ref a2, .ref a3, .ref a4, .ref a5]) n, sl⟩) (z : (6 : Nat) ≤ 1000)
    (k0 : K.lookup a0 = some ⟨.type "tuple", d0, .seq (List.toArray [.int 1 t0, .int 10000 u0]) n0, l0⟩) (k1 : K.lookup a1 = some ⟨.type "tuple", d1, .seq (List.toArray [.int 1 t1, .int 20000 u1]) n1, l1⟩) (k2 : K.lookup a2 = some ⟨.type "tuple", d2, .seq (List.toArray [.int 1 t2, .int 20000 u2]) n2, l2⟩)
    (k3 : K.lookup a3 = some ⟨.type "tuple", d3, .seq (List.toArray [.int 1 t3, .int 200 u3]) n3, l3⟩) (k4 : K.lookup a4 = some ⟨.type "tuple", d4, .seq (List.toArray [.int 1 t4, .int 60 u4]) n4, l4⟩) (k5 : K.lookup a5 = some ⟨.type "tuple", d5, .seq (List.toArray [.int 0 t5, .int 10 u5]) n5, l5⟩) :
    ∀ H, RangesAt K H a [(1, 10000), (1, 20000), (1, 20000), (1, 200), (1, 60), (0, 10)] := fun H => by
  have two : ∀ {b : Addr} {d : Option Addr} {sl : Array (Option Value)} {n : Nat} {x y : Int} {t u : Tok}, K.lookup b = some ⟨.type "tuple", d, .seq (List.toArray [.int x t, .int y u]) n, sl⟩ → SqT K H b [.int x, .int y] := fun {b d sl n x y t u} e => get_tup (xs := [.int x, .int y]) e (by show 2 ≤ 1000; decide) (.cons ⟨t, rfl⟩ (.cons ⟨u, rfl⟩ .nil)) H
  refine ⟨[a0, a1, a2, a3, a4, a5], get_tup (xs := [.ref a0, .ref a1, .ref a2, .ref a3, .ref a4, .ref a5]) l (by show 6 ≤ 1000; decide) (.cons rfl (.cons rfl (.cons rfl (.cons rfl (.cons rfl (.cons rfl .nil)))))) H, rfl, fun i b w hb hw => ?_⟩
  match i, hb, hw with
  | 0, hb, hw => cases hb; cases hw; exact two k0
  | 1, hb, hw => cases hb; cases hw; exact two k1
  | 2, hb, hw => cases hb; cases hw; exact two k2
  | 3, hb, hw => cases hb; cases hw; exact two k3
  | 4, hb, hw => cases hb; cases hw; exact two k4
  | 5, hb, hw => cases hb; cases hw; exact two k5
  | n + 6, hb, hw => cases hb
end Hop

namespace Hop
open PySem PySem.Spec PyProof.Rows L2
structure Facts (K : PySem.W.Frag) (mg : Str → Option Value) (CL CS CF CR : Addr) : Prop where
  d_empty_load : ∃ f fd, mg "empty_load" = some (.ref f) ∧ Fun K "empty_load" "empty_load" s_empty_load f fd
  d_hundredths_of_tons : ∃ f fd, mg "hundredths_of_tons" = some (.ref f) ∧ Fun K "hundredths_of_tons" "hundredths_of_tons" s_hundredths_of_tons f fd
  d_whole_tons : ∃ f fd, mg "whole_tons" = some (.ref f) ∧ Fun K "whole_tons" "whole_tons" s_whole_tons f fd
  d_may_carry : ∃ f fd, mg "may_carry" = some (.ref f) ∧ Fun K "may_carry" "may_carry" s_may_carry f fd
  d_kept_hundredths : ∃ f fd, mg "kept_hundredths" = some (.ref f) ∧ Fun K "kept_hundredths" "kept_hundredths" s_kept_hundredths f fd
  d_behind_overflow : ∃ f fd, mg "behind_overflow" = some (.ref f) ∧ Fun K "behind_overflow" "behind_overflow" s_behind_overflow f fd
  d_behind_minute : ∃ f fd, mg "behind_minute" = some (.ref f) ∧ Fun K "behind_minute" "behind_minute" s_behind_minute f fd
  d_poured : ∃ f fd, mg "poured" = some (.ref f) ∧ Fun K "poured" "poured" s_poured f fd
  d_loads_on : ∃ f fd, mg "loads_on" = some (.ref f) ∧ Fun K "loads_on" "loads_on" s_loads_on f fd
  d_loads_from_empty : ∃ f fd, mg "loads_from_empty" = some (.ref f) ∧ Fun K "loads_from_empty" "loads_from_empty" s_loads_from_empty f fd
  d_load_from_empty : ∃ f fd, mg "load_from_empty" = some (.ref f) ∧ Fun K "load_from_empty" "load_from_empty" s_load_from_empty f fd
  d_allowed_loads : ∃ f fd, mg "allowed_loads" = some (.ref f) ∧ Fun K "allowed_loads" "allowed_loads" s_allowed_loads f fd
  d_best_load : ∃ f fd, mg "best_load" = some (.ref f) ∧ Fun K "best_load" "best_load" s_best_load f fd
  d_goes_up : ∃ f fd, mg "goes_up" = some (.ref f) ∧ Fun K "goes_up" "goes_up" s_goes_up f fd
  d_is_table : ∃ f fd, mg "is_table" = some (.ref f) ∧ Fun K "is_table" "is_table" s_is_table f fd
  d_in_table : ∃ f fd, mg "in_table" = some (.ref f) ∧ Fun K "in_table" "in_table" s_in_table f fd
  d_depth_at : ∃ f fd, mg "depth_at" = some (.ref f) ∧ Fun K "depth_at" "depth_at" s_depth_at f fd
  d_outside : ∃ f fd, mg "outside" = some (.ref f) ∧ Fun K "outside" "outside" s_outside f fd
  d_any_outside : ∃ f fd, mg "any_outside" = some (.ref f) ∧ Fun K "any_outside" "any_outside" s_any_outside f fd
  d_read_numbers : ∃ f fd, mg "read_numbers" = some (.ref f) ∧ Fun K "read_numbers" "read_numbers" s_read_numbers f fd
  d_answer_with_ship : ∃ f fd, mg "answer_with_ship" = some (.ref f) ∧ Fun K "answer_with_ship" "answer_with_ship" s_answer_with_ship f fd
  d_answer_call : ∃ f fd, mg "answer_call" = some (.ref f) ∧ Fun K "answer_call" "answer_call" s_answer_call f fd
  m_Reader_ended : ∃ f fd, PySem.W.findIn K (.ref CR) "ended" = some (some (.ref f)) ∧ PySem.W.isFn K (.ref f) = true ∧ PySem.W.keepIn K (.ref f) = true ∧ Fun K "ended" "Reader.ended" s_Reader_ended f fd
  m_Reader_take_one : ∃ f fd, PySem.W.findIn K (.ref CR) "take_one" = some (some (.ref f)) ∧ PySem.W.isFn K (.ref f) = true ∧ PySem.W.keepIn K (.ref f) = true ∧ Fun K "take_one" "Reader.take_one" s_Reader_take_one f fd
  m_Reader_take : ∃ f fd, PySem.W.findIn K (.ref CR) "take" = some (some (.ref f)) ∧ PySem.W.isFn K (.ref f) = true ∧ PySem.W.keepIn K (.ref f) = true ∧ Fun K "take" "Reader.take" s_Reader_take f fd
  i_Load : ∃ f fd, PySem.W.findIn K (.ref CL) "__init__" = some (some (.ref f)) ∧ PySem.W.isFn K (.ref f) = true ∧ PySem.W.keepIn K (.ref f) = true ∧ Fun K "__init__" "Load.__init__" s_Load_init f fd
  k_Load : PySem.W.makesIn K CL = true ∧ PySem.W.keepIn K (.ref CL) = true
  i_Ship : ∃ f fd, PySem.W.findIn K (.ref CS) "__init__" = some (some (.ref f)) ∧ PySem.W.isFn K (.ref f) = true ∧ PySem.W.keepIn K (.ref f) = true ∧ Fun K "__init__" "Ship.__init__" s_Ship_init f fd
  k_Ship : PySem.W.makesIn K CS = true ∧ PySem.W.keepIn K (.ref CS) = true
  i_Fleet : ∃ f fd, PySem.W.findIn K (.ref CF) "__init__" = some (some (.ref f)) ∧ PySem.W.isFn K (.ref f) = true ∧ PySem.W.keepIn K (.ref f) = true ∧ Fun K "__init__" "Fleet.__init__" s_Fleet_init f fd
  k_Fleet : PySem.W.makesIn K CF = true ∧ PySem.W.keepIn K (.ref CF) = true
  i_Reader : ∃ f fd, PySem.W.findIn K (.ref CR) "__init__" = some (some (.ref f)) ∧ PySem.W.isFn K (.ref f) = true ∧ PySem.W.keepIn K (.ref f) = true ∧ Fun K "__init__" "Reader.__init__" s_Reader_init f fd
  k_Reader : PySem.W.makesIn K CR = true ∧ PySem.W.keepIn K (.ref CR) = true
structure EntS (K : PySem.W.Frag) (es : List DictEntry) : Prop where
  e2 : ∃ f fd, kget es 2 = some (.ref f) ∧ Fun K "answer_fill" "answer_fill" s_answer_fill f fd
  e3 : ∃ f fd, kget es 3 = some (.ref f) ∧ Fun K "answer_dump" "answer_dump" s_answer_dump f fd
  e4 : ∃ f fd, kget es 4 = some (.ref f) ∧ Fun K "answer_pour" "answer_pour" s_answer_pour f fd
  e5 : ∃ f fd, kget es 5 = some (.ref f) ∧ Fun K "answer_change" "answer_change" s_answer_change f fd
  e6 : ∃ f fd, kget es 6 = some (.ref f) ∧ Fun K "answer_load" "answer_load" s_answer_load f fd
  e7 : ∃ f fd, kget es 7 = some (.ref f) ∧ Fun K "answer_weight" "answer_weight" s_answer_weight f fd
  e8 : ∃ f fd, kget es 8 = some (.ref f) ∧ Fun K "answer_after" "answer_after" s_answer_after f fd
  e9 : ∃ f fd, kget es 9 = some (.ref f) ∧ Fun K "answer_full" "answer_full" s_answer_full f fd
  e10 : ∃ f fd, kget es 10 = some (.ref f) ∧ Fun K "answer_longest" "answer_longest" s_answer_longest f fd
  e11 : ∃ f fd, kget es 11 = some (.ref f) ∧ Fun K "answer_best" "answer_best" s_answer_best f fd
  e12 : ∃ f fd, kget es 12 = some (.ref f) ∧ Fun K "answer_rate" "answer_rate" s_answer_rate f fd
  e13 : ∃ f fd, kget es 13 = some (.ref f) ∧ Fun K "answer_trips" "answer_trips" s_answer_trips f fd
  e14 : ∃ f fd, kget es 14 = some (.ref f) ∧ Fun K "answer_keeps" "answer_keeps" s_answer_keeps f fd
  e15 : ∃ f fd, kget es 15 = some (.ref f) ∧ Fun K "answer_lost" "answer_lost" s_answer_lost f fd
  e16 : ∃ f fd, kget es 16 = some (.ref f) ∧ Fun K "answer_wet" "answer_wet" s_answer_wet f fd
  e17 : ∃ f fd, kget es 17 = some (.ref f) ∧ Fun K "answer_draft" "answer_draft" s_answer_draft f fd
  e19 : ∃ f fd, kget es 19 = some (.ref f) ∧ Fun K "answer_reaches" "answer_reaches" s_answer_reaches f fd
  e20 : ∃ f fd, kget es 20 = some (.ref f) ∧ Fun K "answer_look" "answer_look" s_answer_look f fd
structure EntF (K : PySem.W.Frag) (es : List DictEntry) : Prop where
  e0 : ∃ f fd, kget es 0 = some (.ref f) ∧ Fun K "answer_begin" "answer_begin" s_answer_begin f fd
  e1 : ∃ f fd, kget es 1 = some (.ref f) ∧ Fun K "answer_ship" "answer_ship" s_answer_ship f fd
  e18 : ∃ f fd, kget es 18 = some (.ref f) ∧ Fun K "answer_fullest" "answer_fullest" s_answer_fullest f fd
  e21 : ∃ f fd, kget es 21 = some (.ref f) ∧ Fun K "answer_sums" "answer_sums" s_answer_sums f fd
  e22 : ∃ f fd, kget es 22 = some (.ref f) ∧ Fun K "answer_state" "answer_state" s_answer_state f fd
  non : ((List.range 23).all fun k => bare k || !(kget es (k : Int)).isSome) = true
theorem get_fn {K : PySem.W.Frag} {x : Str} {st : Stmt} {f : Addr} {oc : Value} {od an : Option Addr} {osl : Array (Option Value)} {kV doc pm cdv ct : Value}
    (l : K.lookup f = some ⟨oc, od, .func (PySem.W.fnOf x x (defArgs st) (defBody st) (defScope st) .none kV doc pm an cdv ct), osl⟩) (c : PySem.W.codeIn K cdv x = true) (k : PySem.W.keepIn K (.ref f) = true) : ∃ fd, Fun K x x st f fd := ⟨_, fun_mk l c k⟩
theorem get_entS {K : PySem.W.Frag} {h : Heap} {mg : Str → Option Value} {x : Str} {a f2 f3 f4 f5 f6 f7 f8 f9 f10 f11 f12 f13 f14 f15 f16 f17 f19 f20 : Addr} {es : List DictEntry} {n : Nat} (_X : K.In h) (_g : GRef mg x a) (l : K.lookup a = some ⟨.type "dict", none, .dict es.toArray n, #[]⟩) (b : intKeysB es = true) (s : (a == sysModules) = false)
    (k2 : kget es 2 = some (.ref f2)) (F2 : ∃ fd, Fun K "answer_fill" "answer_fill" s_answer_fill f2 fd)
    (k3 : kget es 3 = some (.ref f3)) (F3 : ∃ fd, Fun K "answer_dump" "answer_dump" s_answer_dump f3 fd)
    (k4 : kget es 4 = some (.ref f4)) (F4 : ∃ fd, Fun K "answer_pour" "answer_pour" s_answer_pour f4 fd)
    (k5 : kget es 5 = some (.ref f5)) (F5 : ∃ fd, Fun K "answer_change" "answer_change" s_answer_change f5 fd)
    (k6 : kget es 6 = some (.ref f6)) (F6 : ∃ fd, Fun K "answer_load" "answer_load" s_answer_load f6 fd)
    (k7 : kget es 7 = some (.ref f7)) (F7 : ∃ fd, Fun K "answer_weight" "answer_weight" s_answer_weight f7 fd)
    (k8 : kget es 8 = some (.ref f8)) (F8 : ∃ fd, Fun K "answer_after" "answer_after" s_answer_after f8 fd)
    (k9 : kget es 9 = some (.ref f9)) (F9 : ∃ fd, Fun K "answer_full" "answer_full" s_answer_full f9 fd)
    (k10 : kget es 10 = some (.ref f10)) (F10 : ∃ fd, Fun K "answer_longest" "answer_longest" s_answer_longest f10 fd)
    (k11 : kget es 11 = some (.ref f11)) (F11 : ∃ fd, Fun K "answer_best" "answer_best" s_answer_best f11 fd)
    (k12 : kget es 12 = some (.ref f12)) (F12 : ∃ fd, Fun K "answer_rate" "answer_rate" s_answer_rate f12 fd)
    (k13 : kget es 13 = some (.ref f13)) (F13 : ∃ fd, Fun K "answer_trips" "answer_trips" s_answer_trips f13 fd)
    (k14 : kget es 14 = some (.ref f14)) (F14 : ∃ fd, Fun K "answer_keeps" "answer_keeps" s_answer_keeps f14 fd)
    (k15 : kget es 15 = some (.ref f15)) (F15 : ∃ fd, Fun K "answer_lost" "answer_lost" s_answer_lost f15 fd)
    (k16 : kget es 16 = some (.ref f16)) (F16 : ∃ fd, Fun K "answer_wet" "answer_wet" s_answer_wet f16 fd)
    (k17 : kget es 17 = some (.ref f17)) (F17 : ∃ fd, Fun K "answer_draft" "answer_draft" s_answer_draft f17 fd)
    (k19 : kget es 19 = some (.ref f19)) (F19 : ∃ fd, Fun K "answer_reaches" "answer_reaches" s_answer_reaches f19 fd)
    (k20 : kget es 20 = some (.ref f20)) (F20 : ∃ fd, Fun K "answer_look" "answer_look" s_answer_look f20 fd) : ∃ es, KDI K a es ∧ EntS K es := by
  obtain ⟨d2, F2⟩ := F2
  obtain ⟨d3, F3⟩ := F3
  obtain ⟨d4, F4⟩ := F4
  obtain ⟨d5, F5⟩ := F5
  obtain ⟨d6, F6⟩ := F6
  obtain ⟨d7, F7⟩ := F7
  obtain ⟨d8, F8⟩ := F8
  obtain ⟨d9, F9⟩ := F9
  obtain ⟨d10, F10⟩ := F10
  obtain ⟨d11, F11⟩ := F11
  obtain ⟨d12, F12⟩ := F12
  obtain ⟨d13, F13⟩ := F13
  obtain ⟨d14, F14⟩ := F14
  obtain ⟨d15, F15⟩ := F15
  obtain ⟨d16, F16⟩ := F16
  obtain ⟨d17, F17⟩ := F17
  obtain ⟨d19, F19⟩ := F19
  obtain ⟨d20, F20⟩ := F20
  exact ⟨es, get_kdi l b s, ⟨⟨f2, d2, k2, F2⟩, ⟨f3, d3, k3, F3⟩, ⟨f4, d4, k4, F4⟩, ⟨f5, d5, k5, F5⟩, ⟨f6, d6, k6, F6⟩, ⟨f7, d7, k7, F7⟩, ⟨f8, d8, k8, F8⟩, ⟨f9, d9, k9, F9⟩, ⟨f10, d10, k10, F10⟩, ⟨f11, d11, k11, F11⟩, ⟨f12, d12, k12, F12⟩, ⟨f13, d13, k13, F13⟩, ⟨f14, d14, k14, F14⟩, ⟨f15, d15, k15, F15⟩, ⟨f16, d16, k16, F16⟩, ⟨f17, d17, k17, F17⟩, ⟨f19, d19, k19, F19⟩, ⟨f20, d20, k20, F20⟩⟩⟩
theorem get_entF {K : PySem.W.Frag} {h : Heap} {mg : Str → Option Value} {x : Str} {a f0 f1 f18 f21 f22 : Addr} {es : List DictEntry} {n : Nat} (_X : K.In h) (_g : GRef mg x a) (l : K.lookup a = some ⟨.type "dict", none, .dict es.toArray n, #[]⟩) (b : intKeysB es = true) (s : (a == sysModules) = false) (no : ((List.range 23).all fun k => bare k || !(kget es (k : Int)).isSome) = true)
    (k0 : kget es 0 = some (.ref f0)) (F0 : ∃ fd, Fun K "answer_begin" "answer_begin" s_answer_begin f0 fd)
    (k1 : kget es 1 = some (.ref f1)) (F1 : ∃ fd, Fun K "answer_ship" "answer_ship" s_answer_ship f1 fd)
    (k18 : kget es 18 = some (.ref f18)) (F18 : ∃ fd, Fun K "answer_fullest" "answer_fullest" s_answer_fullest f18 fd)
    (k21 : kget es 21 = some (.ref f21)) (F21 : ∃ fd, Fun K "answer_sums" "answer_sums" s_answer_sums f21 fd)
    (k22 : kget es 22 = some (.ref f22)) (F22 : ∃ fd, Fun K "answer_state" "answer_state" s_answer_state f22 fd) : ∃ es, KDI K a es ∧ EntF K es := by
  obtain ⟨d0, F0⟩ := F0
  obtain ⟨d1, F1⟩ := F1
  obtain ⟨d18, F18⟩ := F18
  obtain ⟨d21, F21⟩ := F21
  obtain ⟨d22, F22⟩ := F22
  exact ⟨es, get_kdi l b s, ⟨⟨f0, d0, k0, F0⟩, ⟨f1, d1, k1, F1⟩, ⟨f18, d18, k18, F18⟩, ⟨f21, d21, k21, F21⟩, ⟨f22, d22, k22, F22⟩, no⟩⟩
section
variable {P : Program} {w : World} {K : PySem.W.Frag} {mg : Str → Option Value} {CL CS RG CF CR WN ST FT : Addr} {eS eF : List DictEntry}
theorem weak {base : Heap} {n : Nat} {f : Addr} {fd : FuncData} {g : Bool → List R → List Nat → (Bool × List R) × List Int} (F : FnOk P w K mg base CX0 9 f fd ["fleet", "numbers"] (spF CL CS CF n g)) : FnOk P w K mg base CX0 9 f fd ["fleet", "numbers"] (spFG CL CS CF n g) :=
  F.imp fun vs H Q E z => by
    obtain ⟨a, q, ls, b, as, rs, ns, e, hF, _, hn, hl, h4, k⟩ := z
    exact ⟨a, q, ls, b, as, rs, ns, e, hF, hn, hl, h4, k⟩
theorem all_ok (T : Txt6 K mg CL CS RG CF CR WN) (A : Facts K mg CL CS CF CR) (gST : GRef mg "SHIP_CALLS" ST) (kS : KDI K ST eS) (ES : EntS K eS) (gFT : GRef mg "FLEET_CALLS" FT) (kF : KDI K FT eF) (EF : EntF K eF) {fa : Addr} {fd : FuncData} (F : Fun K "answers" "answers" s_answers fa fd) (base : Heap) : FnOk P w K mg base CX0 14 fa fd ["calls"] (spAns K) := by
  have D_Load : Cl P w K mg base 1 "Load" (spLoad CL) := by
    obtain ⟨f, fd, a, i, kp, F⟩ := A.i_Load
    have b := F.binds (ps := ["self", "minutes", "sand", "water", "overflow", "gone"]) (fun _ _ _ _ _ _ us hl => match us, hl with | [_, _, _, _, _, _], _ => rfl)
    have M : Mk K CL f := ⟨A.k_Load.1, a, i, A.k_Load.2⟩
    exact cl_Load T.toTxt M b F
  have D_empty_load : Def P w K mg base 3 "empty_load" (spEmpty CL) := by
    obtain ⟨f, fd, m, F⟩ := A.d_empty_load
    exact ⟨f, fd, _, m, F.kp, F.binds (ps := []) (fun _ _ _ _ _ _ us hl => match us, hl with | [], _ => rfl), ok_empty F D_Load⟩
  have D_Ship : Cl P w K mg base 4 "Ship" (spShip CL CS) := by
    obtain ⟨f, fd, a, i, kp, F⟩ := A.i_Ship
    have b := F.binds (ps := ["self", "room", "empty", "most", "flow", "solid", "loss"]) (fun _ _ _ _ _ _ us hl => match us, hl with | [_, _, _, _, _, _, _], _ => rfl)
    have M : Mk K CS f := ⟨A.k_Ship.1, a, i, A.k_Ship.2⟩
    exact cl_Ship T.toTxt M b F D_empty_load
  have D_Fleet : Cl P w K mg base 1 "Fleet" (spFleet CF) := by
    obtain ⟨f, fd, a, i, kp, F⟩ := A.i_Fleet
    have b := F.binds (ps := ["self"]) (fun _ _ _ _ _ _ us hl => match us, hl with | [_], _ => rfl)
    have M : Mk K CF f := ⟨A.k_Fleet.1, a, i, A.k_Fleet.2⟩
    exact cl_Fleet T.toTxt5 M b F
  have D_Reader : Cl P w K mg base 1 "Reader" (spReader CR) := by
    obtain ⟨f, fd, a, i, kp, F⟩ := A.i_Reader
    have b := F.binds (ps := ["self", "calls"]) (fun _ _ _ _ _ _ us hl => match us, hl with | [_, _], _ => rfl)
    have M : Mk K CR f := ⟨A.k_Reader.1, a, i, A.k_Reader.2⟩
    exact cl_Reader T.toTxt5 M b F
  have D_ended : MDef P w K mg base 1 CR "ended" (spEnded K CR) := by
    obtain ⟨f, fd, a, i, kp, F⟩ := A.m_Reader_ended
    exact ⟨f, fd, _, ⟨a, i, kp⟩, F.binds (ps := ["self"]) (fun _ _ _ _ _ _ us hl => match us, hl with | [_], _ => rfl), ok_ended F T.toTxt5⟩
  have D_take_one : MDef P w K mg base 1 CR "take_one" (spOne K CR) := by
    obtain ⟨f, fd, a, i, kp, F⟩ := A.m_Reader_take_one
    exact ⟨f, fd, _, ⟨a, i, kp⟩, F.binds (ps := ["self"]) (fun _ _ _ _ _ _ us hl => match us, hl with | [_], _ => rfl), ok_one F T.toTxt5⟩
  have D_take : MDef P w K mg base 1 CR "take" (spTake K CR) := by
    obtain ⟨f, fd, a, i, kp, F⟩ := A.m_Reader_take
    exact ⟨f, fd, _, ⟨a, i, kp⟩, F.binds (ps := ["self", "count"]) (fun _ _ _ _ _ _ us hl => match us, hl with | [_, _], _ => rfl), ok_take F T.toTxt5⟩
  have D_hundredths_of_tons : Def P w K mg base 1 "hundredths_of_tons" (spTons CL) := by
    obtain ⟨f, fd, m, F⟩ := A.d_hundredths_of_tons
    exact ⟨f, fd, _, m, F.kp, F.binds (ps := ["load"]) (fun _ _ _ _ _ _ us hl => match us, hl with | [_], _ => rfl), ok_tons F T.toTxt⟩
  have D_whole_tons : Def P w K mg base 2 "whole_tons" (spWhole CL) := by
    obtain ⟨f, fd, m, F⟩ := A.d_whole_tons
    exact ⟨f, fd, _, m, F.kp, F.binds (ps := ["load"]) (fun _ _ _ _ _ _ us hl => match us, hl with | [_], _ => rfl), ok_whole F T.toTxt D_hundredths_of_tons⟩
  have D_may_carry : Def P w K mg base 2 "may_carry" (spMay CL CS) := by
    obtain ⟨f, fd, m, F⟩ := A.d_may_carry
    exact ⟨f, fd, _, m, F.kp, F.binds (ps := ["ship", "load"]) (fun _ _ _ _ _ _ us hl => match us, hl with | [_, _], _ => rfl), ok_may F T.toTxt D_hundredths_of_tons⟩
  have D_kept_hundredths : Def P w K mg base 1 "kept_hundredths" (spKept CS) := by
    obtain ⟨f, fd, m, F⟩ := A.d_kept_hundredths
    exact ⟨f, fd, _, m, F.kp, F.binds (ps := ["ship", "k"]) (fun _ _ _ _ _ _ us hl => match us, hl with | [_, _], _ => rfl), ok_kept F T.toTxt⟩
  have D_behind_overflow : Def P w K mg base 3 "behind_overflow" (spOver CL CS) := by
    obtain ⟨f, fd, m, F⟩ := A.d_behind_overflow
    exact ⟨f, fd, _, m, F.kp, F.binds (ps := ["ship", "load", "came"]) (fun _ _ _ _ _ _ us hl => match us, hl with | [_, _, _], _ => rfl), ok_over F T.toTxt D_Load D_kept_hundredths⟩
  have D_behind_minute : Def P w K mg base 4 "behind_minute" (spMinute CL CS) := by
    obtain ⟨f, fd, m, F⟩ := A.d_behind_minute
    exact ⟨f, fd, _, m, F.kp, F.binds (ps := ["ship", "load"]) (fun _ _ _ _ _ _ us hl => match us, hl with | [_, _], _ => rfl), ok_minute F T.toTxt D_Load D_behind_overflow⟩
  have D_poured : Def P w K mg base 3 "poured" (spPoured CL) := by
    obtain ⟨f, fd, m, F⟩ := A.d_poured
    exact ⟨f, fd, _, m, F.kp, F.binds (ps := ["load", "water"]) (fun _ _ _ _ _ _ us hl => match us, hl with | [_, _], _ => rfl), ok_poured F T.toTxt D_Load⟩
  have D_loads_on : Def P w K mg base 5 "loads_on" (spOn CL CS) := by
    obtain ⟨f, fd, m, F⟩ := A.d_loads_on
    exact ⟨f, fd, _, m, F.kp, F.binds (ps := ["ship", "load", "n"]) (fun _ _ _ _ _ _ us hl => match us, hl with | [_, _, _], _ => rfl), ok_on F T.toTxt D_behind_minute⟩
  have D_loads_from_empty : Def P w K mg base 6 "loads_from_empty" (spFrom CL CS) := by
    obtain ⟨f, fd, m, F⟩ := A.d_loads_from_empty
    exact ⟨f, fd, _, m, F.kp, F.binds (ps := ["ship", "n"]) (fun _ _ _ _ _ _ us hl => match us, hl with | [_, _], _ => rfl), ok_from F D_empty_load D_loads_on⟩
  have D_load_from_empty : Def P w K mg base 7 "load_from_empty" (spLoadN CL CS) := by
    obtain ⟨f, fd, m, F⟩ := A.d_load_from_empty
    exact ⟨f, fd, _, m, F.kp, F.binds (ps := ["ship", "n"]) (fun _ _ _ _ _ _ us hl => match us, hl with | [_, _], _ => rfl), ok_loadN F D_loads_from_empty⟩
  have D_allowed_loads : Def P w K mg base 7 "allowed_loads" (spAllowed CL CS) := by
    obtain ⟨f, fd, m, F⟩ := A.d_allowed_loads
    exact ⟨f, fd, _, m, F.kp, F.binds (ps := ["ship"]) (fun _ _ _ _ _ _ us hl => match us, hl with | [_], _ => rfl), ok_allowed F T.toTxt D_loads_from_empty D_may_carry⟩
  have D_best_load : Def P w K mg base 8 "best_load" (spBest CL CS) := by
    obtain ⟨f, fd, m, F⟩ := A.d_best_load
    exact ⟨f, fd, _, m, F.kp, F.binds (ps := ["ship", "rest"]) (fun _ _ _ _ _ _ us hl => match us, hl with | [_, _], _ => rfl), ok_best F T.toTxt D_empty_load D_allowed_loads⟩
  have D_goes_up : Def P w K mg base 1 "goes_up" (spUp) := by
    obtain ⟨f, fd, m, F⟩ := A.d_goes_up
    exact ⟨f, fd, _, m, F.kp, F.binds (ps := ["table"]) (fun _ _ _ _ _ _ us hl => match us, hl with | [_], _ => rfl), ok_up F T.toTxt2⟩
  have D_is_table : Def P w K mg base 2 "is_table" (spTable) := by
    obtain ⟨f, fd, m, F⟩ := A.d_is_table
    exact ⟨f, fd, _, m, F.kp, F.binds (ps := ["numbers"]) (fun _ _ _ _ _ _ us hl => match us, hl with | [_], _ => rfl), ok_table F T.toTxt2 D_goes_up⟩
  have D_in_table : Def P w K mg base 1 "in_table" (spIn) := by
    obtain ⟨f, fd, m, F⟩ := A.d_in_table
    exact ⟨f, fd, _, m, F.kp, F.binds (ps := ["table", "tons"]) (fun _ _ _ _ _ _ us hl => match us, hl with | [_, _], _ => rfl), ok_in F T.toTxt2⟩
  have D_depth_at : Def P w K mg base 1 "depth_at" (spDepth) := by
    obtain ⟨f, fd, m, F⟩ := A.d_depth_at
    exact ⟨f, fd, _, m, F.kp, F.binds (ps := ["table", "tons"]) (fun _ _ _ _ _ _ us hl => match us, hl with | [_, _], _ => rfl), ok_depth F⟩
  have D_outside : Def P w K mg base 1 "outside" (spOut) := by
    obtain ⟨f, fd, m, F⟩ := A.d_outside
    exact ⟨f, fd, _, m, F.kp, F.binds (ps := ["number", "least", "most"]) (fun _ _ _ _ _ _ us hl => match us, hl with | [_, _, _], _ => rfl), ok_outside F⟩
  have D_any_outside : Def P w K mg base 2 "any_outside" (spAny K) := by
    obtain ⟨f, fd, m, F⟩ := A.d_any_outside
    exact ⟨f, fd, _, m, F.kp, F.binds (ps := ["numbers", "ranges"]) (fun _ _ _ _ _ _ us hl => match us, hl with | [_, _], _ => rfl), ok_any F T.toTxt2 D_outside⟩
  have D_read_numbers : Def P w K mg base 2 "read_numbers" (spRead K CR) := by
    obtain ⟨f, fd, m, F⟩ := A.d_read_numbers
    exact ⟨f, fd, _, m, F.kp, F.binds (ps := ["reader", "number"]) (fun _ _ _ _ _ _ us hl => match us, hl with | [_, _], _ => rfl), ok_read F T D_take D_take_one⟩
  have H2 : ∃ f, kget eS ((2 : Nat) : Int) = some (.ref f) ∧ Held P w K mg base 9 f (shipSp CL CS 2) := by
    obtain ⟨f, fd, e, F⟩ := ES.e2
    exact ⟨f, e, fd, _, F.kp, F.binds (ps := ["ship", "numbers"]) (fun _ _ _ _ _ _ us hl => match us, hl with | [_, _], _ => rfl), ok_fill F T.toTxt2 D_outside D_loads_on D_may_carry⟩
  have H3 : ∃ f, kget eS ((3 : Nat) : Int) = some (.ref f) ∧ Held P w K mg base 9 f (shipSp CL CS 3) := by
    obtain ⟨f, fd, e, F⟩ := ES.e3
    exact ⟨f, e, fd, _, F.kp, F.binds (ps := ["ship", "numbers"]) (fun _ _ _ _ _ _ us hl => match us, hl with | [_, _], _ => rfl), ok_dump F T.toTxt2 D_empty_load⟩
  have H4 : ∃ f, kget eS ((4 : Nat) : Int) = some (.ref f) ∧ Held P w K mg base 9 f (shipSp CL CS 4) := by
    obtain ⟨f, fd, e, F⟩ := ES.e4
    exact ⟨f, e, fd, _, F.kp, F.binds (ps := ["ship", "numbers"]) (fun _ _ _ _ _ _ us hl => match us, hl with | [_, _], _ => rfl), ok_pour F T.toTxt2 D_outside D_poured⟩
  have H5 : ∃ f, kget eS ((5 : Nat) : Int) = some (.ref f) ∧ Held P w K mg base 9 f (shipSp CL CS 5) := by
    obtain ⟨f, fd, e, F⟩ := ES.e5
    exact ⟨f, e, fd, _, F.kp, F.binds (ps := ["ship", "numbers"]) (fun _ _ _ _ _ _ us hl => match us, hl with | [_, _], _ => rfl), ok_change F T.toTxt3 D_any_outside⟩
  have H6 : ∃ f, kget eS ((6 : Nat) : Int) = some (.ref f) ∧ Held P w K mg base 9 f (shipSp CL CS 6) := by
    obtain ⟨f, fd, e, F⟩ := ES.e6
    exact ⟨f, e, fd, _, F.kp, F.binds (ps := ["ship", "numbers"]) (fun _ _ _ _ _ _ us hl => match us, hl with | [_, _], _ => rfl), ok_load F T.toTxt2⟩
  have H7 : ∃ f, kget eS ((7 : Nat) : Int) = some (.ref f) ∧ Held P w K mg base 9 f (shipSp CL CS 7) := by
    obtain ⟨f, fd, e, F⟩ := ES.e7
    exact ⟨f, e, fd, _, F.kp, F.binds (ps := ["ship", "numbers"]) (fun _ _ _ _ _ _ us hl => match us, hl with | [_, _], _ => rfl), ok_weight F T.toTxt2 D_whole_tons⟩
  have H8 : ∃ f, kget eS ((8 : Nat) : Int) = some (.ref f) ∧ Held P w K mg base 9 f (shipSp CL CS 8) := by
    obtain ⟨f, fd, e, F⟩ := ES.e8
    exact ⟨f, e, fd, _, F.kp, F.binds (ps := ["ship", "numbers"]) (fun _ _ _ _ _ _ us hl => match us, hl with | [_, _], _ => rfl), ok_after F T.toTxt2 D_load_from_empty D_may_carry⟩
  have H9 : ∃ f, kget eS ((9 : Nat) : Int) = some (.ref f) ∧ Held P w K mg base 9 f (shipSp CL CS 9) := by
    obtain ⟨f, fd, e, F⟩ := ES.e9
    exact ⟨f, e, fd, _, F.kp, F.binds (ps := ["ship", "numbers"]) (fun _ _ _ _ _ _ us hl => match us, hl with | [_, _], _ => rfl), ok_full F T.toTxt2 D_loads_from_empty⟩
  have H10 : ∃ f, kget eS ((10 : Nat) : Int) = some (.ref f) ∧ Held P w K mg base 9 f (shipSp CL CS 10) := by
    obtain ⟨f, fd, e, F⟩ := ES.e10
    exact ⟨f, e, fd, _, F.kp, F.binds (ps := ["ship", "numbers"]) (fun _ _ _ _ _ _ us hl => match us, hl with | [_, _], _ => rfl), ok_longest F T.toTxt2 D_allowed_loads⟩
  have H11 : ∃ f, kget eS ((11 : Nat) : Int) = some (.ref f) ∧ Held P w K mg base 9 f (shipSp CL CS 11) := by
    obtain ⟨f, fd, e, F⟩ := ES.e11
    exact ⟨f, e, fd, _, F.kp, F.binds (ps := ["ship", "numbers"]) (fun _ _ _ _ _ _ us hl => match us, hl with | [_, _], _ => rfl), ok_abest F T.toTxt2 D_outside D_best_load⟩
  have H12 : ∃ f, kget eS ((12 : Nat) : Int) = some (.ref f) ∧ Held P w K mg base 9 f (shipSp CL CS 12) := by
    obtain ⟨f, fd, e, F⟩ := ES.e12
    exact ⟨f, e, fd, _, F.kp, F.binds (ps := ["ship", "numbers"]) (fun _ _ _ _ _ _ us hl => match us, hl with | [_, _], _ => rfl), ok_rate F T.toTxt2 D_outside D_load_from_empty⟩
  have H13 : ∃ f, kget eS ((13 : Nat) : Int) = some (.ref f) ∧ Held P w K mg base 9 f (shipSp CL CS 13) := by
    obtain ⟨f, fd, e, F⟩ := ES.e13
    exact ⟨f, e, fd, _, F.kp, F.binds (ps := ["ship", "numbers"]) (fun _ _ _ _ _ _ us hl => match us, hl with | [_, _], _ => rfl), ok_trips F T.toTxt2 D_outside D_best_load⟩
  have H14 : ∃ f, kget eS ((14 : Nat) : Int) = some (.ref f) ∧ Held P w K mg base 9 f (shipSp CL CS 14) := by
    obtain ⟨f, fd, e, F⟩ := ES.e14
    exact ⟨f, e, fd, _, F.kp, F.binds (ps := ["ship", "numbers"]) (fun _ _ _ _ _ _ us hl => match us, hl with | [_, _], _ => rfl), ok_keeps F T.toTxt2 D_kept_hundredths⟩
  have H15 : ∃ f, kget eS ((15 : Nat) : Int) = some (.ref f) ∧ Held P w K mg base 9 f (shipSp CL CS 15) := by
    obtain ⟨f, fd, e, F⟩ := ES.e15
    exact ⟨f, e, fd, _, F.kp, F.binds (ps := ["ship", "numbers"]) (fun _ _ _ _ _ _ us hl => match us, hl with | [_, _], _ => rfl), ok_lost F T.toTxt2 D_outside D_load_from_empty⟩
  have H16 : ∃ f, kget eS ((16 : Nat) : Int) = some (.ref f) ∧ Held P w K mg base 9 f (shipSp CL CS 16) := by
    obtain ⟨f, fd, e, F⟩ := ES.e16
    exact ⟨f, e, fd, _, F.kp, F.binds (ps := ["ship", "numbers"]) (fun _ _ _ _ _ _ us hl => match us, hl with | [_, _], _ => rfl), ok_wet F T.toTxt2⟩
  have H17 : ∃ f, kget eS ((17 : Nat) : Int) = some (.ref f) ∧ Held P w K mg base 9 f (shipSp CL CS 17) := by
    obtain ⟨f, fd, e, F⟩ := ES.e17
    exact ⟨f, e, fd, _, F.kp, F.binds (ps := ["ship", "table"]) (fun _ _ _ _ _ _ us hl => match us, hl with | [_, _], _ => rfl), ok_draft F T.toTxt2 D_is_table D_whole_tons D_in_table D_depth_at⟩
  have H19 : ∃ f, kget eS ((19 : Nat) : Int) = some (.ref f) ∧ Held P w K mg base 9 f (shipSp CL CS 19) := by
    obtain ⟨f, fd, e, F⟩ := ES.e19
    exact ⟨f, e, fd, _, F.kp, F.binds (ps := ["ship", "numbers"]) (fun _ _ _ _ _ _ us hl => match us, hl with | [_, _], _ => rfl), ok_reaches F T.toTxt2 D_allowed_loads⟩
  have H20 : ∃ f, kget eS ((20 : Nat) : Int) = some (.ref f) ∧ Held P w K mg base 9 f (shipSp CL CS 20) := by
    obtain ⟨f, fd, e, F⟩ := ES.e20
    exact ⟨f, e, fd, _, F.kp, F.binds (ps := ["ship", "numbers"]) (fun _ _ _ _ _ _ us hl => match us, hl with | [_, _], _ => rfl), ok_look F T.toTxt2⟩
  have H0 : ∃ f, kget eF ((0 : Nat) : Int) = some (.ref f) ∧ Held P w K mg base 9 f (spFG CL CS CF (wholes.getD 0 0) (mN 0)) := by
    obtain ⟨f, fd, e, F⟩ := EF.e0
    exact ⟨f, e, fd, _, F.kp, F.binds (ps := ["fleet", "numbers"]) (fun _ _ _ _ _ _ us hl => match us, hl with | [_, _], _ => rfl), weak (ok_begin F T.toTxt4)⟩
  have H1 : ∃ f, kget eF ((1 : Nat) : Int) = some (.ref f) ∧ Held P w K mg base 9 f (spFG CL CS CF (wholes.getD 1 0) (mN 1)) := by
    obtain ⟨f, fd, e, F⟩ := EF.e1
    exact ⟨f, e, fd, _, F.kp, F.binds (ps := ["fleet", "numbers"]) (fun _ _ _ _ _ _ us hl => match us, hl with | [_, _], _ => rfl), weak (ok_ship F T.toTxt4 D_any_outside D_Ship)⟩
  have H18 : ∃ f, kget eF ((18 : Nat) : Int) = some (.ref f) ∧ Held P w K mg base 9 f (spFG CL CS CF (wholes.getD 18 0) (mN 18)) := by
    obtain ⟨f, fd, e, F⟩ := EF.e18
    exact ⟨f, e, fd, _, F.kp, F.binds (ps := ["fleet", "numbers"]) (fun _ _ _ _ _ _ us hl => match us, hl with | [_, _], _ => rfl), ok_fullest F T.toTxt4⟩
  have H21 : ∃ f, kget eF ((21 : Nat) : Int) = some (.ref f) ∧ Held P w K mg base 9 f (spFG CL CS CF (wholes.getD 21 0) (mN 21)) := by
    obtain ⟨f, fd, e, F⟩ := EF.e21
    exact ⟨f, e, fd, _, F.kp, F.binds (ps := ["fleet", "numbers"]) (fun _ _ _ _ _ _ us hl => match us, hl with | [_, _], _ => rfl), ok_sums F T.toTxt4⟩
  have H22 : ∃ f, kget eF ((22 : Nat) : Int) = some (.ref f) ∧ Held P w K mg base 9 f (spFG CL CS CF (wholes.getD 22 0) (mN 22)) := by
    obtain ⟨f, fd, e, F⟩ := EF.e22
    exact ⟨f, e, fd, _, F.kp, F.binds (ps := ["fleet", "numbers"]) (fun _ _ _ _ _ _ us hl => match us, hl with | [_, _], _ => rfl), ok_state F T.toTxt4⟩
  have TS : Tab P w K mg base CL CS ST eS := ⟨kS, fun k h hb => by
    match k, h, hb with
    | 2, _, _ => exact H2
    | 3, _, _ => exact H3
    | 4, _, _ => exact H4
    | 5, _, _ => exact H5
    | 6, _, _ => exact H6
    | 7, _, _ => exact H7
    | 8, _, _ => exact H8
    | 9, _, _ => exact H9
    | 10, _, _ => exact H10
    | 11, _, _ => exact H11
    | 12, _, _ => exact H12
    | 13, _, _ => exact H13
    | 14, _, _ => exact H14
    | 15, _, _ => exact H15
    | 16, _, _ => exact H16
    | 17, _, _ => exact H17
    | 19, _, _ => exact H19
    | 20, _, _ => exact H20
    | 0, _, hb | 1, _, hb | 18, _, hb | 21, _, hb | 22, _, hb => cases hb
    | n + 23, h, _ => exact absurd h (by omega)⟩
  have TF : TabF P w K mg base CL CS CF FT eF := by
    refine ⟨kF, fun k h hb => ?_, fun k h hb => ?_⟩
    · match k, h, hb with
      | 0, _, _ => exact H0
      | 1, _, _ => exact H1
      | 18, _, _ => exact H18
      | 21, _, _ => exact H21
      | 22, _, _ => exact H22
      | 2, _, hb | 3, _, hb | 4, _, hb | 5, _, hb | 6, _, hb | 7, _, hb | 8, _, hb | 9, _, hb | 10, _, hb | 11, _, hb | 12, _, hb | 13, _, hb | 14, _, hb | 15, _, hb | 16, _, hb | 17, _, hb | 19, _, hb | 20, _, hb => cases hb
      | n + 23, h, _ => exact absurd h (by omega)
    · have q := List.all_eq_true.mp EF.non k (List.mem_range.mpr h)
      rw [hb, Bool.false_or, Bool.not_eq_true', Option.isSome_eq_false_iff, Option.isNone_iff_eq_none] at q
      exact q
  have D_answer_with_ship : Def P w K mg base 10 "answer_with_ship" (spWith CL CS CF) := by
    obtain ⟨f, fd, m, F⟩ := A.d_answer_with_ship
    exact ⟨f, fd, _, m, F.kp, F.binds (ps := ["fleet", "number", "numbers"]) (fun _ _ _ _ _ _ us hl => match us, hl with | [_, _, _], _ => rfl), ok_with F T gST TS⟩
  have D_answer_call : Def P w K mg base 12 "answer_call" (spCall CL CS CF) := by
    obtain ⟨f, fd, m, F⟩ := A.d_answer_call
    exact ⟨f, fd, _, m, F.kp, F.binds (ps := ["fleet", "number", "numbers"]) (fun _ _ _ _ _ _ us hl => match us, hl with | [_, _, _], _ => rfl), ok_call F T gFT TF D_answer_with_ship⟩
  exact ok_answers F T D_Fleet D_Reader D_ended D_take_one D_read_numbers D_answer_call
end
end Hop

open PySem PySem.W PyProof.Rows
set_option maxRecDepth 100000 in
set_option maxHeartbeats 8000000 in
theorem PySem.Challenge.cw_hopperfill_s01_answers_holds : PySem.Challenge.rw_hopperfill_s01_answers.Holds := by
  w_on; k_headS; (case hw => exact ⟨[.list [.int 0]], by decide +kernel, by decide +kernel⟩)
  k_fillS
  refine L2.walk_specK (r := PySem.Challenge.rw_hopperfill_s01_answers) (k := 14) (CX := L2.CX0) (ps := ["calls"]) (sp := Hop.spAns) (by decide +kernel) rfl rfl ⟨rfl, by decide, by decide⟩ (fun w h Y => PySem.W.kIn_of Y) ?F ?S (fun _ _ _ _ z => z)
  case F =>
    intro w mg fa h Y KX G hmg
    obtain ⟨C_Load, e_Load, g_Load, c_Load, mk_Load, kc_Load⟩ := Hop.get_cls (x := "Load") KX G (by k_is) (by k_is) (by k_is) (by k_is) (by k_is) (by k_is) (by k_is)
    subst e_Load
    obtain ⟨C_Ship, e_Ship, g_Ship, c_Ship, mk_Ship, kc_Ship⟩ := Hop.get_cls (x := "Ship") KX G (by k_is) (by k_is) (by k_is) (by k_is) (by k_is) (by k_is) (by k_is)
    subst e_Ship
    obtain ⟨C_Fleet, e_Fleet, g_Fleet, c_Fleet, mk_Fleet, kc_Fleet⟩ := Hop.get_cls (x := "Fleet") KX G (by k_is) (by k_is) (by k_is) (by k_is) (by k_is) (by k_is) (by k_is)
    subst e_Fleet
    obtain ⟨C_Reader, e_Reader, g_Reader, c_Reader, mk_Reader, kc_Reader⟩ := Hop.get_cls (x := "Reader") KX G (by k_is) (by k_is) (by k_is) (by k_is) (by k_is) (by k_is) (by k_is)
    subst e_Reader
    obtain ⟨RG, e_RG, g_RG⟩ := Hop.get_ref (x := "SHIP_RANGES") KX G (by k_is)
    subst e_RG
    obtain ⟨WN, e_WN, g_WN⟩ := Hop.get_ref (x := "WHOLE_NUMBERS") KX G (by k_is)
    subst e_WN
    obtain ⟨ST, e_ST, g_ST⟩ := Hop.get_ref (x := "SHIP_CALLS") KX G (by k_is)
    subst e_ST
    obtain ⟨FT, e_FT, g_FT⟩ := Hop.get_ref (x := "FLEET_CALLS") KX G (by k_is)
    subst e_FT
    have T1 : Hop.Cls2 _ _ _ := ⟨c_Load, c_Ship, Hop.get_no (by k_is), Hop.get_no (by k_is), Hop.get_no (by k_is), Hop.get_no (by k_is), Hop.get_no (by k_is), Hop.get_no (by k_is), Hop.get_no (by k_is), Hop.get_no (by k_is), Hop.get_no (by k_is), Hop.get_no (by k_is), Hop.get_no (by k_is), Hop.get_no (by k_is), Hop.get_no (by k_is), Hop.get_no (by k_is)⟩
    have T2 : Hop.Txt _ mg _ _ := { toCls2 := T1, g_Load := g_Load, g_Ship := g_Ship, c_HUNDREDTHS := Hop.get_int KX G (by k_is), c_SAND_WEIGHS := Hop.get_int KX G (by k_is), c_WATER_WEIGHS := Hop.get_int KX G (by k_is), c_MOST_MINUTES := Hop.get_int KX G (by k_is), b_max := Hop.get_none KX G (by k_is), b_min := Hop.get_none KX G (by k_is), b_range := Hop.get_none KX G (by k_is) }
    have T3 : Hop.Txt2 _ mg _ _ := { toTxt := T2, c_NO_SUCH_SHIP := Hop.get_int KX G (by k_is), c_NONE_THERE := Hop.get_int KX G (by k_is), c_NOT_BEGUN := Hop.get_int KX G (by k_is), c_TOO_LITTLE := Hop.get_int KX G (by k_is), c_NOT_NOW := Hop.get_int KX G (by k_is), c_OUT_OF_RANGE := Hop.get_int KX G (by k_is), c_TOO_MANY := Hop.get_int KX G (by k_is), c_NEVER := Hop.get_int KX G (by k_is), c_TOO_HEAVY := Hop.get_int KX G (by k_is), c_MOST_SHIPS := Hop.get_int KX G (by k_is), c_MOST_POURED := Hop.get_int KX G (by k_is), c_MOST_REST := Hop.get_int KX G (by k_is), c_MOST_DAY := Hop.get_int KX G (by k_is), c_MOST_REACHED := Hop.get_int KX G (by k_is), c_MINUTES_OF_HOUR := Hop.get_int KX G (by k_is), c_LEAST_PAIRS := Hop.get_int KX G (by k_is), c_MOST_PAIRS := Hop.get_int KX G (by k_is), c_MOST_IN_TABLE := Hop.get_int KX G (by k_is), c_BEGIN := Hop.get_int KX G (by k_is), b_len := Hop.get_none KX G (by k_is), b_all := Hop.get_none KX G (by k_is), b_any := Hop.get_none KX G (by k_is), b_zip := Hop.get_none KX G (by k_is), b_sum := Hop.get_none KX G (by k_is), b_enumerate := Hop.get_none KX G (by k_is) }
    have T4 : Hop.Txt3 _ mg _ _ _ := { toTxt2 := T3, c_SHIP_RANGES := g_RG, rgs := Hop.get_ranges (by k_is) (by decide) (by k_is) (by k_is) (by k_is) (by k_is) (by k_is) (by k_is) }
    have T5 : Hop.Txt4 _ mg _ _ _ _ := { toTxt3 := T4, cf := c_Fleet, fl1 := Hop.get_no (by k_is), fl2 := Hop.get_no (by k_is), g_Fleet := g_Fleet }
    have T6 : Hop.Txt5 _ mg _ _ _ _ _ := { toTxt4 := T5, cr := c_Reader, r1 := Hop.get_no (by k_is), r2 := Hop.get_no (by k_is), g_Reader := g_Reader }
    have T7 : Hop.Txt6 _ mg _ _ _ _ _ _ := { toTxt5 := T6, c_WHOLE_NUMBERS := g_WN, c_DRAFT := Hop.get_int KX G (by k_is), wn := Hop.get_tup (by k_is) (by decide) (by repeat (first | exact .nil | refine .cons ⟨_, rfl⟩ ?_)), kr := by decide }
    have A : Hop.Facts _ mg _ _ _ _ := {
      d_empty_load := Hop.get_fun KX G (by k_is) (by k_is) (by k_is) (by k_is)
      d_hundredths_of_tons := Hop.get_fun KX G (by k_is) (by k_is) (by k_is) (by k_is)
      d_whole_tons := Hop.get_fun KX G (by k_is) (by k_is) (by k_is) (by k_is)
      d_may_carry := Hop.get_fun KX G (by k_is) (by k_is) (by k_is) (by k_is)
      d_kept_hundredths := Hop.get_fun KX G (by k_is) (by k_is) (by k_is) (by k_is)
      d_behind_overflow := Hop.get_fun KX G (by k_is) (by k_is) (by k_is) (by k_is)
      d_behind_minute := Hop.get_fun KX G (by k_is) (by k_is) (by k_is) (by k_is)
      d_poured := Hop.get_fun KX G (by k_is) (by k_is) (by k_is) (by k_is)
      d_loads_on := Hop.get_fun KX G (by k_is) (by k_is) (by k_is) (by k_is)
      d_loads_from_empty := Hop.get_fun KX G (by k_is) (by k_is) (by k_is) (by k_is)
      d_load_from_empty := Hop.get_fun KX G (by k_is) (by k_is) (by k_is) (by k_is)
      d_allowed_loads := Hop.get_fun KX G (by k_is) (by k_is) (by k_is) (by k_is)
      d_best_load := Hop.get_fun KX G (by k_is) (by k_is) (by k_is) (by k_is)
      d_goes_up := Hop.get_fun KX G (by k_is) (by k_is) (by k_is) (by k_is)
      d_is_table := Hop.get_fun KX G (by k_is) (by k_is) (by k_is) (by k_is)
      d_in_table := Hop.get_fun KX G (by k_is) (by k_is) (by k_is) (by k_is)
      d_depth_at := Hop.get_fun KX G (by k_is) (by k_is) (by k_is) (by k_is)
      d_outside := Hop.get_fun KX G (by k_is) (by k_is) (by k_is) (by k_is)
      d_any_outside := Hop.get_fun KX G (by k_is) (by k_is) (by k_is) (by k_is)
      d_read_numbers := Hop.get_fun KX G (by k_is) (by k_is) (by k_is) (by k_is)
      d_answer_with_ship := Hop.get_fun KX G (by k_is) (by k_is) (by k_is) (by k_is)
      d_answer_call := Hop.get_fun KX G (by k_is) (by k_is) (by k_is) (by k_is)
      m_Reader_ended := Hop.get_meth (by k_is) (by k_is) (by k_is) (by k_is) (by k_is)
      m_Reader_take_one := Hop.get_meth (by k_is) (by k_is) (by k_is) (by k_is) (by k_is)
      m_Reader_take := Hop.get_meth (by k_is) (by k_is) (by k_is) (by k_is) (by k_is)
      i_Load := Hop.get_meth (by k_is) (by k_is) (by k_is) (by k_is) (by k_is)
      k_Load := ⟨mk_Load, kc_Load⟩
      i_Ship := Hop.get_meth (by k_is) (by k_is) (by k_is) (by k_is) (by k_is)
      k_Ship := ⟨mk_Ship, kc_Ship⟩
      i_Fleet := Hop.get_meth (by k_is) (by k_is) (by k_is) (by k_is) (by k_is)
      k_Fleet := ⟨mk_Fleet, kc_Fleet⟩
      i_Reader := Hop.get_meth (by k_is) (by k_is) (by k_is) (by k_is) (by k_is)
      k_Reader := ⟨mk_Reader, kc_Reader⟩
    }
    obtain ⟨eS, kS, ES⟩ := Hop.get_entS KX g_ST (by k_is) (by decide +kernel) (by decide) (by rfl) (Hop.get_fn (by k_is) (by k_is) (by k_is)) (by rfl) (Hop.get_fn (by k_is) (by k_is) (by k_is)) (by rfl) (Hop.get_fn (by k_is) (by k_is) (by k_is)) (by rfl) (Hop.get_fn (by k_is) (by k_is) (by k_is)) (by rfl) (Hop.get_fn (by k_is) (by k_is) (by k_is)) (by rfl) (Hop.get_fn (by k_is) (by k_is) (by k_is)) (by rfl) (Hop.get_fn (by k_is) (by k_is) (by k_is)) (by rfl) (Hop.get_fn (by k_is) (by k_is) (by k_is)) (by rfl) (Hop.get_fn (by k_is) (by k_is) (by k_is)) (by rfl) (Hop.get_fn (by k_is) (by k_is) (by k_is)) (by rfl) (Hop.get_fn (by k_is) (by k_is) (by k_is)) (by rfl) (Hop.get_fn (by k_is) (by k_is) (by k_is)) (by rfl) (Hop.get_fn (by k_is) (by k_is) (by k_is)) (by rfl) (Hop.get_fn (by k_is) (by k_is) (by k_is)) (by rfl) (Hop.get_fn (by k_is) (by k_is) (by k_is)) (by rfl) (Hop.get_fn (by k_is) (by k_is) (by k_is)) (by rfl) (Hop.get_fn (by k_is) (by k_is) (by k_is)) (by rfl) (Hop.get_fn (by k_is) (by k_is) (by k_is))
    obtain ⟨eF, kF, EF⟩ := Hop.get_entF KX g_FT (by k_is) (by decide +kernel) (by decide) (by decide +kernel) (by rfl) (Hop.get_fn (by k_is) (by k_is) (by k_is)) (by rfl) (Hop.get_fn (by k_is) (by k_is) (by k_is)) (by rfl) (Hop.get_fn (by k_is) (by k_is) (by k_is)) (by rfl) (Hop.get_fn (by k_is) (by k_is) (by k_is)) (by rfl) (Hop.get_fn (by k_is) (by k_is) (by k_is))
    obtain ⟨f1, fd1, m1, F1⟩ := Hop.get_fun (x := "answers") (st := Hop.s_answers) KX G (by k_is) (by k_is) (by k_is) (by k_is)
    obtain rfl : fa = f1 := by
      have e := hmg.symm.trans m1
      cases e
      rfl
    exact ⟨fd1, Hop.bindsTo F1 (fun _ _ _ _ _ _ us hl => match us, hl with | [_], _ => rfl), fun base _ _ => Hop.all_ok T7 A g_ST kS ES g_FT kF EF F1 base⟩
  case S =>
    intro K H xs a hO hwi hask hx
    cases hx with
    | cons h1 h2 =>
      cases h2
      cases h1 with
      | lst hs ha =>
        have e := L2.ints_dw a.1 _ ha
        subst e
        have q : ((Codec.inLen 0 30000 a.1 && a.1.all (Codec.inInt 0 4294967295)) && true) = true := hwi
        rw [Bool.and_eq_true, Bool.and_eq_true] at q
        refine ⟨_, a.1, rfl, Hop.Fz.of hs hO, hask, fun z hz => ?_, (Codec.inNat_iff.mp q.1.1).2, fun H' p hp => .lst (L2.SqL.of hp) (L2.dw_ints _)⟩
        exact (Codec.inInt_iff.mp (List.all_eq_true.mp q.1.2 z hz)).1


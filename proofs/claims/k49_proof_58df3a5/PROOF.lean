import PyProof.Rows.All
import Wide.All
import OpenK.AllK
import Wide.FinOn
import HandS.ForMost
import KE.KDictKeyed
import KE.KeyNested
import HandS.Strs
import PyProof.LayNew
import HandS.Lambda
import HandS.IsInst
import HandS.TupMul
import HandS.Zip
import HandS.Style
import HandS.TupAny
import HandS.Defaults
import KE.KDictDisplayH
import KE.GoesDict
import HandS.Iter
import HandS.TupLen
import KE.KDictCopyH
import KE.KDictSum
import KE.SortData
import HandS.DictComp
import HandS.SetBool
import KE.GoesEnum
import HandS.Conv
import HandS.ForExc
import HandS.ExcCtx
import HandS.HotCalls
import HandS.Gcd
import HandS.HeadHook4
import HandS.HeadEnd
import HandS.ExcIs
import KE.KDictPairs
import HandS.SortKw
import KE.SortKeyHeap
import KE.GoesMore
import KE.GoesZip
import HandS.Head0
import HandS.Head1
import HandS.Head2
import HandS.Head3
import Wide.Once
import KE.KStateDown
import HandS.HeadWalk
import KE.KNestM
import PySem.Challenge.RW_memoryviews_k49_refused
/-! EvC: a small evaluator: values, a heap by numbers, expressions and statements as functions. No Python model here. -/
set_option linter.all false
set_option Elab.async false
namespace Ev
/-- values: numbers, texts (their codes), tuples as trees; lists, dicts and instances by their number -/
inductive D where
  | no | non | bl (b : Bool) | int (i : Int) | str (s : List Nat) | ref (n : Nat) | tup (l : List D) | kd (n : Nat) | ty (k : Nat) | cls (c : Nat) | fn
inductive O where
  | lst (l : List D)
  | fl (l : List D)
  | dct (lock : Bool) (l : List (D × D))
  | ins (c : Nat) (fs : List D)
  | iset (l : List Int)
  | sd (l : List (List Nat × D))
  | ik (l : List Int)
/-- a tree of objects by number -/
inductive T where
  | e
  | n (o : Option O) (l r : T)
namespace T
/-- by the bare recursors: cheap for the kernel; k: the depth -/
def getR : Nat → T → Nat → Option O := @Nat.rec (fun _ => T → Nat → Option O) (fun _ _ => none)
  (fun _ ih t i => @T.casesOn (fun _ => Option O) t none (fun o l r => @Nat.casesOn (fun _ => Option O) i o (fun p => @Bool.casesOn (fun _ => Option O) (Nat.beq (Nat.mod p 2) 0) (ih r (Nat.div p 2)) (ih l (Nat.div p 2)))))
def get (t : T) (i : Nat) : Option O := getR 40 t i
def put : Nat → T → Nat → O → T := @Nat.rec (fun _ => T → Nat → O → T) (fun t _ _ => t)
  (fun _ ih t i o => @T.casesOn (fun _ => T) t
    (@Nat.casesOn (fun _ => T) i (.n (some o) .e .e) (fun p => @Bool.casesOn (fun _ => T) (Nat.beq (Nat.mod p 2) 0) (.n none .e (ih .e (Nat.div p 2) o)) (.n none (ih .e (Nat.div p 2) o) .e)))
    (fun v l r => @Nat.casesOn (fun _ => T) i (.n (some o) l r) (fun p => @Bool.casesOn (fun _ => T) (Nat.beq (Nat.mod p 2) 0) (.n v l (ih r (Nat.div p 2) o)) (.n v (ih l (Nat.div p 2) o) r))))
theorem getR_e (k i : Nat) : getR k .e i = none := by cases k <;> rfl
theorem beq_t {p : Nat} (h : p % 2 = 0) : Nat.beq (Nat.mod p 2) 0 = true := Nat.beq_eq.mpr h
theorem beq_f {p : Nat} (h : p % 2 ≠ 0) : Nat.beq (Nat.mod p 2) 0 = false := by
  cases q : Nat.beq (Nat.mod p 2) 0 with
  | false => rfl
  | true => exact absurd (Nat.beq_eq.mp q) h
theorem getR_t (k : Nat) (o : Option O) (l r : T) {p : Nat} (h : p % 2 = 0) : getR (k + 1) (.n o l r) (p + 1) = getR k l (p / 2) := by
  show @Bool.casesOn (fun _ => Option O) (Nat.beq (Nat.mod p 2) 0) (getR k r (p / 2)) (getR k l (p / 2)) = _
  rw [beq_t h]
theorem getR_f (k : Nat) (o : Option O) (l r : T) {p : Nat} (h : p % 2 ≠ 0) : getR (k + 1) (.n o l r) (p + 1) = getR k r (p / 2) := by
  show @Bool.casesOn (fun _ => Option O) (Nat.beq (Nat.mod p 2) 0) (getR k r (p / 2)) (getR k l (p / 2)) = _
  rw [beq_f h]
theorem put_e (k : Nat) (i : Nat) (o : O) : put (k + 1) .e i o = put (k + 1) (.n none .e .e) i o := by cases i <;> rfl
theorem put_t (k : Nat) (v : Option O) (l r : T) {p : Nat} (o : O) (h : p % 2 = 0) : put (k + 1) (.n v l r) (p + 1) o = .n v (put k l (p / 2) o) r := by
  show @Bool.casesOn (fun _ => T) (Nat.beq (Nat.mod p 2) 0) (T.n v l (put k r (p / 2) o)) (T.n v (put k l (p / 2) o) r) = _
  rw [beq_t h]
theorem put_f (k : Nat) (v : Option O) (l r : T) {p : Nat} (o : O) (h : p % 2 ≠ 0) : put (k + 1) (.n v l r) (p + 1) o = .n v l (put k r (p / 2) o) := by
  show @Bool.casesOn (fun _ => T) (Nat.beq (Nat.mod p 2) 0) (T.n v l (put k r (p / 2) o)) (T.n v (put k l (p / 2) o) r) = _
  rw [beq_f h]
theorem get_putR : ∀ (k : Nat) (t : T) (i : Nat) (o : O), i + 1 < 2 ^ k → ∀ j, getR k (put k t i o) j = if j = i then some o else getR k t j
  | 0, t, i, o, h, j => by simp at h
  | k + 1, .e, i, o, h, j => by
    rw [put_e, get_putN k none .e .e i o h j, getR_e]
    by_cases hj : j = i
    · rw [if_pos hj, if_pos hj]
    · rw [if_neg hj, if_neg hj]
      cases j with
      | zero => rfl
      | succ q =>
        by_cases hq : q % 2 = 0
        · rw [getR_t k _ _ _ hq, getR_e]
        · rw [getR_f k _ _ _ hq, getR_e]
  | k + 1, .n v l r, i, o, h, j => get_putN k v l r i o h j
where
  get_putN (k : Nat) (v : Option O) (l r : T) (i : Nat) (o : O) (h : i + 1 < 2 ^ (k + 1)) (j : Nat) : getR (k + 1) (put (k + 1) (.n v l r) i o) j = if j = i then some o else getR (k + 1) (.n v l r) j := by
    have hk : 2 ^ (k + 1) = 2 * 2 ^ k := by rw [Nat.pow_succ, Nat.mul_comm]
    cases i with
    | zero =>
      show getR (k + 1) (.n (some o) l r) j = _
      cases j with
      | zero => rfl
      | succ q =>
        rw [if_neg (Nat.succ_ne_zero q)]
        by_cases hq : q % 2 = 0
        · rw [getR_t k _ _ _ hq, getR_t k _ _ _ hq]
        · rw [getR_f k _ _ _ hq, getR_f k _ _ _ hq]
    | succ p =>
      by_cases hp : p % 2 = 0
      · rw [put_t k v l r o hp]
        cases j with
        | zero => rw [if_neg (by omega)]; rfl
        | succ q =>
          by_cases hq : q % 2 = 0
          · rw [getR_t k _ _ _ hq, getR_t k _ _ _ hq, get_putR k l (p / 2) o (by omega) (q / 2)]
            by_cases e : q = p
            · subst e; rw [if_pos rfl, if_pos rfl]
            · rw [if_neg (by omega), if_neg (by omega)]
          · rw [getR_f k _ _ _ hq, getR_f k _ _ _ hq, if_neg (by omega)]
      · rw [put_f k v l r o hp]
        cases j with
        | zero => rw [if_neg (by omega)]; rfl
        | succ q =>
          by_cases hq : q % 2 = 0
          · rw [getR_t k _ _ _ hq, getR_t k _ _ _ hq, if_neg (by omega)]
          · rw [getR_f k _ _ _ hq, getR_f k _ _ _ hq, get_putR k r (p / 2) o (by omega) (q / 2)]
            by_cases e : q = p
            · subst e; rw [if_pos rfl, if_pos rfl]
            · rw [if_neg (by omega), if_neg (by omega)]
theorem get_put (t : T) (i : Nat) (o : O) (h : i + 1 < 2 ^ 40) (j : Nat) : (put 40 t i o).get j = if j = i then some o else t.get j := get_putR 40 t i o h j
end T
/-- the world: how many objects, and these -/
inductive W where
  | mk (n : Nat) (t : T)
def W.n : W → Nat | .mk n _ => n
def W.t : W → T | .mk _ t => t
def W.get (w : W) (i : Nat) : Option O := w.t.get i
def W.set (w : W) (i : Nat) (o : O) : W := .mk w.n (w.t.put 40 i o)
def wl (w : W) (i : Nat) : Option (List D) := match w.get i with
  | some (.lst l) => some l
  | some (.fl l) => some l
  | _ => none
/-- what an expression comes to; ex: an exception of the class c with p -/
inductive R where
  | ok (d : D) (w : W)
  | ex (c : Nat) (p : D) (w : W)
  | bad
inductive RA where
  | ok (ds : List D) (w : W)
  | ex (c : Nat) (p : D) (w : W)
  | bad
abbrev S := List D
inductive RS where
  | nx (s : S) (w : W)
  | rt (d : D) (w : W)
  | bk (s : S) (w : W)
  | ct (s : S) (w : W)
  | ex (c : Nat) (p : D) (w : W)
  | bad
abbrev M := S → W → R
abbrev MA := S → W → RA
abbrev MS := S → W → RS
abbrev F1 := D → W → R
abbrev F2 := D → D → W → R
abbrev FN := List D → W → R
def R.bind (r : R) (k : D → W → R) : R := match r with
  | .ok d w => k d w
  | .ex c p w => .ex c p w
  | .bad => .bad
def alloc (o : O) (w : W) : R := bif Nat.blt w.n 1000000000 then .ok (.ref w.n) (.mk (Nat.succ w.n) (w.t.put 40 w.n o)) else .bad
/-- nth s i, sset s i d by the bare recursors: cheap for the kernel -/
def nthR : Nat → S → D := @Nat.rec (fun _ => S → D) (fun s => @List.casesOn D (fun _ => D) s .no (fun d _ => d)) (fun _ ih s => @List.casesOn D (fun _ => D) s .no (fun _ r => ih r))
def nth (s : S) (i : Nat) : D := nthR i s
def ssetR : Nat → S → D → S := @Nat.rec (fun _ => S → D → S) (fun s d => @List.casesOn D (fun _ => S) s [] (fun _ r => d :: r)) (fun _ ih s d => @List.casesOn D (fun _ => S) s [] (fun x r => x :: ih r d))
def sset (s : S) (i : Nat) (d : D) : S := ssetR i s d
theorem nth_nil : ∀ i, nth [] i = .no
  | 0 => rfl
  | _ + 1 => rfl
theorem sset_nil : ∀ i d, sset [] i d = []
  | 0, _ => rfl
  | _ + 1, _ => rfl
/-! ### expressions -/
def mVar (i : Nat) : M := fun s w => match nth s i with
  | .no => .bad
  | .fn => .bad
  | d => .ok d w
def mC (d : D) : M := fun _ w => .ok d w
def mUn (f : F1) (a : M) : M := fun s w => (a s w).bind f
def mBin (f : F2) (a b : M) : M := fun s w => match a s w with
  | .ok x w1 => (match b s w1 with
    | .ok y w2 => f x y w2
    | .ex c p w => .ex c p w
    | .bad => .bad)
  | .ex c p w => .ex c p w
  | .bad => .bad
def aNil : MA := fun _ w => .ok [] w
def aCons (a : M) (r : MA) : MA := fun s w => match a s w with
  | .ok x w1 => (match r s w1 with
    | .ok xs w2 => .ok (x :: xs) w2
    | .ex c p w => .ex c p w
    | .bad => .bad)
  | .ex c p w => .ex c p w
  | .bad => .bad
def mN (f : FN) (a : MA) : M := fun s w => match a s w with
  | .ok xs w1 => f xs w1
  | .ex c p w => .ex c p w
  | .bad => .bad
def fTup : FN := fun ds w => bif Nat.ble ds.length 100000 then .ok (.tup ds) w else .bad
def fLst : FN := fun ds w => bif Nat.ble ds.length 100000 then alloc (.lst ds) w else .bad
def mAnd (a b : M) : M := fun s w => match a s w with
  | .ok (.bl true) w1 => b s w1
  | .ok (.bl false) w1 => .ok (.bl false) w1
  | .ex c p w => .ex c p w
  | _ => .bad
def mOr (a b : M) : M := fun s w => match a s w with
  | .ok (.bl false) w1 => b s w1
  | .ok (.bl true) w1 => .ok (.bl true) w1
  | .ex c p w => .ex c p w
  | _ => .bad
def mIf (c a b : M) : M := fun s w => match c s w with
  | .ok (.bl true) w1 => a s w1
  | .ok (.bl false) w1 => b s w1
  | .ex c p w => .ex c p w
  | _ => .bad
def fNot : F1 := fun x w => match x with
  | .bl b => .ok (.bl (bif b then false else true)) w
  | _ => .bad
/-! ### statements -/
def sNil : MS := fun s w => .nx s w
def sSeq (a b : MS) : MS := fun s w => match a s w with
  | .nx s1 w1 => b s1 w1
  | r => r
def sDrop (a : M) : MS := fun s w => match a s w with
  | .ok _ w1 => .nx s w1
  | .ex c p w => .ex c p w
  | .bad => .bad
def sRet (a : M) : MS := fun s w => match a s w with
  | .ok d w1 => .rt d w1
  | .ex c p w => .ex c p w
  | .bad => .bad
def sRetN : MS := fun _ w => .rt .non w
def sIf (c : M) (a b : MS) : MS := fun s w => match c s w with
  | .ok (.bl true) w1 => a s w1
  | .ok (.bl false) w1 => b s w1
  | .ex c p w => .ex c p w
  | _ => .bad
def sBad : MS := fun _ _ => .bad
/-- targets -/
inductive RG where
  | ok (s : S) (w : W)
  | bad
abbrev G := D → S → W → RG
def gName (i : Nat) : G := fun d s w => .ok (sset s i d) w
abbrev GN := List D → S → W → RG
def gsNil : GN := fun ds s w => match ds with
  | [] => .ok s w
  | _ :: _ => .bad
def gsCons (g : G) (r : GN) : GN := fun ds s w => match ds with
  | [] => .bad
  | d :: ds => (match g d s w with
    | .ok s1 w1 => r ds s1 w1
    | .bad => .bad)
def gTup (n : Nat) (r : GN) : G := fun d s w => match d with
  | .tup ds => bif Nat.beq ds.length n then r ds s w else .bad
  | _ => .bad
def sAsg (a : M) (g : G) : MS := fun s w => match a s w with
  | .ok d w1 => (match g d s w1 with
    | .ok s2 w2 => .nx s2 w2
    | .bad => .bad)
  | .ex c p w => .ex c p w
  | .bad => .bad
/-- what is walked -/
inductive I where
  | lst (r : Nat)
  | tup (l : List D)
  | rng (lo : Int) (n : Nat)
  | zip (a b : I)
  | enum (k : Int) (a : I)
  | dks (r : Nat) (own : Bool) (l : List (D × D))
  | zlt (r : Nat) (l : List D)
inductive IR where
  | it (d : D)
  | stop
  | bad
def lat : List D → Nat → IR
  | [], _ => .stop
  | d :: _, 0 => .it d
  | _ :: r, i + 1 => lat r i
def latK : List (D × D) → Nat → IR
  | [], _ => .stop
  | p :: _, 0 => .it p.1
  | _ :: r, i + 1 => latK r i
def I.at (w : W) : I → Nat → IR
  | .lst r, i => (match wl w r with
    | some l => lat l i
    | none => .bad)
  | .zlt r l, i => (match wl w r with
    | some xs => bif Nat.ble i xs.length then bif Nat.ble i l.length then (match lat xs i, lat l i with
      | .it x, .it y => .it (.tup [x, y])
      | .it _, .stop => .stop
      | .stop, .it _ => .stop
      | .stop, .stop => .stop
      | _, _ => .bad) else .bad else .bad
    | none => .bad)
  | .tup l, i => lat l i
  | .rng lo n, i => bif Nat.blt i n then .it (.int (Int.add lo (Int.ofNat i))) else .stop
  | .zip a b, i => (match a.at w i, b.at w i with
    | .it x, .it y => .it (.tup [x, y])
    | .it _, .stop => .stop
    | .stop, .it _ => .stop
    | .stop, .stop => .stop
    | _, _ => .bad)
  | .enum k a, i => (match a.at w i with
    | .it x => .it (.tup [.int (Int.add k (Int.ofNat i)), x])
    | .stop => .stop
    | .bad => .bad)
  | .dks r _ l, i => (match w.get r with
    | some (.dct true _) => latK l i
    | _ => .bad)
/-- behind a loop: a dict that it walked may be written again -/
def I.done (w : W) : I → W
  | .dks r true l => w.set r (.dct false l)
  | _ => w
inductive RI where
  | ok (i : I) (w : W)
  | ex (c : Nat) (p : D) (w : W)
  | bad
abbrev MI := S → W → RI
/-- plain targets -/
abbrev GP := D → S → Option S
def gpName (i : Nat) : GP := fun d s => some (sset s i d)
abbrev GPN := List D → S → Option S
def gpsNil : GPN := fun ds s => match ds with
  | [] => some s
  | _ :: _ => none
def gpsCons (g : GP) (r : GPN) : GPN := fun ds s => match ds with
  | [] => none
  | d :: ds => (match g d s with
    | some s1 => r ds s1
    | none => none)
def gpTup (n : Nat) (r : GPN) : GP := fun d s => match d with
  | .tup ds => bif Nat.beq ds.length n then r ds s else none
  | _ => none
def gLift (g : GP) : G := fun d s w => match g d s with
  | some s1 => .ok s1 w
  | none => .bad
/-- a for loop, from the turn i -/
def forFrom (it : I) (g : GP) (body : MS) : Nat → Nat → S → W → RS
  | 0, _, _, _ => .bad
  | k + 1, i, s, w => match it.at w i with
    | .it d => (match g d s with
      | some s1 => (match body s1 w with
        | .nx s2 w2 => forFrom it g body k (Nat.succ i) s2 w2
        | .ct s2 w2 => forFrom it g body k (Nat.succ i) s2 w2
        | .bk s2 w2 => .nx s2 (it.done w2)
        | r => r)
      | none => .bad)
    | .stop => .nx s (it.done w)
    | .bad => .bad
def sFor (mi : MI) (g : GP) (body : MS) : MS := fun s w => match mi s w with
  | .ok it w1 => forFrom it g body 1000000 0 s w1
  | .ex c p w => .ex c p w
  | .bad => .bad
/-- a comprehension's block: its own slots are forgotten first; acc is what was made so far, the last ahead -/
def wipeD : S → List Nat → S
  | s, [] => s
  | s, v :: vs => sset (wipeD s vs) v .no
inductive RC where
  | ok (acc : List D) (w : W)
  | bad
def lcFrom (it : I) (g : GP) (t : M) (e : M) (s0 : S) : Nat → Nat → List D → W → RC
  | 0, _, _, _ => .bad
  | k + 1, i, acc, w => match it.at w i with
    | .it d => (match g d s0 with
      | some s1 => (match t s1 w with
        | .ok (.bl true) w1 => (match e s1 w1 with
          | .ok y w2 => lcFrom it g t e s0 k (Nat.succ i) (y :: acc) w2
          | _ => .bad)
        | .ok (.bl false) w1 => lcFrom it g t e s0 k (Nat.succ i) acc w1
        | _ => .bad)
      | none => .bad)
    | .stop => .ok acc (it.done w)
    | .bad => .bad
/-- a walk that leaves the world as it was -/
def I.plain : I → Bool
  | .dks _ true _ => false
  | _ => true
def lc2From (it : I) (g : GP) (t : M) (mi1 : MI) (g1 : GP) (t1 e : M) (vs1 : List Nat) (s0 : S) : Nat → Nat → List D → W → RC
  | 0, _, _, _ => .bad
  | k + 1, i, acc, w => match it.at w i with
    | .it d => (match g d s0 with
      | some s1 => (match t s1 w with
        | .ok (.bl true) w1 => (match mi1 s1 w1 with
          | .ok it1 w2 => bif (bif it1.plain then Nat.ble acc.length 100000 else false) then (match lcFrom it1 g1 t1 e (wipeD s1 vs1) 10000 0 acc w2 with
            | .ok acc2 w3 => lc2From it g t mi1 g1 t1 e vs1 s0 k (Nat.succ i) acc2 w3
            | .bad => .bad) else .bad
          | _ => .bad)
        | .ok (.bl false) w1 => lc2From it g t mi1 g1 t1 e vs1 s0 k (Nat.succ i) acc w1
        | _ => .bad)
      | none => .bad)
    | .stop => .ok acc (it.done w)
    | .bad => .bad
/-- [e for g in it if t for g1 in it1 if t1] -/
def mLc2 (mi : MI) (g : GP) (t : M) (mi1 : MI) (g1 : GP) (t1 e : M) (vs vs1 : List Nat) : M := fun s w => match mi s w with
  | .ok it w1 => (match lc2From it g t mi1 g1 t1 e vs1 (wipeD s vs) 10000 0 [] w1 with
    | .ok acc w3 => alloc (.lst acc.reverse) w3
    | .bad => .bad)
  | .ex c p w => .ex c p w
  | .bad => .bad
def mYes : M := fun _ w => .ok (.bl true) w
/-- [e for g in it if t]; the new list is made first -/
def mLc (mi : MI) (g : GP) (t : M) (e : M) (vs : List Nat) : M := fun s w => match mi s w with
  | .ok it w1 => (match lcFrom it g t e (wipeD s vs) 100000 0 [] w1 with
    | .ok acc w3 => alloc (.lst acc.reverse) w3
    | .bad => .bad)
  | .ex c p w => .ex c p w
  | .bad => .bad
def whileFrom (c : M) (body : MS) : Nat → S → W → RS
  | 0, _, _ => .bad
  | k + 1, s, w => match c s w with
    | .ok (.bl true) w1 => (match body s w1 with
      | .nx s2 w2 => whileFrom c body k s2 w2
      | .ct s2 w2 => whileFrom c body k s2 w2
      | .bk s2 w2 => .nx s2 w2
      | r => r)
    | .ok (.bl false) w1 => .nx s w1
    | .ex c p w => .ex c p w
    | _ => .bad
def sWhile (c : M) (body : MS) : MS := whileFrom c body 1000000
/-- a def of n parameters: its body from the arguments, k more names -/
def fDef (n k : Nat) (body : MS) : FN := fun ds w => bif Nat.beq ds.length n then (match body (ds ++ List.replicate k .no) w with
  | .rt d w1 => .ok d w1
  | .nx _ w1 => .ok .non w1
  | .ex c p w => .ex c p w
  | _ => .bad) else .bad
/-- a call, dvs: the defaults behind the written arguments -/
def mCall (f : FN) (dvs : List D) (as : MA) : M := mN (fun ds w => f (ds ++ dvs) w) as
/-- C(..): a new instance, then __init__ -/
def mMake (c : Nat) (f : FN) (as : MA) : M := fun s w => match as s w with
  | .ok ds w1 => (match alloc (.ins c []) w1 with
    | .ok (.ref r) w2 => (match f (.ref r :: ds) w2 with
      | .ok .non w3 => .ok (.ref r) w3
      | .ex c p w => .ex c p w
      | _ => .bad)
    | _ => .bad)
  | .ex c p w => .ex c p w
  | .bad => .bad
/-- o.f = e, f the next field of the class c, or one that stands -/
def sFldSet (c j : Nat) (mo mv : M) : MS := fun s w => match mv s w with
  | .ok d w1 => (match mo s w1 with
    | .ok (.ref r) w2 => (match w2.get r with
      | some (.ins k fs) => bif Nat.beq k c then (bif Nat.beq j fs.length then .nx s (w2.set r (.ins c (fs ++ [d]))) else .bad) else .bad
      | _ => .bad)
    | .ex c p w => .ex c p w
    | _ => .bad)
  | .ex c p w => .ex c p w
  | .bad => .bad
/-- a comprehension that fills one object -/
inductive RAc (A : Type) where
  | ok (a : A) (w : W)
  | bad
def acFrom {A : Type} (it : I) (g : GP) (t : M) (step : S → A → W → RAc A) (s0 : S) : Nat → Nat → A → W → RAc A
  | 0, _, _, _ => .bad
  | k + 1, i, a, w => match it.at w i with
    | .it d => (match g d s0 with
      | some s1 => (match t s1 w with
        | .ok (.bl true) w1 => (match step s1 a w1 with
          | .ok a2 w2 => acFrom it g t step s0 k (Nat.succ i) a2 w2
          | .bad => .bad)
        | .ok (.bl false) w1 => acFrom it g t step s0 k (Nat.succ i) a w1
        | _ => .bad)
      | none => .bad)
    | .stop => .ok a (it.done w)
    | .bad => .bad
def mAcc {A : Type} (mi : MI) (g : GP) (t : M) (step : S → A → W → RAc A) (a0 : A) (fin : A → O) (vs : List Nat) : M := fun s w => match mi s w with
  | .ok it w1 => (match acFrom it g t step (wipeD s vs) 100000 0 a0 w1 with
    | .ok a w3 => alloc (fin a) w3
    | .bad => .bad)
  | .ex c p w => .ex c p w
  | .bad => .bad
end Ev

set_option Elab.async false
set_option linter.all false
set_option maxRecDepth 100000
set_option maxHeartbeats 4000000
/-! EvS: how the evaluator's values and heap stand for those of the model; the judgements. -/
namespace Ev
open PySem PySem.Spec PyProof.Rows L2
open LamX (CodeO TabS)

/-- what stays through a law: program, world, written part; where constant dicts and classes stand; the fields of a class -/
structure U where
  P : Program
  w : World
  K : PySem.W.Frag
  kd : Nat → Addr
  cl : Nat → Addr
  fld : Nat → List Str
  T : List (Addr × Str)
  fnA : Addr
  C : List (Addr × Str)
  cs : S
  cσ : L2.St

/-- the built-in types by number -/
def tyName : Nat → String
  | 0 => "int"
  | 1 => "bool"
  | 2 => "str"
  | 3 => "tuple"
  | 4 => "list"
  | 5 => "dict"
  | _ => "NoneType"
mutual
inductive RV (u : U) (rho : Nat → Addr) (n : Nat) (H : Hp) : D → V → Prop
  | non : RV u rho n H .non .non
  | bl (b : Bool) : RV u rho n H (.bl b) (.bl b)
  | int (i : Int) : RV u rho n H (.int i) (.int i)
  | str (x : Str) {s : List Nat} : x.cps.toList = s → RV u rho n H (.str s) (.str x)
  | ref (i : Nat) {a : Addr} : i < n → a = rho i → RV u rho n H (.ref i) (.ref a)
  | tup {l : List D} {a : Addr} {vs : List V} : SqT u.K H a vs → RVs u rho n H l vs → RV u rho n H (.tup l) (.ref a)
  | kd (k : Nat) {a : Addr} : a = u.kd k → RV u rho n H (.kd k) (.ref a)
  | ty (k : Nat) : RV u rho n H (.ty k) (.ty (tyName k))
  | cls (c : Nat) {a : Addr} : a = u.cl c → RV u rho n H (.cls c) (.ref a)
inductive RVs (u : U) (rho : Nat → Addr) (n : Nat) (H : Hp) : List D → List V → Prop
  | nil : RVs u rho n H [] []
  | cons {d : D} {v : V} {ds : List D} {vs : List V} : RV u rho n H d v → RVs u rho n H ds vs → RVs u rho n H (d :: ds) (v :: vs)
end

/-- tuples and code objects stay -/
structure Tups (H H' : Hp) : Prop where
  tup : ∀ a xs, Rd H a (.tup xs) → Rd H' a (.tup xs)
  code : ∀ c q, H c = some (CodeO c q) → H' c = some (CodeO c q)
theorem Tups.refl (H : Hp) : Tups H H := ⟨fun _ _ h => h, fun _ _ h => h⟩
theorem Tups.trans {H H1 H2 : Hp} (a : Tups H H1) (b : Tups H1 H2) : Tups H H2 := ⟨fun c xs h => b.tup c xs (a.tup c xs h), fun c q h => b.code c q (a.code c q h)⟩
theorem Tups.sqT {H H' : Hp} (t : Tups H H') {K : PySem.W.Frag} {a : Addr} {xs : List V} (h : SqT K H a xs) : SqT K H' a xs := h.elim (fun h => .inl (t.tup a xs h)) .inr
theorem Tups.of_same {H H' : Hp} (s : Same H H') : Tups H H' := ⟨fun a xs h => by
  rcases h with h | ⟨o, h⟩
  · exact .inl (s _ _ h)
  · exact .inr ⟨o, s _ _ h⟩, fun c q h => s _ _ h⟩
theorem Tups.new {H : Hp} {p : Addr} {o : HO} (hp : H p = none) : Tups H (upd H p o) := .of_same fun b x e => by rw [upd_ne (ne_of_none e hp)]; exact e
/-- an object that may be written: no tuple, nothing frozen, no table, no code -/
structure Wr (ho : HO) : Prop where
  tup : ∀ xs, ho ≠ .tup xs
  frz : ∀ ob u, ho ≠ .frz ob u
  own : ∀ a, ho ≠ .own a
  tbl : ∀ ps, ho ≠ .tbl ps
  code : ∀ c q, ho ≠ CodeO c q
theorem Tups.write {H : Hp} {p : Addr} {o o' : HO} (hp : H p = some o) (wr : Wr o) : Tups H (upd H p o') := ⟨fun a xs h => by
  have ne : a ≠ p := fun e => by
    subst e
    rcases h with h | ⟨ob, h⟩
    · rw [hp] at h; cases h; exact wr.tup _ rfl
    · rw [hp] at h; cases h; exact wr.frz _ _ rfl
  rcases h with h | ⟨ob, h⟩
  · exact .inl (by rw [upd_ne ne]; exact h)
  · exact .inr ⟨ob, by rw [upd_ne ne]; exact h⟩, fun c q h => by
  have ne : c ≠ p := fun e => by
    subst e
    rw [hp] at h
    exact wr.code _ _ (Option.some.inj h)
  rw [upd_ne ne]
  exact h⟩
theorem TabS.write {H : Hp} {p P : Addr} {o o' : HO} {q : Str} (hp : H p = some o) (wr : Wr o) (h : TabS H P q) : TabS (upd H p o') P q := by
  obtain ⟨ps, h1, h2, h3⟩ := h
  have ne : P ≠ p := fun e => by
    subst e
    rw [hp] at h1
    exact wr.tbl _ (Option.some.inj h1)
  refine ⟨ps, by rw [upd_ne ne]; exact h1, h2, fun pos cv hc => ?_⟩
  obtain ⟨c, e1, e2⟩ := h3 pos cv hc
  exact ⟨c, e1, (Tups.write hp wr).code _ _ e2⟩
theorem wr_lst (xs : List V) : Wr (.lst xs) := ⟨(fun _ z => by cases z), (fun _ _ z => by cases z), (fun _ z => by cases z), (fun _ z => by cases z), (fun _ _ z => by unfold CodeO at z; cases z)⟩
theorem wr_ins (C dx : Addr) (nvs : List (Str × V)) : Wr (.ins C dx nvs) := ⟨(fun _ z => by cases z), (fun _ _ z => by cases z), (fun _ z => by cases z), (fun _ z => by cases z), (fun _ _ z => by unfold CodeO at z; cases z)⟩
theorem wr_dK (kvs : List (Key × V)) : Wr (.dK kvs) := ⟨(fun _ z => by cases z), (fun _ _ z => by cases z), (fun _ z => by cases z), (fun _ z => by cases z), (fun _ _ z => by unfold CodeO at z; cases z)⟩
theorem push_fields {h : Heap} {xs : Array Value} (hall : ∀ b o, h.get? b = some o → ∃ vs, o.data = .fields vs) {b : Addr} {o : Obj} (e : (h.push { cls := .none, data := .fields xs }).get? b = some o) : ∃ vs, o.data = .fields vs := by
  rcases Heap.get?_push_cases e with ⟨_, rfl⟩ | e
  · exact ⟨_, rfl⟩
  · exact hall b o e
theorem heap_size (a : Nat) : ∃ h : Heap, h.objs.size = a ∧ ∀ b o, h.get? b = some o → ∃ vs, o.data = .fields vs := by
  induction a with
  | zero => exact ⟨{ objs := #[] }, rfl, fun b o e => by
      have := Heap.lt_size e
      simp at this⟩
  | succ a ih =>
    obtain ⟨h, e, hf⟩ := ih
    refine ⟨h.push { cls := .none, data := .fields #[] }, by rw [Heap.size_push, e], fun b o eb => ?_⟩
    exact push_fields hf eb
/-- a condition on the heap that no code object fulfils -/
theorem wr_ext {f : Heap → Prop} {a : Addr} (hf : ∀ h, f h → ∃ o, h.get? a = some o ∧ ∀ vs, o.data ≠ .fields vs) : Wr (.ext f) :=
  ⟨(fun _ z => by cases z), (fun _ _ z => by cases z), (fun _ z => by cases z), (fun _ z => by cases z), (fun c q z => by
    unfold CodeO at z
    obtain ⟨h, e, hall⟩ := heap_size c
    have z' := HO.ext.inj z
    have g : (h.push { cls := .none, data := .fields #[.none, .str q 0] }).get? c = some { cls := .none, data := .fields #[.none, .str q 0] } := by
      rw [← e]; exact Heap.get?_push_size _ rfl
    have : f (h.push { cls := .none, data := .fields #[.none, .str q 0] }) := by
      rw [z']
      exact ⟨_, #[.none, .str q 0], 0, g, rfl, rfl⟩
    obtain ⟨o, ho, hd⟩ := hf _ this
    obtain ⟨vs, ev⟩ := push_fields hall ho
    exact hd vs ev)⟩
section
variable {u : U} {rho rho' : Nat → Addr} {n n' : Nat} {H H' : Hp}
mutual
theorem RV.mono (hn : n ≤ n') (hr : ∀ i, i < n → rho' i = rho i) (ht : Tups H H') : ∀ {d : D} {v : V}, RV u rho n H d v → RV u rho' n' H' d v
  | _, _, .non => .non
  | _, _, .bl b => .bl b
  | _, _, .int i => .int i
  | _, _, .str x h => .str x h
  | _, _, .ref i h e => .ref i (Nat.lt_of_lt_of_le h hn) (e.trans (hr i h).symm)
  | _, _, .tup h r => .tup (ht.sqT h) (RVs.mono hn hr ht r)
  | _, _, .kd k e => .kd k e
  | _, _, .ty k => .ty k
  | _, _, .cls c e => .cls c e
theorem RVs.mono (hn : n ≤ n') (hr : ∀ i, i < n → rho' i = rho i) (ht : Tups H H') : ∀ {d : List D} {v : List V}, RVs u rho n H d v → RVs u rho' n' H' d v
  | _, _, .nil => .nil
  | _, _, .cons h r => .cons (RV.mono hn hr ht h) (RVs.mono hn hr ht r)
end
theorem RVs.length : ∀ {ds : List D} {vs : List V}, RVs u rho n H ds vs → ds.length = vs.length
  | _, _, .nil => rfl
  | _, _, .cons _ r => by rw [List.length_cons, List.length_cons, RVs.length r]
theorem RVs.get : ∀ {ds : List D} {vs : List V}, RVs u rho n H ds vs → ∀ {i : Nat} {d : D}, ds[i]? = some d → ∃ v, vs[i]? = some v ∧ RV u rho n H d v
  | _, _, .nil, _, _, h => by simp at h
  | _, _, .cons h r, 0, _, e => by simp at e; subst e; exact ⟨_, rfl, h⟩
  | _, _, .cons h r, i + 1, _, e => by
    obtain ⟨v, h1, h2⟩ := RVs.get r (i := i) (by simpa using e)
    exact ⟨v, by simpa using h1, h2⟩
theorem RVs.append : ∀ {ds es : List D} {vs ws : List V}, RVs u rho n H ds vs → RVs u rho n H es ws → RVs u rho n H (ds ++ es) (vs ++ ws)
  | _, _, _, _, .nil, h => h
  | _, _, _, _, .cons a r, h => .cons a (RVs.append r h)
theorem RVs.take : ∀ {ds : List D} {vs : List V} (k : Nat), RVs u rho n H ds vs → RVs u rho n H (ds.take k) (vs.take k)
  | _, _, 0, _ => .nil
  | _, _, _ + 1, .nil => .nil
  | _, _, k + 1, .cons a r => .cons a (RVs.take k r)
theorem RVs.drop : ∀ {ds : List D} {vs : List V} (k : Nat), RVs u rho n H ds vs → RVs u rho n H (ds.drop k) (vs.drop k)
  | _, _, 0, h => h
  | _, _, _ + 1, .nil => .nil
  | _, _, k + 1, .cons _ r => RVs.drop k r
theorem RVs.reverse : ∀ {ds : List D} {vs : List V}, RVs u rho n H ds vs → RVs u rho n H ds.reverse vs.reverse
  | _, _, .nil => .nil
  | _, _, .cons a r => by rw [List.reverse_cons, List.reverse_cons]; exact RVs.append (RVs.reverse r) (.cons a .nil)
theorem RVs.set : ∀ {ds : List D} {vs : List V} (i : Nat) {d : D} {v : V}, RV u rho n H d v → RVs u rho n H ds vs → RVs u rho n H (ds.set i d) (vs.set i v)
  | _, _, _, _, _, _, .nil => .nil
  | _, _, 0, _, _, h, .cons _ r => .cons h r
  | _, _, i + 1, _, _, h, .cons a r => .cons a (RVs.set i h r)
end

/-- a dict whose keys are texts -/
inductive RKs (u : U) (rho : Nat → Addr) (n : Nat) (H : Hp) : List (List Nat × D) → List (Key × V) → Prop
  | nil : RKs u rho n H [] []
  | cons {s : List Nat} {d : D} {l : List (List Nat × D)} {k : Str} {v : V} {kvs : List (Key × V)} : k.cps.toList = s → RV u rho n H d v → RKs u rho n H l kvs → RKs u rho n H ((s, d) :: l) ((.inr k, v) :: kvs)
theorem RKs.mono {u : U} {rho rho' : Nat → Addr} {n n' : Nat} {H H' : Hp} (hn : n ≤ n') (hr : ∀ i, i < n → rho' i = rho i) (ht : Tups H H') {l : List (List Nat × D)} {kvs : List (Key × V)} (h : RKs u rho n H l kvs) : RKs u rho' n' H' l kvs := by
  induction h with
  | nil => exact .nil
  | cons a b _ ih => exact .cons a (b.mono hn hr ht) ih
/-- a dict's object, told as it is -/
def rawO (a : Addr) (ob : Obj) : HO := .ext fun h => h.get? a = some ob
/-- what key a value is -/
def keyOf : Nat → D → Option NestedKey
  | 0, _ => none
  | k + 1, d => match d with
    | .non => some .none
    | .bl b => some (.num (bif b then 1 else 0))
    | .int i => some (.num i)
    | .str s => some (.text ⟨s.toArray⟩)
    | .tup l => (go k l).map .tup
    | _ => none
where go (k : Nat) : List D → Option (List NestedKey)
  | [] => some []
  | d :: r => match keyOf k d, go k r with
    | some x, some xs => some (x :: xs)
    | _, _ => none
/-- the entries of a dict whose keys are tuples -/
inductive REs (u : U) (rho : Nat → Addr) (n : Nat) (H : Hp) : List (D × D) → List (NestedKey × Addr × Value) → Prop
  | nil : REs u rho n H [] []
  | cons {k v : D} {l : List (D × D)} {nk : NestedKey} {a : Addr} {val : Value} {vv : V} {xs : List (NestedKey × Addr × Value)} :
      keyOf 8 k = some nk → RV u rho n H k (.ref a) → RelV vv val → RV u rho n H v vv → REs u rho n H l xs → REs u rho n H ((k, v) :: l) ((nk, a, val) :: xs)
theorem REs.mono {u : U} {rho rho' : Nat → Addr} {n n' : Nat} {H H' : Hp} (hn : n ≤ n') (hr : ∀ i, i < n → rho' i = rho i) (ht : Tups H H') {l : List (D × D)} {xs : List (NestedKey × Addr × Value)} (h : REs u rho n H l xs) : REs u rho' n' H' l xs := by
  induction h with
  | nil => exact .nil
  | cons a b c d _ ih => exact .cons a (b.mono hn hr ht) c (d.mono hn hr ht) ih

structure RD (u : U) (rho : Nat → Addr) (n : Nat) (H : Hp) (a : Addr) (l : List (D × D)) (ob : Obj) (es : Array DictEntry) (ep : Nat) (xs : List (NestedKey × Addr × Value)) : Prop where
  at_ : H a = some (rawO a ob)
  ex : ob.ExactDict
  data : ob.data = .dict es ep
  ents : es.toList = xs.map (entryOfKey (nestedKind u.P u.w))
  nd : (xs.map (·.1)).Nodup
  rel : REs u rho n H l xs
  sm : (a == sysModules) = false
  len : l.length ≤ 1000000

def RO (u : U) (rho : Nat → Addr) (n : Nat) (H : Hp) (a : Addr) : O → Prop
  | .lst l => ∃ vs, H a = some (.lst vs) ∧ RVs u rho n H l vs
  | .fl l => ∃ ob vs, H a = some (.frz ob (.lst vs)) ∧ RVs u rho n H l vs
  | .dct _ l => ∃ ob es ep xs, RD u rho n H a l ob es ep xs
  | .ins c fs => ∃ dx nvs, H a = some (.ins (u.cl c) dx nvs) ∧ H dx = some (.own a) ∧ nvs.map (·.1) = (u.fld c).take fs.length ∧ RVs u rho n H fs (nvs.map (·.2))
  | .iset l => H a = some (SetO u.w a (fun k => decide (k ∈ l)) l.length) ∧ l.Pairwise (· < ·)
  | .sd l => ∃ kvs, H a = some (.dK kvs) ∧ RKs u rho n H l kvs ∧ l.length ≤ 1000
  | .ik l => ∃ ob es ep kvs, H a = some (rawO a ob) ∧ ob.ExactDict ∧ ob.data = .dict es ep ∧ KeysOf (mixKind u.P u.w) es ∧ Pairs (mixKind u.P u.w) es.toList kvs ∧ (kvs.map (·.1)).Nodup ∧ kvs.map (·.1) = l.map Sum.inl ∧ (a == sysModules) = false ∧ l.length ≤ 1000

/-! ### slots -/
inductive SS (u : U) (rho : Nat → Addr) (n : Nat) (H : Hp) : S → L2.St → Prop
  | nil : SS u rho n H [] []
  | no {o : Option V} {s : S} {σ : L2.St} : SS u rho n H s σ → SS u rho n H (.no :: s) (o :: σ)
  | cons {d : D} {v : V} {s : S} {σ : L2.St} : RV u rho n H d v → SS u rho n H s σ → SS u rho n H (d :: s) (some v :: σ)
  | fn {s : S} {σ : L2.St} : SS u rho n H s σ → SS u rho n H (.fn :: s) (some (.ref u.fnA) :: σ)
section
variable {u : U} {rho rho' : Nat → Addr} {n n' : Nat} {H H' : Hp}
theorem SS.mono (hn : n ≤ n') (hr : ∀ i, i < n → rho' i = rho i) (ht : Tups H H') {s : S} {σ : L2.St} (h : SS u rho n H s σ) : SS u rho' n' H' s σ := by
  induction h with
  | nil => exact .nil
  | no _ ih => exact .no ih
  | cons a _ ih => exact .cons (a.mono hn hr ht) ih
  | fn _ ih => exact .fn ih
theorem SS.get {s : S} {σ : L2.St} (h : SS u rho n H s σ) : ∀ i, (nth s i = .no ∨ nth s i = .fn ∧ σ[i]? = some (some (.ref u.fnA))) ∨ ∃ v, σ[i]? = some (some v) ∧ RV u rho n H (nth s i) v := by
  induction h with
  | nil => intro i; exact .inl (.inl (nth_nil i))
  | no _ ih =>
    intro i
    cases i with
    | zero => exact .inl (.inl rfl)
    | succ i => exact (ih i).imp (fun z => z.imp id fun ⟨a, b⟩ => ⟨a, by simpa using b⟩) fun ⟨v, a, b⟩ => ⟨v, by simpa using a, b⟩
  | fn _ ih =>
    intro i
    cases i with
    | zero => exact .inl (.inr ⟨rfl, rfl⟩)
    | succ i => exact (ih i).imp (fun z => z.imp id fun ⟨a, b⟩ => ⟨a, by simpa using b⟩) fun ⟨v, a, b⟩ => ⟨v, by simpa using a, b⟩
  | cons a _ ih =>
    intro i
    cases i with
    | zero => exact .inr ⟨_, rfl, a⟩
    | succ i => exact (ih i).imp (fun z => z.imp id fun ⟨a, b⟩ => ⟨a, by simpa using b⟩) fun ⟨v, a, b⟩ => ⟨v, by simpa using a, b⟩
theorem SS.set {s : S} {σ : L2.St} (h : SS u rho n H s σ) {d : D} {v : V} (r : RV u rho n H d v) : ∀ i, SS u rho n H (sset s i d) (σ.set i (some v)) := by
  induction h with
  | nil => intro i; rw [sset_nil]; exact .nil
  | no t ih =>
    intro i
    cases i with
    | zero => exact .cons r t
    | succ i => exact .no (ih i)
  | cons a t ih =>
    intro i
    cases i with
    | zero => exact .cons r t
    | succ i => exact .cons a (ih i)
  | fn t ih =>
    intro i
    cases i with
    | zero => exact .cons r t
    | succ i => exact .fn (ih i)
theorem SS.start : ∀ {ds : List D} {vs : List V}, RVs u rho n H ds vs → ∀ k, SS u rho n H (ds ++ List.replicate k .no) (vs.map some ++ List.replicate k none)
  | _, _, .nil, k => by
    induction k with
    | zero => exact .nil
    | succ k ih => exact .no ih
  | _, _, .cons a r, k => .cons a (SS.start r k)
end
structure RW (u : U) (rho : Nat → Addr) (w : W) (H : Hp) : Prop where
  inj : ∀ i j, i < w.n → j < w.n → rho i = rho j → i = j
  dom : ∀ i o, w.get i = some o → i < w.n
  all : ∀ i, i < w.n → H (rho i) ≠ none
  obj : ∀ i o, w.get i = some o → RO u rho w.n H (rho i) o
  small : w.n ≤ 1000000000
  tabs : ∀ p ∈ u.T, TabS H p.1 p.2
  full : ∀ i, i < w.n → ∃ o, w.get i = some o
  code : ∀ p ∈ u.C, H p.1 = some (CodeO p.1 p.2)
  cl : SS u rho w.n H u.cs u.cσ

/-- dicts that stay as they are -/
def lk : O → Bool
  | .dct true _ => true
  | .ik _ => true
  | _ => false
/-- what follows: more objects, tuples and locked dicts as they were -/
structure Ext (u : U) (rho : Nat → Addr) (w : W) (H : Hp) (rho' : Nat → Addr) (w' : W) (H' : Hp) : Prop where
  n : w.n ≤ w'.n
  rh : ∀ i, i < w.n → rho' i = rho i
  tups : Tups H H'
  lock : ∀ i o, w.get i = some o → lk o = true → w'.get i = some o ∧ H' (rho i) = H (rho i)
  oth : ∀ a, H a ≠ none → (∀ ps, H a ≠ some (.tbl ps)) → (∀ i, i < w.n → rho i ≠ a) → H' a = H a ∧ ∀ i, i < w'.n → rho' i ≠ a
theorem Ext.refl {u : U} {rho : Nat → Addr} {w : W} {H : Hp} : Ext u rho w H rho w H := ⟨Nat.le_refl _, fun _ _ => rfl, .refl _, fun _ _ h _ => ⟨h, rfl⟩, fun _ _ _ h => ⟨rfl, h⟩⟩
theorem Ext.trans {u : U} {r0 r1 r2 : Nat → Addr} {w0 w1 w2 : W} {H0 H1 H2 : Hp} (R0 : RW u r0 w0 H0) (a : Ext u r0 w0 H0 r1 w1 H1) (b : Ext u r1 w1 H1 r2 w2 H2) : Ext u r0 w0 H0 r2 w2 H2 :=
  ⟨Nat.le_trans a.n b.n, fun i h => (b.rh i (Nat.lt_of_lt_of_le h a.n)).trans (a.rh i h), a.tups.trans b.tups, fun i l h k => by
    obtain ⟨h1, e1⟩ := a.lock i l h k
    obtain ⟨h2, e2⟩ := b.lock i l h1 k
    rw [a.rh i (R0.dom i _ h)] at e2
    exact ⟨h2, e2.trans e1⟩, fun x h1 h0 h2 => by
    obtain ⟨e1, g1⟩ := a.oth x h1 h0 h2
    obtain ⟨e2, g2⟩ := b.oth x (by rw [e1]; exact h1) (by rw [e1]; exact h0) g1
    exact ⟨e2.trans e1, g2⟩⟩
section
variable {u : U} {rho rho' : Nat → Addr} {w w' : W} {H H' : Hp}
theorem Ext.rv (e : Ext u rho w H rho' w' H') {d : D} {v : V} (h : RV u rho w.n H d v) : RV u rho' w'.n H' d v := h.mono e.n e.rh e.tups
theorem Ext.rvs (e : Ext u rho w H rho' w' H') {d : List D} {v : List V} (h : RVs u rho w.n H d v) : RVs u rho' w'.n H' d v := h.mono e.n e.rh e.tups
end

/-- what a walk needs of what follows -/
structure Ext0 (u : U) (rho : Nat → Addr) (w : W) (H : Hp) (rho' : Nat → Addr) (w' : W) (H' : Hp) : Prop where
  n : w.n ≤ w'.n
  rh : ∀ i, i < w.n → rho' i = rho i
  tups : Tups H H'
  lock : ∀ i o, w.get i = some o → lk o = true → w'.get i = some o ∧ H' (rho i) = H (rho i)
section
variable {u : U} {rho rho' : Nat → Addr} {w w' : W} {H H' : Hp}
theorem Ext.to0 (e : Ext u rho w H rho' w' H') : Ext0 u rho w H rho' w' H' := ⟨e.n, e.rh, e.tups, e.lock⟩
theorem Ext0.rv (e : Ext0 u rho w H rho' w' H') {d : D} {v : V} (h : RV u rho w.n H d v) : RV u rho' w'.n H' d v := h.mono e.n e.rh e.tups
theorem Ext0.rvs (e : Ext0 u rho w H rho' w' H') {d : List D} {v : List V} (h : RVs u rho w.n H d v) : RVs u rho' w'.n H' d v := h.mono e.n e.rh e.tups
theorem Ext0.trans {r0 r1 r2 : Nat → Addr} {w0 w1 w2 : W} {H0 H1 H2 : Hp} (R0 : RW u r0 w0 H0) (a : Ext0 u r0 w0 H0 r1 w1 H1) (b : Ext0 u r1 w1 H1 r2 w2 H2) : Ext0 u r0 w0 H0 r2 w2 H2 :=
  ⟨Nat.le_trans a.n b.n, fun i h => (b.rh i (Nat.lt_of_lt_of_le h a.n)).trans (a.rh i h), a.tups.trans b.tups, fun i l h k => by
    obtain ⟨h1, e1⟩ := a.lock i l h k
    obtain ⟨h2, e2⟩ := b.lock i l h1 k
    rw [a.rh i (R0.dom i _ h)] at e2
    exact ⟨h2, e2.trans e1⟩⟩
end
end Ev

set_option Elab.async false
set_option linter.all false
set_option maxRecDepth 100000
set_option maxHeartbeats 4000000
/-! EvJ: the judgements: what a function of the evaluator promises of a piece of the text. -/
namespace Ev
open PySem PySem.Spec PyProof.Rows L2

/-- an exception's own dict, where it has one -/
def PayOk (u : U) (rho : Nat → Addr) (n : Nat) (H : Hp) (p : D) (oe : Option Addr) : Prop :=
  (p = .no ∧ oe = none) ∨ ∃ d v, oe = some d ∧ H d = some (.xd [("index", v)]) ∧ RV u rho n H p v
section
variable (u : U) (E : XK) (rho : Nat → Addr) (w : W) (H : Hp)
def PostX (c : Nat) (p : D) (w' : W) : Prop := ∀ rho' H' oe, Ext u rho w H rho' w' H' → RW u rho' w' H' → PayOk u rho' w'.n H' p oe → E (.ref (u.cl c)) oe H'
def Post (Q : VK) : R → Prop
  | .ok d w' => ∀ rho' H' v, Ext u rho w H rho' w' H' → RW u rho' w' H' → RV u rho' w'.n H' d v → Q v H'
  | .ex c p w' => PostX u E rho w H c p w'
  | .bad => False
def PostA (Q : List V → Hp → Prop) : RA → Prop
  | .ok ds w' => ∀ rho' H' vs, Ext u rho w H rho' w' H' → RW u rho' w' H' → RVs u rho' w'.n H' ds vs → Q vs H'
  | .ex c p w' => PostX u E rho w H c p w'
  | .bad => False
def PostS (D : Ends) : RS → Prop
  | .nx s w' => ∀ rho' H' σ', Ext u rho w H rho' w' H' → RW u rho' w' H' → SS u rho' w'.n H' s σ' → D.nx σ' H'
  | .rt d w' => ∀ rho' H' v, Ext u rho w H rho' w' H' → RW u rho' w' H' → RV u rho' w'.n H' d v → D.rt v H'
  | .bk s w' => ∀ rho' H' σ', Ext u rho w H rho' w' H' → RW u rho' w' H' → SS u rho' w'.n H' s σ' → D.bk σ' H'
  | .ct s w' => ∀ rho' H' σ', Ext u rho w H rho' w' H' → RW u rho' w' H' → SS u rho' w'.n H' s σ' → D.ct σ' H'
  | .ex c p w' => PostX u E rho w H c p w'
  | .bad => False
def PostG (N : L2.St → Hp → Prop) : RG → Prop
  | .ok s w' => ∀ rho' H' σ', Ext u rho w H rho' w' H' → RW u rho' w' H' → SS u rho' w'.n H' s σ' → N σ' H'
  | .bad => False
end
section
variable {u : U} {E : XK} {rho rho1 : Nat → Addr} {w w1 : W} {H H1 : Hp}
theorem PostX.to {c : Nat} {p : D} {w' : W} (h : PostX u E rho w H c p w') (R : RW u rho w H) (e : Ext u rho w H rho1 w1 H1) : PostX u E rho1 w1 H1 c p w' := fun rho' H' oe e' => h rho' H' oe (e.trans R e')
theorem Post.to {Q : VK} {r : R} (h : Post u E rho w H Q r) (R : RW u rho w H) (e : Ext u rho w H rho1 w1 H1) : Post u E rho1 w1 H1 Q r := by
  cases r with
  | ok d w' => exact fun rho' H' v e' => h rho' H' v (e.trans R e')
  | ex c p w' => exact PostX.to h R e
  | bad => exact h
theorem PostA.to {Q : List V → Hp → Prop} {r : RA} (h : PostA u E rho w H Q r) (R : RW u rho w H) (e : Ext u rho w H rho1 w1 H1) : PostA u E rho1 w1 H1 Q r := by
  cases r with
  | ok d w' => exact fun rho' H' v e' => h rho' H' v (e.trans R e')
  | ex c p w' => exact PostX.to h R e
  | bad => exact h
theorem PostS.to {D : Ends} {r : RS} (h : PostS u E rho w H D r) (R : RW u rho w H) (e : Ext u rho w H rho1 w1 H1) : PostS u E rho1 w1 H1 D r := by
  cases r with
  | nx d w' => exact fun rho' H' v e' => h rho' H' v (e.trans R e')
  | rt d w' => exact fun rho' H' v e' => h rho' H' v (e.trans R e')
  | bk d w' => exact fun rho' H' v e' => h rho' H' v (e.trans R e')
  | ct d w' => exact fun rho' H' v e' => h rho' H' v (e.trans R e')
  | ex c p w' => exact PostX.to h R e
  | bad => exact h
theorem PostG.to {N : L2.St → Hp → Prop} {r : RG} (h : PostG u rho w H N r) (R : RW u rho w H) (e : Ext u rho w H rho1 w1 H1) : PostG u rho1 w1 H1 N r := by
  cases r with
  | ok d w' => exact fun rho' H' v e' => h rho' H' v (e.trans R e')
  | bad => exact h
end
/-! ### readings -/
def tM (u : U) (E : XK) (m : M) : TE := fun σ H Q => ∃ rho s w, RW u rho w H ∧ SS u rho w.n H s σ ∧ Post u E rho w H Q (m s w)
def tMA (u : U) (E : XK) (m : MA) : TA := fun σ H Q => ∃ rho s w, RW u rho w H ∧ SS u rho w.n H s σ ∧ PostA u E rho w H Q (m s w)
def tMS (u : U) (E : XK) (m : MS) : TS := fun D σ H => ∃ rho s w, RW u rho w H ∧ SS u rho w.n H s σ ∧ PostS u E rho w H D (m s w)
def tMG (u : U) (g : G) : TG := fun v σ H N => ∃ rho s w d, RW u rho w H ∧ SS u rho w.n H s σ ∧ RV u rho w.n H d v ∧ PostG u rho w H N (g d s w)
def tMGs (u : U) (g : GN) : TGs := fun vs σ H N => ∃ rho s w ds, RW u rho w H ∧ SS u rho w.n H s σ ∧ RVs u rho w.n H ds vs ∧ PostG u rho w H N (g ds s w)
/-- a test: a value that is a bool -/
def tMT (u : U) (E : XK) (m : M) : TT := fun σ H Q => tM u E m σ H fun x H1 => ∃ k, x = .bl k ∧ Q k H1
/-- a def's promise -/
def spM (u : U) (f : FN) (k : Nat) : Sp := fun vs H Q E => vs.length = k ∧ ∃ rho w ds, RW u rho w H ∧ RVs u rho w.n H ds vs ∧ Post u E rho w H Q (f ds w)

theorem _root_.L2.PE.imp {X : Cx} {e : Expr} {t t' : TE} (h : PE X e t) (hi : ∀ σ H Q, t' σ H Q → t σ H Q) : PE X e t' := ⟨fun pins s σ H Q I q => h.run pins s σ H Q I (hi σ H Q q)⟩
theorem _root_.L2.PA.imp {X : Cx} {e : List Expr} {t t' : TA} (h : PA X e t) (hi : ∀ σ H Q, t' σ H Q → t σ H Q) : PA X e t' := ⟨fun pos pins s σ H Q I q => h.run pos pins s σ H Q I (hi σ H Q q)⟩
theorem _root_.L2.PT.imp {X : Cx} {e : Expr} {t t' : TT} (h : PT X e t) (hi : ∀ σ H Q, t' σ H Q → t σ H Q) : PT X e t' := ⟨fun pins s σ H Q I q => h.run pins s σ H Q I (hi σ H Q q)⟩
theorem _root_.L2.PS.imp {X : Cx} {e : Stmt} {t t' : TS} (h : PS X e t) (hi : ∀ D σ H, t' D σ H → t D σ H) : PS X e t' := ⟨fun pins s σ H D I q => h.run pins s σ H D I (hi D σ H q)⟩
theorem _root_.L2.PSs.imp {X : Cx} {e : List Stmt} {t t' : TS} (h : PSs X e t) (hi : ∀ D σ H, t' D σ H → t D σ H) : PSs X e t' := ⟨fun pins s σ H D I q => h.run pins s σ H D I (hi D σ H q)⟩
theorem _root_.L2.PG.imp {X : Cx} {e : Expr} {t t' : TG} (h : PG X e t) (hi : ∀ v σ H Q, t' v σ H Q → t v σ H Q) : PG X e t' := ⟨fun pins s σ H v x Q I r q => h.run pins s σ H v x Q I r (hi v σ H Q q)⟩
theorem _root_.L2.PGs.imp {X : Cx} {e : List Expr} {t t' : TGs} (h : PGs X e t) (hi : ∀ v σ H Q, t' v σ H Q → t v σ H Q) : PGs X e t' := ⟨fun pins s σ H v x Q I r q => h.run pins s σ H v x Q I r (hi v σ H Q q)⟩

section
variable {X : Cx} {u : U} {E : XK} {σ : L2.St} {H : Hp} {rho : Nat → Addr} {s : S} {w : W}
/-- what is known behind a part -/
structure Now (u : U) (rho : Nat → Addr) (s : S) (σ : L2.St) (rho1 : Nat → Addr) (w1 : W) (H1 : Hp) (d : D) (v : V) : Prop where
  rw_ : RW u rho1 w1 H1
  ss : SS u rho1 w1.n H1 s σ
  rv : RV u rho1 w1.n H1 d v
/-- an expression first, then k -/
theorem tM_then {m : M} {Q' : VK} (R : RW u rho w H) (Z : SS u rho w.n H s σ)
    (hk : match m s w with
      | .ok d w1 => ∀ rho1 H1 v, Ext u rho w H rho1 w1 H1 → RW u rho1 w1 H1 → SS u rho1 w1.n H1 s σ → RV u rho1 w1.n H1 d v → Q' v H1
      | .ex c p w1 => PostX u E rho w H c p w1
      | .bad => False) : tM u E m σ H Q' := by
  refine ⟨rho, s, w, R, Z, ?_⟩
  revert hk
  cases m s w with
  | ok d w1 => exact fun hk rho' H' v e r rv => hk rho' H' v e r (Z.mono e.n e.rh e.tups) rv
  | ex c p w1 => exact id
  | bad => exact id
theorem tMA_then {m : MA} {Q' : List V → Hp → Prop} (R : RW u rho w H) (Z : SS u rho w.n H s σ)
    (hk : match m s w with
      | .ok d w1 => ∀ rho1 H1 v, Ext u rho w H rho1 w1 H1 → RW u rho1 w1 H1 → SS u rho1 w1.n H1 s σ → RVs u rho1 w1.n H1 d v → Q' v H1
      | .ex c p w1 => PostX u E rho w H c p w1
      | .bad => False) : tMA u E m σ H Q' := by
  refine ⟨rho, s, w, R, Z, ?_⟩
  revert hk
  cases m s w with
  | ok d w1 => exact fun hk rho' H' v e r rv => hk rho' H' v e r (Z.mono e.n e.rh e.tups) rv
  | ex c p w1 => exact id
  | bad => exact id

/-! ### expressions -/
def Fits1 (u : U) (E : XK) (r : V → Hp → VK → Prop) (f : F1) : Prop := ∀ rho w H d v Q, RW u rho w H → RV u rho w.n H d v → Post u E rho w H Q (f d w) → r v H Q
def Fits2 (u : U) (E : XK) (r : V → V → Hp → VK → Prop) (f : F2) : Prop := ∀ rho w H d v d' v' Q, RW u rho w H → RV u rho w.n H d v → RV u rho w.n H d' v' → Post u E rho w H Q (f d d' w) → r v v' H Q
def FitsN (u : U) (E : XK) (r : List V → Hp → VK → Prop) (f : FN) : Prop := ∀ rho w H ds vs Q, RW u rho w H → RVs u rho w.n H ds vs → Post u E rho w H Q (f ds w) → r vs H Q
variable {e a b : Expr} {es : List Expr} {ma mb mc : M} {mas : MA}
theorem se_un {r : V → Hp → VK → Prop} {f : F1} (h : PE X e (tUn r (tM u E ma))) (hf : Fits1 u E r f) : PE X e (tM u E (mUn f ma)) := by
  refine h.imp fun σ H Q ⟨rho, s, w, R, Z, q⟩ => ?_
  refine tM_then R Z ?_
  unfold mUn Ev.R.bind at q
  revert q
  cases ma s w with
  | ok d w1 => exact fun q rho1 H1 v e R1 _ rv => hf _ _ _ _ _ _ R1 rv (q.to R e)
  | ex c p w1 => exact id
  | bad => exact id
theorem se_bin {r : V → V → Hp → VK → Prop} {f : F2} (h : PE X e (tOp r (tM u E ma) (tM u E mb))) (hf : Fits2 u E r f) : PE X e (tM u E (mBin f ma mb)) := by
  refine h.imp fun σ H Q ⟨rho, s, w, R, Z, q⟩ => ?_
  refine tM_then R Z ?_
  unfold mBin at q
  revert q
  cases ma s w with
  | ok d w1 =>
    intro q rho1 H1 v e R1 Z1 rv
    refine tM_then R1 Z1 ?_
    dsimp only at q
    revert q
    cases mb s w1 with
    | ok d2 w2 => exact fun q rho2 H2 v2 e2 R2 Z2 rv2 => hf _ _ _ _ _ _ _ _ R2 (e2.rv rv) rv2 (q.to R (e.trans R e2))
    | ex c p w2 => exact fun q => PostX.to q R e
    | bad => exact id
  | ex c p w1 => exact id
  | bad => exact id
theorem se_n {r : List V → Hp → VK → Prop} {f : FN} (h : PE X e (tCB r (tMA u E mas))) (hf : FitsN u E r f) : PE X e (tM u E (mN f mas)) := by
  refine h.imp fun σ H Q ⟨rho, s, w, R, Z, q⟩ => ?_
  refine tMA_then R Z ?_
  unfold mN at q
  revert q
  cases mas s w with
  | ok d w1 => exact fun q rho1 H1 v e R1 _ rv => hf _ _ _ _ _ _ R1 rv (q.to R e)
  | ex c p w1 => exact id
  | bad => exact id
theorem sa_nil : PA X [] (tMA u E aNil) := pa_nil.imp fun σ H Q ⟨rho, s, w, R, Z, q⟩ => q rho H [] .refl R .nil
theorem sa_cons (ha : PE X a (tM u E ma)) (hr : PA X es (tMA u E mas)) (hs : starEach (a :: es) X.env = (false, eval a X.env) :: starEach es X.env := by rfl) : PA X (a :: es) (tMA u E (aCons ma mas)) := by
  refine (pa_cons ha hr hs).imp fun σ H Q ⟨rho, s, w, R, Z, q⟩ => ?_
  refine tM_then R Z ?_
  unfold aCons at q
  revert q
  cases ma s w with
  | ok d w1 =>
    intro q rho1 H1 v e R1 Z1 rv
    refine tMA_then R1 Z1 ?_
    dsimp only at q
    revert q
    cases mas s w1 with
    | ok d2 w2 => exact fun q rho2 H2 v2 e2 R2 Z2 rv2 => q rho2 H2 _ (e.trans R e2) R2 (.cons (e2.rv rv) rv2)
    | ex c p w2 => exact fun q => PostX.to q R e
    | bad => exact id
  | ex c p w1 => exact id
  | bad => exact id
theorem se_var {i : Nat} (h : PE X e (tVar i)) : PE X e (tM u E (mVar i)) := by
  refine h.imp fun σ H Q ⟨rho, s, w, R, Z, q⟩ => ?_
  unfold mVar at q
  rcases Z.get i with (h0 | ⟨h0, _⟩) | ⟨v, hv, rv⟩
  · rw [h0] at q; exact q.elim
  · rw [h0] at q; exact q.elim
  · refine ⟨v, hv, ?_⟩
    revert q rv
    cases nth s i <;> intro q rv <;> first | exact q.elim | exact q rho H v .refl R rv
theorem se_c {d : D} {v : V} (h : PE X e (tC v)) (hd : ∀ rho n H, RV u rho n H d v) : PE X e (tM u E (mC d)) :=
  h.imp fun σ H Q ⟨rho, s, w, R, Z, q⟩ => q rho H v .refl R (hd _ _ _)
/-! tests -/
theorem st_of (h : PE X e (tM u E ma)) (ht : PE X e (tM u E ma) → PT X e (tB (tM u E ma))) : PT X e (tMT u E ma) := (ht h).imp fun σ H Q q => q
theorem tMT_then {m : M} {Q' : Bool → Hp → Prop} (R : RW u rho w H) (Z : SS u rho w.n H s σ)
    (hk : match m s w with
      | .ok (.bl k) w1 => ∀ rho1 H1, Ext u rho w H rho1 w1 H1 → RW u rho1 w1 H1 → SS u rho1 w1.n H1 s σ → Q' k H1
      | .ex c p w1 => PostX u E rho w H c p w1
      | _ => False) : tMT u E m σ H Q' := by
  refine tM_then R Z ?_
  revert hk
  cases m s w with
  | ok d w1 =>
    intro hk rho1 H1 v e R1 Z1 rv
    cases d <;> first | exact hk.elim | (cases rv; exact ⟨_, rfl, hk rho1 H1 e R1 Z1⟩)
  | ex c p w1 => exact id
  | bad => exact id
theorem se_and (h : PE X e (tAndV (tM u E ma) (tM u E mb))) : PE X e (tM u E (mAnd ma mb)) := by
  refine h.imp fun σ H Q ⟨rho, s, w, R, Z, q⟩ => ?_
  refine tM_then R Z ?_
  unfold mAnd at q
  revert q
  cases ma s w with
  | ok d w1 =>
    intro q rho1 H1 v e R1 Z1 rv
    cases d <;> try exact q.elim
    rename_i k
    cases rv
    refine ⟨k, rfl, ?_⟩
    cases k with
    | true => exact ⟨rho1, s, w1, R1, Z1, Post.to q R e⟩
    | false => exact q rho1 H1 _ e R1 (.bl _)
  | ex c p w1 => exact id
  | bad => exact id
theorem se_or (h : PE X e (tOrV (tM u E ma) (tM u E mb))) : PE X e (tM u E (mOr ma mb)) := by
  refine h.imp fun σ H Q ⟨rho, s, w, R, Z, q⟩ => ?_
  refine tM_then R Z ?_
  unfold mOr at q
  revert q
  cases ma s w with
  | ok d w1 =>
    intro q rho1 H1 v e R1 Z1 rv
    cases d <;> try exact q.elim
    rename_i k
    cases rv
    refine ⟨k, rfl, ?_⟩
    cases k with
    | false => exact ⟨rho1, s, w1, R1, Z1, Post.to q R e⟩
    | true => exact q rho1 H1 _ e R1 (.bl _)
  | ex c p w1 => exact id
  | bad => exact id
theorem se_if (h : PE X e (tIf (tMT u E mc) (tM u E ma) (tM u E mb))) : PE X e (tM u E (mIf mc ma mb)) := by
  refine h.imp fun σ H Q ⟨rho, s, w, R, Z, q⟩ => ?_
  refine tMT_then R Z ?_
  unfold mIf at q
  revert q
  cases mc s w with
  | ok d w1 =>
    intro q
    cases d <;> try exact q.elim
    rename_i k
    intro rho1 H1 e R1 Z1
    cases k with
    | true => exact ⟨rho1, s, w1, R1, Z1, Post.to q R e⟩
    | false => exact ⟨rho1, s, w1, R1, Z1, Post.to q R e⟩
  | ex c p w1 => exact id
  | bad => exact id
/-! ### statements -/
variable {st : Stmt} {sts : List Stmt} {m1 m2 : MS}
theorem ss_nil : PSs X [] (tMS u E sNil) := pss_nil.imp fun D σ H ⟨rho, s, w, R, Z, q⟩ => q rho H σ .refl R Z
theorem ss_cons (h1 : PS X st (tMS u E m1)) (h2 : PSs X sts (tMS u E m2)) : PSs X (st :: sts) (tMS u E (sSeq m1 m2)) := by
  refine (pss_cons h1 h2).imp fun D σ H ⟨rho, s, w, R, Z, q⟩ => ⟨rho, s, w, R, Z, ?_⟩
  unfold sSeq at q
  revert q
  cases m1 s w with
  | nx s1 w1 => exact fun q rho1 H1 σ1 e R1 Z1 => ⟨rho1, s1, w1, R1, Z1, PostS.to q R e⟩
  | rt d w1 => exact id
  | bk d w1 => exact id
  | ct d w1 => exact id
  | ex c p w1 => exact id
  | bad => exact id
theorem ss_one (h1 : PS X st (tMS u E m1)) : PSs X [st] (tMS u E m1) := pss_one h1
theorem ss_drop (h : PS X st (tDrop (tM u E ma))) : PS X st (tMS u E (sDrop ma)) := by
  refine h.imp fun D σ H ⟨rho, s, w, R, Z, q⟩ => ?_
  refine tM_then R Z ?_
  unfold sDrop at q
  revert q
  cases ma s w with
  | ok d w1 => exact fun q rho1 H1 v e R1 Z1 _ => q rho1 H1 σ e R1 Z1
  | ex c p w1 => exact id
  | bad => exact id
theorem ss_ret (h : PS X st (tRet (tM u E ma))) : PS X st (tMS u E (sRet ma)) := by
  refine h.imp fun D σ H ⟨rho, s, w, R, Z, q⟩ => ?_
  refine tM_then R Z ?_
  unfold sRet at q
  revert q
  cases ma s w with
  | ok d w1 => exact fun q rho1 H1 v e R1 Z1 rv => q rho1 H1 v e R1 rv
  | ex c p w1 => exact id
  | bad => exact id
theorem ss_retN (h : PS X st tRetN) : PS X st (tMS u E sRetN) := h.imp fun D σ H ⟨rho, s, w, R, Z, q⟩ => q rho H _ .refl R .non
theorem ss_if (h : PS X st (tIfS (tMT u E mc) (tMS u E m1) (tMS u E m2))) : PS X st (tMS u E (sIf mc m1 m2)) := by
  refine h.imp fun D σ H ⟨rho, s, w, R, Z, q⟩ => ?_
  refine tMT_then R Z ?_
  unfold sIf at q
  revert q
  cases mc s w with
  | ok d w1 =>
    intro q
    cases d <;> try exact q.elim
    rename_i k
    intro rho1 H1 e R1 Z1
    cases k with
    | true => exact ⟨rho1, s, w1, R1, Z1, PostS.to q R e⟩
    | false => exact ⟨rho1, s, w1, R1, Z1, PostS.to q R e⟩
  | ex c p w1 => exact id
  | bad => exact id
theorem ss_bad : PS X st (tMS u E sBad) := ps_never.imp fun D σ H ⟨_, _, _, _, _, q⟩ => q
theorem ss_asg {g : G} (h : PS X st (tAsg (tM u E ma) (tMG u g))) : PS X st (tMS u E (sAsg ma g)) := by
  refine h.imp fun D σ H ⟨rho, s, w, R, Z, q⟩ => ?_
  refine tM_then R Z ?_
  unfold sAsg at q
  revert q
  cases ma s w with
  | ok d w1 =>
    intro q rho1 H1 v e R1 Z1 rv
    refine ⟨rho1, s, w1, d, R1, Z1, rv, ?_⟩
    dsimp only at q
    revert q
    cases g d s w1 with
    | ok s2 w2 => exact fun q rho2 H2 σ2 e2 R2 Z2 => q rho2 H2 σ2 (e.trans R e2) R2 Z2
    | bad => exact id
  | ex c p w1 => exact id
  | bad => exact id
/-! targets -/
theorem sg_name {i : Nat} (h : PG X e (L2.gName i)) : PG X e (tMG u (gName i)) :=
  h.imp fun v σ H Q ⟨rho, s, w, d, R, Z, rv, q⟩ => q rho H _ .refl R (Z.set rv i)
theorem sgs_nil : PGs X [] (tMGs u gsNil) := pgs_nil.imp fun v σ H Q ⟨rho, s, w, ds, R, Z, rv, q⟩ => by
  cases rv with
  | nil => exact ⟨rfl, q rho H _ .refl R Z⟩
  | cons _ _ => exact q.elim
theorem sgs_cons {g : G} {gr : GN} (h1 : PG X e (tMG u g)) (h2 : PGs X es (tMGs u gr)) (hs : (assignEach (e :: es) X.env).map (·.2) = assign e X.env :: (assignEach es X.env).map (·.2) := by rfl) : PGs X (e :: es) (tMGs u (gsCons g gr)) := by
  refine (pgs_cons h1 h2 hs).imp fun vs σ H Q ⟨rho, s, w, ds, R, Z, rv, q⟩ => ?_
  cases rv with
  | nil => exact q.elim
  | @cons d v ds vs r rr =>
    refine ⟨v, vs, rfl, rho, s, w, d, R, Z, r, ?_⟩
    unfold gsCons at q
    dsimp only at q
    revert q
    cases g d s w with
    | ok s2 w2 => exact fun q rho2 H2 σ2 e2 R2 Z2 => ⟨rho2, s2, w2, ds, R2, Z2, e2.rvs rr, PostG.to q R e2⟩
    | bad => exact id
theorem sg_tup {n : Nat} {gr : GN} (hK : X.K = u.K) (h : PG X e (L2.gTup X.K n (tMGs u gr))) : PG X e (tMG u (gTup n gr)) := by
  refine h.imp fun v σ H Q ⟨rho, s, w, d, R, Z, rv, q⟩ => ?_
  unfold gTup at q
  cases rv with
  | @tup l a vs hq hr =>
    dsimp only at q
    cases hb : Nat.beq l.length n with
    | true =>
      rw [hb] at q
      exact ⟨a, vs, rfl, by rw [hK]; exact hq, hr.length.symm.trans (Nat.eq_of_beq_eq_true hb), rho, s, w, l, R, Z, hr, q⟩
    | false => rw [hb] at q; exact q.elim
  | _ => exact q.elim
end
end Ev

set_option Elab.async false
set_option linter.all false
set_option maxRecDepth 100000
set_option maxHeartbeats 4000000
/-! EvO: operations by values. -/
namespace Ev
open PySem PySem.Spec PyProof.Rows L2
section
variable {X : Cx} {u : U} {E : XK} {rho : Nat → Addr} {w : W} {H : Hp}
/-! ### the world: what is there, a new object, an object changed -/
theorem nat_blt {a b : Nat} (h : Nat.blt a b = true) : a < b := Nat.le_of_ble_eq_true h
theorem nat_beq {a b : Nat} (h : Nat.beq a b = true) : a = b := Nat.eq_of_beq_eq_true h
theorem RW.lst (r : RW u rho w H) {i : Nat} {l : List D} (h : w.get i = some (.lst l)) : ∃ vs, H (rho i) = some (.lst vs) ∧ RVs u rho w.n H l vs := r.obj i _ h
theorem W.get_put {n n' : Nat} {t : T} {i j : Nat} {o : O} (h : i ≤ 1000000000) : (W.mk n' (t.put 40 i o)).get j = if j = i then some o else (W.mk n t).get j := T.get_put t i o (Nat.lt_of_le_of_lt (Nat.succ_le_succ h) (by decide)) j
def rhoN (rho : Nat → Addr) (n : Nat) (p : Addr) : Nat → Addr := fun i => if i = n then p else rho i
theorem rhoN_lt {rho : Nat → Addr} {n i : Nat} {p : Addr} (h : i < n) : rhoN rho n p i = rho i := if_neg (Nat.ne_of_lt h)
theorem rhoN_at {rho : Nat → Addr} {n : Nat} {p : Addr} : rhoN rho n p n = p := if_pos rfl
theorem RO.mono {rho rho' : Nat → Addr} {n n' : Nat} {H H' : Hp} {a : Addr} (hn : n ≤ n') (hr : ∀ i, i < n → rho' i = rho i) (ht : Tups H H') (ha : H' a = H a) (hd : ∀ d, H d = some (.own a) → H' d = some (.own a)) {o : O} (h : RO u rho n H a o) : RO u rho' n' H' a o := by
  cases o with
  | lst l => obtain ⟨vs, e, r⟩ := h; exact ⟨vs, ha.trans e, r.mono hn hr ht⟩
  | fl l => obtain ⟨ob, vs, e, r⟩ := h; exact ⟨ob, vs, ha.trans e, r.mono hn hr ht⟩
  | dct k l => obtain ⟨ob, es, ep, xs, r⟩ := h; exact ⟨ob, es, ep, xs, ha.trans r.at_, r.ex, r.data, r.ents, r.nd, r.rel.mono hn hr ht, r.sm, r.len⟩
  | ins c fs => obtain ⟨dx, nvs, e, e2, e3, r⟩ := h; exact ⟨dx, nvs, ha.trans e, hd _ e2, e3, r.mono hn hr ht⟩
  | iset l => obtain ⟨e, p⟩ := h; exact ⟨ha.trans e, p⟩
  | sd l => obtain ⟨kvs, e, r, z⟩ := h; exact ⟨kvs, ha.trans e, r.mono hn hr ht, z⟩
  | ik l => obtain ⟨ob, es, ep, kvs, e, z⟩ := h; exact ⟨ob, es, ep, kvs, ha.trans e, z⟩
theorem upd_live {H : Hp} {p a : Addr} {o : HO} (h : H a ≠ none) : L2.upd H p o a ≠ none := by
  by_cases e : a = p
  · rw [e, upd_same]; simp
  · rw [upd_ne e]; exact h
/-- a tuple (or anything that the evaluator does not number) is new -/
theorem RW.tup (r : RW u rho w H) {p : Addr} {o : HO} (hp : H p = none) : RW u rho w (upd H p o) ∧ Ext u rho w H rho w (upd H p o) := by
  have ne : ∀ i, i < w.n → rho i ≠ p := fun i hi e => r.all i hi (by rw [e]; exact hp)
  have same : Same H (upd H p o) := fun b x e => by rw [upd_ne (ne_of_none e hp)]; exact e
  refine ⟨⟨r.inj, r.dom, fun i hi => by rw [upd_ne (ne i hi)]; exact r.all i hi, fun i ob h => ?_, r.small, fun p hp' => LamX.TabS.ext (r.tabs p hp') same, r.full, fun p hp' => same _ _ (r.code p hp'), r.cl.mono (Nat.le_refl _) (fun _ _ => rfl) (.new hp)⟩, ⟨Nat.le_refl _, fun _ _ => rfl, .new hp, fun i l h _ => ⟨h, by rw [upd_ne (ne i (r.dom i _ h))]⟩, fun a h1 h0 h2 => ⟨upd_ne fun z => h1 (by rw [z]; exact hp), h2⟩⟩⟩
  exact (r.obj i ob h).mono (Nat.le_refl _) (fun _ _ => rfl) (.new hp) (by rw [upd_ne (ne i (r.dom i _ h))]) fun d e => same _ _ e
theorem RW.same (r : RW u rho w H) {H' : Hp} (s : Same H H') : RW u rho w H' ∧ Ext u rho w H rho w H' := by
  have at_ : ∀ i, i < w.n → H' (rho i) = H (rho i) := fun i hi => by
    cases q : H (rho i) with
    | none => exact absurd q (r.all i hi)
    | some x => exact s _ _ q
  refine ⟨⟨r.inj, r.dom, fun i hi => by rw [at_ i hi]; exact r.all i hi, fun i ob h => ?_, r.small, fun p hp' => LamX.TabS.ext (r.tabs p hp') s, r.full, fun p hp' => s _ _ (r.code p hp'), r.cl.mono (Nat.le_refl _) (fun _ _ => rfl) (.of_same s)⟩, ⟨Nat.le_refl _, fun _ _ => rfl, .of_same s, fun i l h _ => ⟨h, at_ i (r.dom i _ h)⟩, fun a h1 h0 h2 => ⟨by
    cases q : H a with
    | none => exact absurd q h1
    | some x => exact s _ _ q, h2⟩⟩⟩
  exact (r.obj i ob h).mono (Nat.le_refl _) (fun _ _ => rfl) (.of_same s) (at_ i (r.dom i _ h)) fun d e => s _ _ e
/-- a new numbered object at p -/
theorem RW.new (r : RW u rho w H) {p : Addr} {ho : HO} {o : O} (hp : H p = none) (hb : Nat.blt w.n 1000000000 = true)
    (ho' : RO u (rhoN rho w.n p) (Nat.succ w.n) (upd H p ho) p o) (hl : ∀ l, o ≠ .dct true l) :
    RW u (rhoN rho w.n p) (.mk (Nat.succ w.n) (w.t.put 40 w.n o)) (upd H p ho) ∧ Ext u rho w H (rhoN rho w.n p) (.mk (Nat.succ w.n) (w.t.put 40 w.n o)) (upd H p ho) := by
  have hn : w.n < 1000000000 := nat_blt hb
  have g : ∀ j, (W.mk (Nat.succ w.n) (w.t.put 40 w.n o)).get j = if j = w.n then some o else w.get j := fun j => W.get_put (n := w.n) (t := w.t) r.small
  have ne : ∀ i, i < w.n → rho i ≠ p := fun i hi e => r.all i hi (by rw [e]; exact hp)
  have same : Same H (upd H p ho) := fun b x e => by rw [upd_ne (ne_of_none e hp)]; exact e
  have hN : (W.mk (Nat.succ w.n) (w.t.put 40 w.n o)).n = Nat.succ w.n := rfl
  refine ⟨⟨fun i j hi hj e => ?_, fun i ob h => ?_, fun i hi => ?_, fun i ob h => ?_, hn, fun p hp' => LamX.TabS.ext (r.tabs p hp') same, (fun i hi => by
    rw [g]
    by_cases h1 : i = w.n
    · exact ⟨_, if_pos h1⟩
    · rw [if_neg h1]; exact r.full i (by have : i < Nat.succ w.n := hi; omega)), fun p hp' => same _ _ (r.code p hp'), r.cl.mono (Nat.le_succ _) (fun i hi => rhoN_lt hi) (.new hp)⟩, ⟨Nat.le_succ _, fun i hi => rhoN_lt hi, .new hp, fun i l h _ => ?_, fun a h1 h0 h2 => ⟨upd_ne fun z => h1 (by rw [z]; exact hp), fun i hi => ?_⟩⟩⟩
  · rw [hN] at hi hj
    unfold rhoN at e
    by_cases h1 : i = w.n <;> by_cases h2 : j = w.n
    · rw [h1, h2]
    · rw [if_pos h1, if_neg h2] at e
      exact absurd e.symm (ne j (by omega))
    · rw [if_neg h1, if_pos h2] at e
      exact absurd e (ne i (by omega))
    · rw [if_neg h1, if_neg h2] at e
      exact r.inj i j (by omega) (by omega) e
  · rw [hN]
    rw [g] at h
    by_cases h1 : i = w.n
    · omega
    · rw [if_neg h1] at h
      exact Nat.lt_succ_of_lt (r.dom i ob h)
  · rw [hN] at hi
    by_cases h1 : i = w.n
    · rw [h1, rhoN_at, upd_same]; simp
    · have : i < w.n := by omega
      rw [rhoN_lt this, upd_ne (ne i this)]
      exact r.all i this
  · rw [g] at h
    by_cases h1 : i = w.n
    · rw [if_pos h1] at h
      cases h
      rw [h1, rhoN_at]
      exact ho'
    · rw [if_neg h1] at h
      have hi := r.dom i ob h
      rw [rhoN_lt hi]
      exact (r.obj i ob h).mono (Nat.le_succ _) (fun j hj => rhoN_lt hj) (.new hp) (by rw [upd_ne (ne i hi)]) fun d e => same _ _ e
  · have hi := r.dom i _ h
    rw [g, if_neg (Nat.ne_of_lt hi)]
    exact ⟨h, by rw [upd_ne (ne i hi)]⟩
  · rw [hN] at hi
    by_cases h3 : i = w.n
    · rw [h3, rhoN_at]; exact fun z => h1 (by rw [← z]; exact hp)
    · rw [rhoN_lt (by omega)]; exact h2 i (by omega)
/-- an object that stands already gets a number -/
theorem RW.adopt (r : RW u rho w H) {p : Addr} {o : O} (hp : H p ≠ none) (hnp : ∀ i, i < w.n → rho i ≠ p) (hb : Nat.blt w.n 1000000000 = true)
    (ho' : RO u (rhoN rho w.n p) (Nat.succ w.n) H p o) : RW u (rhoN rho w.n p) (.mk (Nat.succ w.n) (w.t.put 40 w.n o)) H ∧ (∀ i, i < w.n → rhoN rho w.n p i = rho i) ∧ ∀ i l, w.get i = some l → (W.mk (Nat.succ w.n) (w.t.put 40 w.n o)).get i = some l := by
  have hn : w.n < 1000000000 := nat_blt hb
  have g : ∀ j, (W.mk (Nat.succ w.n) (w.t.put 40 w.n o)).get j = if j = w.n then some o else w.get j := fun j => W.get_put (n := w.n) (t := w.t) r.small
  have hN : (W.mk (Nat.succ w.n) (w.t.put 40 w.n o)).n = Nat.succ w.n := rfl
  refine ⟨⟨fun i j hi hj e => ?_, fun i ob h => ?_, fun i hi => ?_, fun i ob h => ?_, hn, r.tabs, (fun i hi => by
    rw [g]
    by_cases h1 : i = w.n
    · exact ⟨_, if_pos h1⟩
    · rw [if_neg h1]; exact r.full i (by have : i < Nat.succ w.n := hi; omega)), r.code, r.cl.mono (Nat.le_succ _) (fun i hi => rhoN_lt hi) (.refl _)⟩, fun i hi => rhoN_lt hi, fun i l h => ?_⟩
  · rw [hN] at hi hj
    unfold rhoN at e
    by_cases h1 : i = w.n <;> by_cases h2 : j = w.n
    · rw [h1, h2]
    · rw [if_pos h1, if_neg h2] at e
      exact absurd e.symm (hnp j (by omega))
    · rw [if_neg h1, if_pos h2] at e
      exact absurd e (hnp i (by omega))
    · rw [if_neg h1, if_neg h2] at e
      exact r.inj i j (by omega) (by omega) e
  · rw [hN]
    rw [g] at h
    by_cases h1 : i = w.n
    · omega
    · rw [if_neg h1] at h
      exact Nat.lt_succ_of_lt (r.dom i ob h)
  · rw [hN] at hi
    by_cases h1 : i = w.n
    · rw [h1, rhoN_at]; exact hp
    · have : i < w.n := by omega
      rw [rhoN_lt this]
      exact r.all i this
  · rw [g] at h
    by_cases h1 : i = w.n
    · rw [if_pos h1] at h
      cases h
      rw [h1, rhoN_at]
      exact ho'
    · rw [if_neg h1] at h
      have hi := r.dom i ob h
      rw [rhoN_lt hi]
      exact (r.obj i ob h).mono (Nat.le_succ _) (fun j hj => rhoN_lt hj) (.refl _) rfl fun d e => e
  · rw [g, if_neg (Nat.ne_of_lt (r.dom i _ h))]
    exact h
/-- a numbered object is changed -/
theorem RW.upd (r : RW u rho w H) {i : Nat} {o o' : O} {ho ho' : HO} (h : w.get i = some o) (e : H (rho i) = some ho) (wr : Wr ho) (hl : ∀ l, o ≠ .dct true l)
    (hk : RO u rho w.n (L2.upd H (rho i) ho') (rho i) o') (hl2 : ∀ l, o ≠ .ik l := by intro _ h; cases h) : RW u rho (w.set i o') (L2.upd H (rho i) ho') ∧ Ext u rho w H rho (w.set i o') (L2.upd H (rho i) ho') := by
  have hi := r.dom i _ h
  have g : ∀ j, (w.set i o').get j = if j = i then some o' else w.get j := fun j => W.get_put (n := w.n) (t := w.t) (Nat.le_trans (Nat.le_of_lt hi) r.small)
  have hN : (w.set i o').n = w.n := rfl
  have ne : ∀ j, j < w.n → j ≠ i → rho j ≠ rho i := fun j hj n e => n (r.inj j i hj hi e)
  have tp : Tups H (L2.upd H (rho i) ho') := .write e wr
  refine ⟨⟨r.inj, fun j ob hj => ?_, fun j hj => ?_, fun j ob hj => ?_, r.small, fun p hp' => TabS.write e wr (r.tabs p hp'), (fun j hj => by
    rw [g]
    by_cases h1 : j = i
    · exact ⟨_, if_pos h1⟩
    · rw [if_neg h1]; exact r.full j hj), fun p hp' => (Tups.write e wr).code _ _ (r.code p hp'), r.cl.mono (Nat.le_refl _) (fun _ _ => rfl) (.write e wr)⟩, ⟨Nat.le_refl _, fun _ _ => rfl, tp, fun j l hj kj => ?_, fun a h1 h0 h2 => ⟨upd_ne fun z => h2 i hi z.symm, h2⟩⟩⟩
  · rw [g] at hj
    by_cases q : j = i
    · rw [q]; exact hi
    · rw [if_neg q] at hj
      exact r.dom j ob hj
  · by_cases q : j = i
    · rw [q, upd_same]; simp
    · rw [upd_ne (ne j hj q)]
      exact r.all j hj
  · rw [g] at hj
    by_cases q : j = i
    · rw [if_pos q] at hj
      cases hj
      rw [q]
      exact hk
    · rw [if_neg q] at hj
      have hj' := r.dom j ob hj
      refine (r.obj j ob hj).mono (Nat.le_refl _) (fun _ _ => rfl) tp (by rw [upd_ne (ne j hj' q)]) fun d ed => ?_
      rw [upd_ne (fun z => by rw [z, e] at ed; exact wr.own _ (Option.some.inj ed))]
      exact ed
  · have q : j ≠ i := fun q => by
      rw [q, h] at hj
      cases hj
      unfold lk at kj
      split at kj
      · exact hl _ rfl
      · exact hl2 _ rfl
      · cases kj
    rw [g, if_neg q]
    exact ⟨hj, by rw [upd_ne (ne j (r.dom j _ hj) q)]⟩
/-! ### reading lists -/
theorem RW.wl (r : RW u rho w H) {i : Nat} {l : List D} (h : wl w i = some l) : ∃ vs, SqL u.K H (rho i) vs ∧ RVs u rho w.n H l vs := by
  unfold Ev.wl at h
  split at h
  · rename_i l' e
    cases h
    obtain ⟨vs, e, r⟩ := r.obj i _ e
    exact ⟨vs, .inl (.inl e), r⟩
  · rename_i l' e
    cases h
    obtain ⟨ob, vs, e, r⟩ := r.obj i _ e
    exact ⟨vs, .inl (.inr ⟨ob, e⟩), r⟩
  · cases h
/-- displays -/
theorem fits_tup : FitsN u E (fun xs H1 Q => xs.length ≤ sizeLine ∧ ∀ p, H1 p = none → Q (.ref p) (L2.upd H1 p (.tup xs))) fTup := by
  intro rho w H ds vs Q r rv q
  unfold fTup at q
  cases hb : Nat.ble ds.length 100000 with
  | false => rw [hb] at q; exact q.elim
  | true =>
    rw [hb] at q
    have hl : vs.length ≤ sizeLine := by rw [← rv.length, sizeLine_eq]; exact Nat.le_trans (Nat.le_of_ble_eq_true hb) (by decide)
    refine ⟨hl, fun p hp => ?_⟩
    obtain ⟨r', e⟩ := r.tup (o := .tup vs) hp
    exact q rho _ _ e r' (.tup (.inl (.inl upd_same)) (e.rvs rv))
theorem fits_new {Q : VK} {l : List D} {vs : List V} (r : RW u rho w H) (rv : RVs u rho w.n H l vs) (q : Post u E rho w H Q (alloc (.lst l) w)) : ∀ p, H p = none → Q (.ref p) (L2.upd H p (.lst vs)) := by
  intro p hp
  unfold alloc at q
  cases hb : Nat.blt w.n 1000000000 with
  | false => rw [hb] at q; exact q.elim
  | true =>
    rw [hb] at q
    obtain ⟨r', e⟩ := r.new (o := .lst l) (ho := .lst vs) hp hb ⟨vs, upd_same, rv.mono (Nat.le_succ _) (fun i hi => rhoN_lt hi) (.new hp)⟩ (fun _ z => by cases z)
    exact q _ _ _ e r' (.ref _ (Nat.lt_succ_self _) rhoN_at.symm)
theorem fits_lst : FitsN u E (fun xs H1 Q => xs.length ≤ sizeLine ∧ ∀ p, H1 p = none → Q (.ref p) (L2.upd H1 p (.lst xs))) fLst := by
  intro rho w H ds vs Q r rv q
  unfold fLst at q
  cases hb : Nat.ble ds.length 100000 with
  | false => rw [hb] at q; exact q.elim
  | true =>
    rw [hb] at q
    have hl : vs.length ≤ sizeLine := by rw [← rv.length, sizeLine_eq]; exact Nat.le_trans (Nat.le_of_ble_eq_true hb) (by decide)
    exact ⟨hl, fits_new r rv q⟩
/-! ### ints -/
def fI2 (g : Int → Int → D) : F2 := fun x y w => match x, y with
  | .int i, .int j => .ok (g i j) w
  | _, _ => .bad
theorem fits_int {g : Int → Int → D} {gv : Int → Int → V} (hg : ∀ i j rho n H, RV u rho n H (g i j) (gv i j)) : Fits2 u E (rI0 gv) (fI2 g) := by
  intro rho w H d v d' v' Q r rv rv' q
  cases d <;> try exact q.elim
  cases d' <;> try exact q.elim
  cases rv; cases rv'
  rename_i i j
  exact ⟨i, j, rfl, rfl, q rho H _ .refl r (hg i j _ _ _)⟩
theorem ltB_dec (i j : Int) : PySem.W.Z.ltB i j = decide (i < j) := by
  by_cases h : i < j
  · rw [decide_eq_true h]; exact (PySem.W.Z.ltB_iff i j).mpr h
  · rw [decide_eq_false h]
    cases q : PySem.W.Z.ltB i j with
    | false => rfl
    | true => exact absurd ((PySem.W.Z.ltB_iff i j).mp q) h
theorem leB_dec (i j : Int) : PySem.W.Z.leB i j = decide (i ≤ j) := by
  by_cases h : i ≤ j
  · rw [decide_eq_true h]; exact (PySem.W.Z.leB_iff i j).mpr h
  · rw [decide_eq_false h]
    cases q : PySem.W.Z.leB i j with
    | false => rfl
    | true => exact absurd ((PySem.W.Z.leB_iff i j).mp q) h
theorem eqB_dec (i j : Int) : PySem.W.Z.eqB i j = decide (i = j) := by
  by_cases h : i = j
  · rw [decide_eq_true h]; exact (PySem.W.Z.eqB_iff i j).mpr h
  · rw [decide_eq_false h]
    cases q : PySem.W.Z.eqB i j with
    | false => rfl
    | true => exact absurd ((PySem.W.Z.eqB_iff i j).mp q) h
def fLt : F2 := fI2 fun i j => .bl (PySem.W.Z.ltB i j)
def fLe : F2 := fI2 fun i j => .bl (PySem.W.Z.leB i j)
def fGt : F2 := fI2 fun i j => .bl (PySem.W.Z.ltB j i)
def fGe : F2 := fI2 fun i j => .bl (PySem.W.Z.leB j i)
def fSub : F2 := fI2 fun i j => .int (Int.sub i j)
theorem fits_lt : Fits2 u E (rI0 fun i j => .bl (decide (i < j))) fLt := fits_int fun i j _ _ _ => by rw [ltB_dec]; exact .bl _
theorem fits_le : Fits2 u E (rI0 fun i j => .bl (decide (i ≤ j))) fLe := fits_int fun i j _ _ _ => by rw [leB_dec]; exact .bl _
theorem fits_gt : Fits2 u E (rI0 fun i j => .bl (decide (j < i))) fGt := fits_int fun i j _ _ _ => by rw [ltB_dec]; exact .bl _
theorem fits_ge : Fits2 u E (rI0 fun i j => .bl (decide (j ≤ i))) fGe := fits_int fun i j _ _ _ => by rw [leB_dec]; exact .bl _
theorem fits_sub : Fits2 u E (rI0 fun i j => .int (i - j)) fSub := fits_int fun i j _ _ _ => .int _
/-! ### + -/
def fAdd : F2 := fun x y w => match x, y with
  | .int i, .int j => .ok (.int (Int.add i j)) w
  | .tup a, .tup b => bif Nat.ble (Nat.add a.length b.length) 100000 then .ok (.tup (a ++ b)) w else .bad
  | .ref i, .ref j => (match w.get i, w.get j with
    | some (.lst a), some (.lst b) => bif Nat.ble (Nat.add a.length b.length) 100000 then alloc (.lst (a ++ b)) w else .bad
    | _, _ => .bad)
  | _, _ => .bad
def rCatT0 (K : PySem.W.Frag) : R2 := fun x y H Q => ∃ a b ys, x = .ref a ∧ y = .ref b ∧ SqT K H a [] ∧ SqT K H b ys ∧ Q (.ref b) H
theorem op_catT0 : OpR X (binaryOp .Add) (rCatT0 X.K) := by
  intro pins s σ H x y v u Q I rx ry h
  obtain ⟨a, b, ys, rfl, rfl, ha, hb, q⟩ := h
  cases rx
  cases ry
  obtain ⟨its, r1, p1, _⟩ := I.tuple ha
  obtain ⟨its2, r2, p2, _⟩ := I.tuple hb
  cases r1
  obtain ⟨⟨cls, dd, data, sl⟩, ho, hc, n, hd⟩ := id p1
  obtain ⟨⟨cls2, dd2, data2, sl2⟩, ho2, hc2, n2, hd2⟩ := id p2
  simp only at hc hd hc2 hd2
  subst hc hd hc2 hd2
  exact concat_meets ⟨_, ho, rfl⟩ ⟨_, ho2, rfl⟩ noFill_tuple_add seq_tuple_add PySem.F.slot_tuple_add PySem.F.entry_tuple_add (PySem.F.args_tuple_add_2 _ _)
      (tuple_addW0 a b #[] its2.toArray n n2 dd dd2 sl sl2 rfl) ⟨ho, ho2, ⟨.ref b, H, I, rfl, q⟩⟩
def rAddA (K : PySem.W.Frag) : R2 := fun x y H Q => ((rI0 (fun i j => .int (i + j)) x y H Q ∨ rCatT K x y H Q) ∨ rCatT0 K x y H Q) ∨ rCat x y H Q
theorem op_addA : OpR X (binaryOp .Add) (rAddA X.K) := ((op_add.or op_catT).or op_catT0).or op_cat
theorem fits_add : Fits2 u E (rAddA u.K) fAdd := by
  intro rho w H d v d' v' Q r rv rv' q
  unfold fAdd at q
  split at q
  · rename_i i j
    cases rv; cases rv'
    exact .inl (.inl (.inl ⟨i, j, rfl, rfl, q rho H _ .refl r (.int _)⟩))
  · rename_i a b
    cases hb : Nat.ble (Nat.add a.length b.length) 100000 with
    | false => rw [hb] at q; exact q.elim
    | true =>
      rw [hb] at q
      have hz := Nat.le_of_ble_eq_true hb
      cases rv with
      | tup h1 r1 =>
        cases rv' with
        | tup h2 r2 =>
          have l1 := r1.length
          have l2 := r2.length
          have hz' : a.length + b.length ≤ 100000 := hz
          rename_i a1 vs1 a2 vs2
          by_cases e1 : vs1 = []
          · subst e1
            cases r1
            exact .inl (.inr ⟨a1, a2, vs2, rfl, rfl, h1, h2, q rho H _ .refl r (.tup h2 r2)⟩)
          · refine .inl (.inl (.inr ⟨a1, a2, vs1, vs2, rfl, rfl, h1, h2, e1, by rw [sizeLine_eq]; omega, fun e2 => ?_, fun _ p hp => ?_⟩))
            · subst e2
              cases r2
              refine q rho H _ .refl r (.tup h1 ?_)
              rw [List.append_nil]
              exact r1
            · obtain ⟨r', e⟩ := r.tup (o := .tup (vs1 ++ vs2)) hp
              exact q rho _ _ e r' (.tup (.inl (.inl upd_same)) (e.rvs (r1.append r2)))
  · rename_i i j
    split at q
    · rename_i a b e1 e2
      cases hb : Nat.ble (Nat.add a.length b.length) 100000 with
      | false => rw [hb] at q; exact q.elim
      | true =>
        rw [hb] at q
        cases rv with
        | ref _ hi ei =>
          cases rv' with
          | ref _ hj ej =>
            subst ei ej
            obtain ⟨vs1, f1, r1⟩ := r.lst e1
            obtain ⟨vs2, f2, r2⟩ := r.lst e2
            have l1 := r1.length
            have l2 := r2.length
            have hz' : a.length + b.length ≤ 100000 := Nat.le_of_ble_eq_true hb
            exact .inr ⟨_, _, vs1, vs2, rfl, rfl, f1, f2, by rw [sizeLine_eq]; omega, fits_new r (r1.append r2) q⟩
    · exact q.elim
  · exact q.elim
end
end Ev

set_option Elab.async false
set_option linter.all false
set_option maxRecDepth 100000
set_option maxHeartbeats 4000000
/-! EvP: ==, in, len, subscripts, slices, isinstance. -/
namespace Ev
open PySem PySem.Spec PyProof.Rows L2
section
variable {X : Cx} {u : U} {E : XK} {rho : Nat → Addr} {w : W} {H : Hp}
/-! ### == -/
def lnEq : List Nat → List Nat → Bool
  | [], [] => true
  | a :: r, b :: t => bif Nat.beq a b then lnEq r t else false
  | _, _ => false
theorem lnEq_iff : ∀ a b : List Nat, lnEq a b = decide (a = b)
  | [], [] => rfl
  | [], _ :: _ => rfl
  | _ :: _, [] => rfl
  | a :: r, b :: t => by
    show (bif Nat.beq a b then lnEq r t else false) = _
    rw [lnEq_iff r t]
    by_cases h : a = b
    · subst h
      rw [Nat.beq_refl]
      by_cases q : r = t
      · subst q; simp
      · simp [q]
    · have e : Nat.beq a b = false := by cases q : Nat.beq a b with | false => rfl | true => exact absurd (nat_beq q) h
      rw [e]; simp [h]
theorem str_eq {x y : Str} {s t : List Nat} (hx : x.cps.toList = s) (hy : y.cps.toList = t) : decide (x = y) = decide (s = t) := by
  have : x = y ↔ s = t := by
    constructor
    · rintro rfl; exact hx.symm.trans hy
    · intro e
      have : x.cps.toList = y.cps.toList := hx.trans (e.trans hy.symm)
      cases x; cases y
      simp only [Str.mk.injEq]
      exact Array.toList_inj.mp this
  simp [this]
/-- == of two scalars, where the plain rule serves -/
def sEq : D → D → Option Bool
  | .int a, .int b => some (PySem.W.Z.eqB a b)
  | .str a, .str b => some (lnEq a b)
  | .non, .non => some true
  | .non, .int _ => some false
  | .int _, .non => some false
  | .non, .str _ => some false
  | .str _, .non => some false
  | .int _, .str _ => some false
  | .str _, .int _ => some false
  | .bl a, .bl b => some (bif a then b else bif b then false else true)
  | .non, .bl _ => some false
  | .bl _, .non => some false
  | .bl _, .str _ => some false
  | .str _, .bl _ => some false
  | _, _ => none
theorem sEq_ok {n : Nat} {d d' : D} {v v' : V} {b : Bool} (h : sEq d d' = some b) (rv : RV u rho n H d v) (rv' : RV u rho n H d' v') : scal v v' = true ∧ b = decide (v = v') := by
  unfold sEq at h
  split at h <;> (try cases h) <;> cases rv <;> cases rv' <;> refine ⟨rfl, ?_⟩
  case h_1 => rw [eqB_dec]; simp
  case h_2 => rename_i x hx y hy; rw [lnEq_iff, ← str_eq hx hy]; simp
  case h_10 => rename_i a b; cases a <;> cases b <;> rfl
  all_goals first | rfl | exact (decide_eq_false (fun z => by cases z)).symm
/-- plain data of a value -/
def toPs (f : D → Option PyData) : List D → Option (List PyData)
  | [] => some []
  | d :: r => match f d, toPs f r with
    | some x, some xs => some (x :: xs)
    | _, _ => none
def toP : Nat → W → D → Option PyData
  | 0, _, _ => none
  | k + 1, w, d => match d with
    | .non => some .none
    | .bl b => some (.bool b)
    | .int i => some (.int i)
    | .str s => some (.str ⟨s.toArray⟩)
    | .tup l => (toPs (toP k w) l).map .tuple
    | .ref i => (match wl w i with
      | some l => (toPs (toP k w) l).map .list
      | none => none)
    | _ => none
theorem str_of {x : Str} {s : List Nat} (h : x.cps.toList = s) : x = ⟨s.toArray⟩ := by
  cases x
  simp only [Str.mk.injEq]
  rw [← h]
theorem toP_go {k : Nat} (ih : ∀ d v p, toP k w d = some p → RV u rho w.n H d v → Dp u.K H v p) : ∀ (l : List D) (vs : List V) (ps : List PyData), toPs (toP k w) l = some ps → RVs u rho w.n H l vs → DpAll u.K H vs ps
  | [], _, _, h, .nil => by
    simp only [toPs, Option.some.injEq] at h
    subst h
    exact .nil
  | d :: r, _, _, h, .cons a b => by
    simp only [toPs] at h
    split at h
    · rename_i x xs h1 h2
      cases h
      exact .cons (ih _ _ _ h1 a) (toP_go ih r _ _ h2 b)
    · cases h
theorem toP_ok (r : RW u rho w H) : ∀ (k : Nat) (d : D) (v : V) (p : PyData), toP k w d = some p → RV u rho w.n H d v → Dp u.K H v p
  | 0, _, _, _, h, _ => by simp [toP] at h
  | k + 1, d, v, p, h, rv => by
    unfold toP at h
    cases rv with
    | non => cases h; exact .non
    | bl b => cases h; exact .bl b
    | int i => cases h; exact .int i
    | str x hx => cases h; rw [str_of hx]; exact .str _
    | tup hq hr =>
      dsimp only at h
      cases e : toPs (toP k w) _ with
      | none => rw [e] at h; cases h
      | some ps => rw [e] at h; cases h; exact .tup hq (toP_go (toP_ok r k) _ _ _ e hr)
    | ref i hi ha =>
      dsimp only at h
      cases e0 : wl w i with
      | none => rw [e0] at h; cases h
      | some l =>
        rw [e0] at h
        dsimp only at h
        obtain ⟨vs, hs, hr⟩ := r.wl e0
        cases e : toPs (toP k w) l with
        | none => rw [e] at h; cases h
        | some ps => rw [e] at h; cases h; subst ha; exact .lst hs (toP_go (toP_ok r k) _ _ _ e hr)
    | kd k e => cases h
    | ty k => cases h
    | cls c e => cases h
/-- == of data; the answer as a function of what == says -/
def fEqB (g : Bool → Bool) : F2 := fun x y w => match sEq x y with
  | some b => .ok (.bl (g b)) w
  | none => (match toP 64 w x, toP 64 w y with
    | some p, some q => bif (bif SeqAt.shaped p then SeqAt.shaped q else false) then .ok (.bl (g (PyData.eqv p q))) w else .bad
    | _, _ => .bad)
def fEq : F2 := fEqB fun b => b
def fNe : F2 := fEqB fun b => bif b then false else true
theorem bif_and {a b : Bool} (h : (bif a then b else false) = true) : a = true ∧ b = true := by cases a <;> cases b <;> simp_all
theorem fits_eq (hu : X.A.units + 64 < cLine) : ∃ r, OpR X (compareOp .Eq) r ∧ (X.K = u.K → Fits2 u E r fEq) := by
  refine ⟨_, op_eq.or (op_eqD hu), fun hK rho w H d v d' v' Q r rv rv' q => ?_⟩
  rw [hK]
  unfold fEq fEqB at q
  split at q
  · rename_i b e
    obtain ⟨h1, h2⟩ := sEq_ok e rv rv'
    subst h2
    exact .inl ⟨h1, q rho H _ .refl r (.bl _)⟩
  · split at q
    · rename_i p p' e1 e2
      cases hb : (bif SeqAt.shaped p then SeqAt.shaped p' else false) with
      | false => rw [hb] at q; exact q.elim
      | true =>
        rw [hb] at q
        obtain ⟨s1, s2⟩ := bif_and hb
        exact .inr ⟨p, p', toP_ok r _ _ _ _ e1 rv, toP_ok r _ _ _ _ e2 rv', s1, s2, q rho H _ .refl r (.bl _)⟩
    · exact q.elim
theorem fits_ne (hu : X.A.units + 64 < cLine) : ∃ r, OpR X (compareOp .NotEq) r ∧ (X.K = u.K → Fits2 u E r fNe) := by
  refine ⟨_, op_ne.or (op_neD hu), fun hK rho w H d v d' v' Q r rv rv' q => ?_⟩
  rw [hK]
  unfold fNe fEqB at q
  have nn : ∀ b : Bool, (bif b then false else true) = !b := by intro b; cases b <;> rfl
  split at q
  · rename_i b e
    obtain ⟨h1, h2⟩ := sEq_ok e rv rv'
    subst h2
    dsimp only at q
    rw [nn] at q
    exact .inl ⟨h1, q rho H _ .refl r (.bl _)⟩
  · split at q
    · rename_i p p' e1 e2
      cases hb : (bif SeqAt.shaped p then SeqAt.shaped p' else false) with
      | false => rw [hb] at q; exact q.elim
      | true =>
        rw [hb] at q
        obtain ⟨s1, s2⟩ := bif_and hb
        dsimp only [cond_true] at q
        rw [nn] at q
        exact .inr ⟨p, p', toP_ok r _ _ _ _ e1 rv, toP_ok r _ _ _ _ e2 rv', s1, s2, q rho H _ .refl r (.bl _)⟩
    · exact q.elim
/-! ### is None -/
def isNon : D → Bool
  | .non => true
  | _ => false
theorem isNon_ok {n : Nat} {d : D} {v : V} (rv : RV u rho n H d v) : isNon d = decide (v = .non) := by cases rv <;> simp [isNon]
def fIsN : F1 := fun x w => .ok (.bl (isNon x)) w
def fNotN : F1 := fun x w => .ok (.bl (bif isNon x then false else true)) w
theorem fits_isN : Fits1 u E (fun x H Q => Q (.bl (decide (x = .non))) H) fIsN := fun rho w H d v Q r rv q => q rho H _ .refl r (by rw [isNon_ok rv]; exact .bl _)
theorem fits_notN : Fits1 u E (fun x H Q => Q (.bl (!decide (x = .non))) H) fNotN := fun rho w H d v Q r rv q => q rho H _ .refl r (by
  have nn : ∀ b : Bool, (bif b then false else true) = !b := by intro b; cases b <;> rfl
  rw [isNon_ok rv, nn]; exact .bl _)
/-! ### in, flat items -/
def flatD : D → Bool
  | .non => true
  | .bl _ => true
  | .int _ => true
  | .str _ => true
  | _ => false
def feq : D → D → Bool
  | .int a, .int b => PySem.W.Z.eqB a b
  | .str a, .str b => lnEq a b
  | .non, .non => true
  | .bl a, .bl b => bif a then b else bif b then false else true
  | .bl a, .int b => PySem.W.Z.eqB (bif a then 1 else 0) b
  | .int a, .bl b => PySem.W.Z.eqB a (bif b then 1 else 0)
  | _, _ => false
theorem flat_ok {n : Nat} {d : D} {v : V} (rv : RV u rho n H d v) : flatV v = flatD d := by cases rv <;> rfl
theorem feq_ok {n : Nat} {d d' : D} {v v' : V} (rv : RV u rho n H d v) (rv' : RV u rho n H d' v') (f : flatD d = true) (f' : flatD d' = true) : eqV v v' = feq d d' := by
  cases rv <;> (try (exact absurd f Bool.false_ne_true)) <;> cases rv' <;> (try (exact absurd f' Bool.false_ne_true)) <;> (try rfl)
  · rename_i a b; cases a <;> cases b <;> rfl
  · rename_i a b
    show ((if a then 1 else 0) == b) = PySem.W.Z.eqB _ _
    rw [eqB_dec]; cases a <;> simp [Bool.beq_eq_decide_eq]
  · rename_i a b
    show (a == (if b then 1 else 0)) = PySem.W.Z.eqB _ _
    rw [eqB_dec]; cases b <;> simp [Bool.beq_eq_decide_eq]
  · rename_i a b
    show (a == b) = PySem.W.Z.eqB _ _
    rw [eqB_dec]; simp [Bool.beq_eq_decide_eq]
  · rename_i x s hx y t hy
    show (x == y) = lnEq _ _
    rw [lnEq_iff, ← str_eq hx hy]
    simp [Bool.beq_eq_decide_eq]
/-- is an equal item among flat ones; none: an item is not flat -/
def memF (x : D) : List D → Option Bool
  | [] => some false
  | d :: r => bif flatD d then (match memF x r with
    | some b => some (bif feq d x then true else b)
    | none => none) else none
theorem memF_ok {n : Nat} {x : D} {v : V} (rx : RV u rho n H x v) (fx : flatD x = true) : ∀ {l : List D} {vs : List V} {b : Bool}, RVs u rho n H l vs → memF x l = some b → vs.all flatV = true ∧ inV v vs = b
  | _, _, _, .nil, h => by cases h; exact ⟨rfl, rfl⟩
  | d :: r, _, b, .cons a t, h => by
    unfold memF at h
    cases hf : flatD d with
    | false => rw [hf] at h; cases h
    | true =>
      rw [hf] at h
      dsimp only [cond_true] at h
      cases e : memF x r with
      | none => rw [e] at h; cases h
      | some b' =>
        rw [e] at h
        cases h
        obtain ⟨h1, h2⟩ := memF_ok rx fx t e
        refine ⟨?_, ?_⟩
        · rw [List.all_cons, h1, flat_ok a, hf]; rfl
        · unfold inV at h2 ⊢
          rw [List.any_cons, feq_ok a rx hf fx, h2]
          cases feq d x <;> rfl
def fInB (g : Bool → Bool) : F2 := fun x y w => bif flatD x then (match y with
    | .tup l => (match memF x l with
      | some b => .ok (.bl (g b)) w
      | none => .bad)
    | .ref i => (match wl w i with
      | some l => (match memF x l with
        | some b => .ok (.bl (g b)) w
        | none => .bad)
      | none => .bad)
    | _ => .bad) else .bad
def fIn : F2 := fInB fun b => b
def fNotIn : F2 := fInB fun b => bif b then false else true
theorem fits_in_core {g : Bool → Bool} {neg : Bool} (hg : ∀ b, (if neg then !b else b) = g b) : Fits2 u E (rIn u.K neg) (fInB g) := by
  intro rho w H d v d' v' Q r rv rv' q
  unfold fInB at q
  cases hf : flatD d with
  | false => rw [hf] at q; exact q.elim
  | true =>
    rw [hf] at q
    dsimp only [cond_true] at q
    have fv : flatV v = true := (flat_ok rv).trans hf
    cases rv' with
    | tup hq hr =>
      rename_i l a vs
      dsimp only at q
      cases e : memF d l with
      | none => rw [e] at q; exact q.elim
      | some b =>
        rw [e] at q
        obtain ⟨h1, h2⟩ := memF_ok rv hf hr e
        refine ⟨a, vs, rfl, .inr hq, fv, h1, ?_⟩
        rw [h2]
        have := q rho H (.bl (g b)) .refl r (.bl _)
        rw [← hg] at this
        cases neg <;> exact this
    | ref i hi ha =>
      dsimp only at q
      cases e0 : wl w i with
      | none => rw [e0] at q; exact q.elim
      | some l =>
        rw [e0] at q
        dsimp only at q
        obtain ⟨vs, hs, hr⟩ := r.wl e0
        cases e : memF d l with
        | none => rw [e] at q; exact q.elim
        | some b =>
          rw [e] at q
          obtain ⟨h1, h2⟩ := memF_ok rv hf hr e
          subst ha
          refine ⟨_, vs, rfl, .inl hs, fv, h1, ?_⟩
          rw [h2]
          have := q rho H (.bl (g b)) .refl r (.bl _)
          rw [← hg] at this
          cases neg <;> exact this
    | _ => exact q.elim
theorem fits_in : Fits2 u E (rIn u.K false) fIn := fits_in_core fun b => rfl
theorem fits_notIn : Fits2 u E (rIn u.K true) fNotIn := fits_in_core fun b => by cases b <;> rfl
/-! ### len -/
def fLen : FN := fun ds w => match ds with
  | [.tup l] => .ok (.int (Int.ofNat l.length)) w
  | [.ref i] => (match wl w i with
    | some l => .ok (.int (Int.ofNat l.length)) w
    | none => .bad)
  | _ => .bad
theorem fits_len : FitsN u E (fun xs H Q => ∃ p ys, xs = [.ref p] ∧ (SqL u.K H p ys ∨ SqT u.K H p ys) ∧ Q (.int ys.length) H) fLen := by
  intro rho w H ds vs Q r rv q
  unfold fLen at q
  split at q
  · cases rv with
    | cons a b =>
      cases b
      cases a with
      | tup hq hr => exact ⟨_, _, rfl, .inr hq, q rho H _ .refl r (by rw [hr.length]; exact .int _)⟩
  · cases rv with
    | cons a b =>
      cases b
      cases a with
      | ref i hi ha =>
        split at q
        · rename_i l e
          obtain ⟨vs, hs, hr⟩ := r.wl e
          subst ha
          exact ⟨_, vs, rfl, .inl hs, q rho H _ .refl r (by rw [hr.length]; exact .int _)⟩
        · exact q.elim
  · exact q.elim
/-! ### subscripts -/
def dAt : List D → Int → Option D
  | l, .ofNat k => (fun (l : List D) (k : Nat) => l[k]?) l k
  | l, .negSucc k => bif Nat.blt k l.length then l[Nat.sub l.length (Nat.succ k)]? else none
theorem dAt_ok {n : Nat} {l : List D} {vs : List V} (rv : RVs u rho n H l vs) {i : Int} {d : D} (h : dAt l i = some d) : ∃ v, atI vs i = some v ∧ RV u rho n H d v := by
  have hl := rv.length
  cases i with
  | ofNat k =>
    have h' : l[k]? = some d := h
    obtain ⟨v, h1, h2⟩ := rv.get h'
    exact ⟨v, atI_nat h1, h2⟩
  | negSucc k =>
    have h' : (bif Nat.blt k l.length then l[Nat.sub l.length (Nat.succ k)]? else none) = some d := h
    cases hb : Nat.blt k l.length with
    | false => rw [hb] at h'; cases h'
    | true =>
      rw [hb] at h'
      have hk := nat_blt hb
      obtain ⟨v, h1, h2⟩ := rv.get (show l[l.length - (k + 1)]? = some d from h')
      refine ⟨v, ?_, h2⟩
      unfold atI ixN
      have e1 : ¬ (0 ≤ Int.negSucc k) := by omega
      have e2 : -(vs.length : Int) ≤ Int.negSucc k := by omega
      rw [if_neg e1, if_pos e2]
      have e3 : (Int.negSucc k + (vs.length : Int)).toNat = l.length - (k + 1) := by omega
      show vs[(Int.negSucc k + (vs.length : Int)).toNat]? = some v
      rw [e3]
      exact h1
def fIx : F2 := fun x y w => match y with
  | .int i => (match x with
    | .tup l => (match dAt l i with
      | some d => .ok d w
      | none => .bad)
    | .ref r => (match wl w r with
      | some l => (match dAt l i with
        | some d => .ok d w
        | none => .bad)
      | none => .bad)
    | _ => .bad)
  | _ => .bad
theorem fits_ix : Fits2 u E (fun x y H Q => rIxL u.K x y H Q ∨ rIxT u.K x y H Q) fIx := by
  intro rho w H d v d' v' Q r rv rv' q
  unfold fIx at q
  cases rv' with
  | int i =>
    dsimp only at q
    cases rv with
    | tup hq hr =>
      dsimp only at q
      split at q
      · rename_i d e
        obtain ⟨v, h1, h2⟩ := dAt_ok hr e
        exact .inr ⟨_, _, i, v, rfl, rfl, hq, h1, q rho H _ .refl r h2⟩
      · exact q.elim
    | ref k hi ha =>
      dsimp only at q
      split at q
      · rename_i l e0
        obtain ⟨vs, hs, hr⟩ := r.wl e0
        split at q
        · rename_i d e
          obtain ⟨v, h1, h2⟩ := dAt_ok hr e
          subst ha
          exact .inl ⟨_, _, i, v, rfl, rfl, hs, h1, q rho H _ .refl r h2⟩
        · exact q.elim
      · exact q.elim
    | _ => exact q.elim
  | _ => exact q.elim
/-! ### slices a[lo:hi] -/
def dCut (l : List D) (lo hi : Option Int) : List D := (l.drop (HT.sIx l.length 0 lo)).take (HT.sIx l.length l.length hi - HT.sIx l.length 0 lo)
theorem dCut_ok {n : Nat} {l : List D} {vs : List V} (rv : RVs u rho n H l vs) (lo hi : Option Int) : RVs u rho n H (dCut l lo hi) (cutV vs lo hi) := by
  unfold dCut cutV
  rw [rv.length]
  exact (rv.drop _).take _
def optI : Option D → Option (Option Int)
  | none => some none
  | some (.int i) => some (some i)
  | _ => none
end
end Ev

set_option Elab.async false
set_option linter.all false
set_option maxRecDepth 100000
set_option maxHeartbeats 4000000
/-! EvI: what is walked; for, while; list comprehensions. -/
namespace Ev
open PySem PySem.Spec PyProof.Rows L2
open RZ
theorem PI_or {X : Cx} {tg e : Expr} {a b : TI} (ha : PI X tg e a) (hb : PI X tg e b) : PI X tg e (fun σ H R => a σ H R ∨ b σ H R) := ⟨fun pins s σ H R I h => h.elim (fun h => ha.run pins s σ H R I h) (fun h => hb.run pins s σ H R I h)⟩
theorem PI_imp {X : Cx} {tg e : Expr} {t t' : TI} (h : PI X tg e t) (hi : ∀ σ H R, t' σ H R → t σ H R) : PI X tg e t' := ⟨fun pins s σ H R I q => h.run pins s σ H R I (hi σ H R q)⟩
section
variable {X : Cx} {u : U} {E : XK} {rho : Nat → Addr} {w : W} {H : Hp} {s : S} {σ : L2.St} {tg e a b : Expr} {es : List Expr} {ma mb : M} {mas : MA}
def RIt (u : U) (rho : Nat → Addr) (w : W) (H : Hp) (it : I) (J : It) : Prop := ∀ rho' w' H' i, Ext0 u rho w H rho' w' H' → RW u rho' w' H' → match it.at w' i with
  | .it d => J.go i H' ∧ ∀ x H2, J.yld i H' x H2 → RW u rho' w' H2 ∧ Ext u rho' w' H' rho' w' H2 ∧ RV u rho' w'.n H2 d x
  | .stop => J.stop i H'
  | .bad => True
/-- behind the walk -/
def RDone (u : U) (rho : Nat → Addr) (w : W) (H : Hp) (rho1 : Nat → Addr) (w1 : W) (H1 : Hp) (it : I) : Prop := ∀ rho' w' H', Ext u rho w H rho' w' H' → Ext u rho1 w1 H1 rho' w' H' → RW u rho' w' H' → RW u rho' (it.done w') H' ∧ Ext u rho w H rho' (it.done w') H' ∧ (it.done w').n = w'.n
def PostI (u : U) (E : XK) (rho : Nat → Addr) (w : W) (H : Hp) (R : It → Hp → Prop) : RI → Prop
  | .ok it w' => ∀ rho' H' J, Ext u rho w H rho' w' H' → RW u rho' w' H' → RIt u rho' w' H' it J → RDone u rho w H rho' w' H' it → R J H'
  | .ex c p w' => PostX u E rho w H c p w'
  | .bad => False
def tMI (u : U) (E : XK) (mi : MI) : TI := fun σ H R => ∃ rho s w, RW u rho w H ∧ SS u rho w.n H s σ ∧ PostI u E rho w H R (mi s w)
theorem rdone_id {it : I} {rho1 : Nat → Addr} {w1 : W} {H1 : Hp} (h : ∀ w, it.done w = w := by intro _; rfl) : RDone u rho w H rho1 w1 H1 it := fun rho' w' H' e _ r => by rw [h]; exact ⟨r, e, rfl⟩
theorem lat_it : ∀ {l : List D} {i : Nat} {d : D}, lat l i = .it d → l[i]? = some d
  | [], _, _, h => by cases h
  | x :: _, 0, d, h => by cases h; rfl
  | _ :: r, i + 1, d, h => lat_it (l := r) h
theorem lat_stop : ∀ {l : List D} {i : Nat}, lat l i = .stop → l.length ≤ i
  | [], _, _ => Nat.zero_le _
  | _ :: _, 0, h => by cases h
  | _ :: r, i + 1, h => Nat.succ_le_succ (lat_stop (l := r) h)
theorem lat_bad : ∀ {l : List D} {i : Nat}, lat l i ≠ .bad
  | [], _, h => by cases h
  | _ :: _, 0, h => by cases h
  | _ :: r, i + 1, h => lat_bad (l := r) h
/-- a list or a tuple -/
def iSeq (ma : M) : MI := fun s w => match ma s w with
  | .ok (.ref r) w1 => (match wl w1 r with
    | some _ => .ok (.lst r) w1
    | none => .bad)
  | .ok (.tup l) w1 => .ok (.tup l) w1
  | .ex c p w1 => .ex c p w1
  | _ => .bad
theorem rit_lst (r : RW u rho w H) {k : Nat} (hk : k < w.n) : RIt u rho w H (.lst k) (Itl u.K (rho k)) := by
  intro rho' w' H' i e r'
  unfold I.at
  cases e0 : wl w' k with
  | none => exact True.intro
  | some l =>
    obtain ⟨vs, hs, hr⟩ := r'.wl e0
    rw [e.rh k hk] at hs
    dsimp only
    cases q : lat l i with
    | it d =>
      obtain ⟨v, h1, h2⟩ := hr.get (lat_it q)
      exact ⟨⟨vs, v, hs, h1⟩, fun x H2 ⟨eH, hx⟩ => by
        subst eH
        have e1 := hx vs hs
        rw [h1] at e1; cases e1
        exact ⟨r', .refl, h2⟩⟩
    | stop => exact ⟨vs, hs, by rw [← hr.length]; exact lat_stop q⟩
    | bad => exact True.intro
theorem SqT.inj {K : PySem.W.Frag} {H : Hp} {a : Addr} {xs ys : List V} (I : Rd H a (.tup xs)) (h : SqT K H a ys) (hk : K.lookup a = none ∨ True) : True := True.intro
theorem rit_tup {l : List D} {a : Addr} {vs : List V} (hq : SqT u.K H a vs) (hr : RVs u rho w.n H l vs) (hu : ∀ H' ys, Tups H H' → SqT u.K H' a ys → ys = vs ∨ ys ≠ vs) : ∀ rho' w' H' i, Ext0 u rho w H rho' w' H' → RW u rho' w' H' → match (I.tup l).at w' i with
  | .it d => (Itt u.K a).go i H' ∧ ∃ v, vs[i]? = some v ∧ RV u rho' w'.n H' d v ∧ SqT u.K H' a vs
  | .stop => (Itt u.K a).stop i H'
  | .bad => True := by
  intro rho' w' H' i e r'
  have hq' := e.tups.sqT hq
  have hr' := e.rvs hr
  show match lat l i with | .it d => _ | .stop => _ | .bad => _
  cases q : lat l i with
  | it d =>
    obtain ⟨v, h1, h2⟩ := hr'.get (lat_it q)
    exact ⟨⟨vs, v, hq', h1⟩, v, h1, h2, hq'⟩
  | stop => exact ⟨vs, hq', by rw [← hr.length]; exact lat_stop q⟩
  | bad => exact True.intro
theorem rit_tup' {l : List D} {a : Addr} {vs : List V} (hq : SqT u.K H a vs) (hr : RVs u rho w.n H l vs) : RIt u rho w H (.tup l) (Itt u.K a) := by
  intro rho' w' H' i e r'
  have h := rit_tup hq hr (fun _ ys _ _ => Classical.em (ys = vs)) rho' w' H' i e r'
  revert h
  cases (I.tup l).at w' i with
  | it d =>
    intro ⟨g, v, h1, h2, h3⟩
    exact ⟨g, fun x H2 ⟨eH, hx⟩ => by
      subst eH
      have e1 := hx vs h3
      rw [h1] at e1; cases e1
      exact ⟨r', .refl, h2⟩⟩
  | stop => exact id
  | bad => exact id
theorem si_seq (h1 : PI X tg e (iList u.K (tM u E ma))) (h2 : PI X tg e (iTup u.K (tM u E ma))) : PI X tg e (tMI u E (iSeq ma)) := by
  refine PI_imp (PI_or h1 h2) fun σ H R ⟨rho, s, w, r, Z, q⟩ => ?_
  unfold iSeq at q
  cases em : ma s w with
  | ok d w1 =>
    rw [em] at q
    cases d with
    | ref k =>
      dsimp only at q
      refine .inl (tM_then r Z ?_)
      rw [em]
      intro rho1 H1 v e1 r1 Z1 rv
      cases rv with
      | ref _ hi ha =>
        cases e0 : wl w1 k with
        | none => rw [e0] at q; exact q.elim
        | some l =>
          rw [e0] at q
          obtain ⟨vs, hs, hr⟩ := r1.wl e0
          subst ha
          exact ⟨_, rfl, ⟨vs, hs⟩, q rho1 H1 _ e1 r1 (rit_lst r1 hi) rdone_id⟩
    | tup l =>
      dsimp only at q
      refine .inr (tM_then r Z ?_)
      rw [em]
      intro rho1 H1 v e1 r1 Z1 rv
      cases rv with
      | tup hq hr => exact ⟨_, rfl, ⟨_, hq⟩, q rho1 H1 _ e1 r1 (rit_tup' hq hr) rdone_id⟩
    | _ => exact q.elim
  | ex c p w1 =>
    rw [em] at q
    refine .inl (tM_then r Z ?_)
    rw [em]
    exact q
  | bad => rw [em] at q; exact q.elim
/-- range(..) -/
def okR (i : Int) : Bool := bif PySem.W.Z.leB (-4611686018427387904) i then PySem.W.Z.ltB i 4611686018427387904 else false
theorem okR_ok {i : Int} (h : okR i = true) : -(2 ^ 62) ≤ i ∧ i < 2 ^ 62 := by
  obtain ⟨h1, h2⟩ := bif_and h
  have a := (PySem.W.Z.leB_iff _ _).mp h1
  have b := (PySem.W.Z.ltB_iff _ _).mp h2
  constructor <;> omega
def iRange (mas : MA) : MI := fun s w => match mas s w with
  | .ok [.int j] w1 => bif okR j then .ok (.rng 0 j.toNat) w1 else .bad
  | .ok [.int i, .int j] w1 => bif (bif okR i then okR j else false) then .ok (.rng i (Int.sub j i).toNat) w1 else .bad
  | .ex c p w1 => .ex c p w1
  | _ => .bad
theorem rit_rng (lo : Int) (n : Nat) : RIt u rho w H (.rng lo n) (Itr lo n) := by
  intro rho' w' H' i e r'
  show match (bif Nat.blt i n then IR.it (.int (Int.add lo (Int.ofNat i))) else .stop) with | .it d => _ | .stop => _ | .bad => _
  cases hb : Nat.blt i n with
  | true => exact ⟨nat_blt hb, fun x H2 ⟨eH, hx⟩ => by subst eH hx; exact ⟨r', .refl, .int _⟩⟩
  | false =>
    show n ≤ i
    by_cases h : i < n
    · have : Nat.blt i n = true := Nat.ble_eq_true_of_le h
      rw [this] at hb; cases hb
    · omega
theorem si_range1 (h : PI X tg e (iRng1 (tMA u E mas))) (hl : ∀ s w, ∀ ds w1, mas s w = .ok ds w1 → ds.length = 1) : PI X tg e (tMI u E (iRange mas)) := by
  refine PI_imp h fun σ H R ⟨rho, s, w, r, Z, q⟩ => ?_
  refine tMA_then r Z ?_
  unfold iRange at q
  cases em : mas s w with
  | ok ds w1 =>
    rw [em] at q
    have hd := hl s w ds w1 em
    intro rho1 H1 vs e1 r1 Z1 rv
    match ds, hd, rv, q with
    | [d], _, .cons (v := v) a .nil, q =>
      cases d with
      | int j =>
        cases a
        dsimp only at q
        cases hb : okR j with
        | false => rw [hb] at q; exact q.elim
        | true =>
          rw [hb] at q
          obtain ⟨h1, h2⟩ := okR_ok hb
          exact ⟨j, rfl, h1, h2, q rho1 H1 _ e1 r1 (rit_rng _ _) rdone_id⟩
      | _ => exact q.elim
  | ex c p w1 => rw [em] at q; exact q
  | bad => rw [em] at q; exact q.elim
theorem si_range2 (h : PI X tg e (iRng2 (tMA u E mas))) (hl : ∀ s w, ∀ ds w1, mas s w = .ok ds w1 → ds.length = 2) : PI X tg e (tMI u E (iRange mas)) := by
  refine PI_imp h fun σ H R ⟨rho, s, w, r, Z, q⟩ => ?_
  refine tMA_then r Z ?_
  unfold iRange at q
  cases em : mas s w with
  | ok ds w1 =>
    rw [em] at q
    have hd := hl s w ds w1 em
    intro rho1 H1 vs e1 r1 Z1 rv
    match ds, hd, rv, q with
    | [d, d2], _, .cons (v := v) a (.cons (v := v2) b .nil), q =>
      cases d with
      | int i =>
        cases d2 with
        | int j =>
          cases a; cases b
          dsimp only at q
          cases hb : (bif okR i then okR j else false) with
          | false => rw [hb] at q; exact q.elim
          | true =>
            rw [hb] at q
            obtain ⟨g1, g2⟩ := bif_and hb
            obtain ⟨h1, h2⟩ := okR_ok g1
            obtain ⟨h3, h4⟩ := okR_ok g2
            exact ⟨i, j, rfl, ⟨h1, h2, h3, h4⟩, q rho1 H1 _ e1 r1 (rit_rng _ _) rdone_id⟩
        | _ => exact q.elim
      | _ => exact q.elim
  | ex c p w1 => rw [em] at q; exact q
  | bad => rw [em] at q; exact q.elim
theorem args_len : ∀ {ms : List M} {s : S} {w : W} {ds : List D} {w1 : W}, (ms.foldr aCons aNil) s w = .ok ds w1 → ds.length = ms.length
  | [], s, w, ds, w1, h => by cases h; rfl
  | m :: ms, s, w, ds, w1, h => by
    have h' : aCons m (ms.foldr aCons aNil) s w = .ok ds w1 := h
    unfold aCons at h'
    split at h'
    · split at h'
      · rename_i xs w2 e2
        cases h'
        rw [List.length_cons, List.length_cons, args_len e2]
      · cases h'
      · cases h'
    · cases h'
    · cases h'
/-- zip(x, y), enumerate(x) -/
def asI (w : W) : D → Option I
  | .ref r => (match wl w r with
    | some _ => some (.lst r)
    | none => none)
  | .tup l => some (.tup l)
  | _ => none
def iZipM (mas : MA) : MI := fun s w => match mas s w with
  | .ok [.ref r, .ref k] w1 => (match wl w1 r, wl w1 k with
    | some _, some _ => .ok (.zip (.lst r) (.lst k)) w1
    | _, _ => .bad)
  | .ok [.tup l, .tup m] w1 => .ok (.zip (.tup l) (.tup m)) w1
  | .ex c p w1 => .ex c p w1
  | _ => .bad
theorem rit_zipL (r : RW u rho w H) {j k : Nat} (hj : j < w.n) (hk : k < w.n) : RIt u rho w H (.zip (.lst j) (.lst k)) (Itz u.K (rho j) (rho k)) := by
  intro rho' w' H' i e r'
  show match (match (I.lst j).at w' i, (I.lst k).at w' i with | .it x, .it y => IR.it (.tup [x, y]) | .it _, .stop => .stop | .stop, .it _ => .stop | .stop, .stop => .stop | _, _ => .bad) with | .it d => _ | .stop => _ | .bad => _
  unfold I.at
  cases e1 : wl w' j with
  | none => exact True.intro
  | some l =>
    cases e2 : wl w' k with
    | none => dsimp only; cases lat l i <;> exact True.intro
    | some l2 =>
      obtain ⟨vs, hs, hr⟩ := r'.wl e1
      rw [e.rh j hj] at hs
      obtain ⟨vs2, hs2, hr2⟩ := r'.wl e2
      rw [e.rh k hk] at hs2
      dsimp only
      cases q : lat l i with
      | it d =>
        obtain ⟨v, h1, h2⟩ := hr.get (lat_it q)
        cases q2 : lat l2 i with
        | it d2 =>
          obtain ⟨v2, g1, g2⟩ := hr2.get (lat_it q2)
          refine ⟨⟨vs, vs2, v, v2, hs, hs2, h1, g1⟩, fun x H2 ⟨T, y, y2, ex, hT, eH, a1, a2⟩ => ?_⟩
          subst ex eH
          have b1 := a1 vs hs
          have b2 := a2 vs2 hs2
          rw [h1] at b1; cases b1
          rw [g1] at b2; cases b2
          obtain ⟨r2, e2⟩ := r'.tup (o := .tup [v, v2]) hT
          exact ⟨r2, e2, .tup (.inl (.inl upd_same)) (.cons (e2.rv h2) (.cons (e2.rv g2) .nil))⟩
        | stop => exact ⟨vs, vs2, hs, hs2, .inr (by rw [← hr2.length]; exact lat_stop q2)⟩
        | bad => exact True.intro
      | stop =>
        cases q2 : lat l2 i with
        | it d2 => exact ⟨vs, vs2, hs, hs2, .inl (by rw [← hr.length]; exact lat_stop q)⟩
        | stop => exact ⟨vs, vs2, hs, hs2, .inl (by rw [← hr.length]; exact lat_stop q)⟩
        | bad => exact True.intro
      | bad => exact True.intro
theorem rit_zipT {l l2 : List D} {a b : Addr} {vs vs2 : List V} (hq : SqT u.K H a vs) (hr : RVs u rho w.n H l vs) (hq2 : SqT u.K H b vs2) (hr2 : RVs u rho w.n H l2 vs2) : RIt u rho w H (.zip (.tup l) (.tup l2)) (ItzT u.K a b) := by
  intro rho' w' H' i e r'
  have hs := e.tups.sqT hq
  have hr := e.rvs hr
  have hs2 := e.tups.sqT hq2
  have hr2 := e.rvs hr2
  show match (match lat l i, lat l2 i with | .it x, .it y => IR.it (.tup [x, y]) | .it _, .stop => .stop | .stop, .it _ => .stop | .stop, .stop => .stop | _, _ => .bad) with | .it d => _ | .stop => _ | .bad => _
  cases q : lat l i with
  | it d =>
    obtain ⟨v, h1, h2⟩ := hr.get (lat_it q)
    cases q2 : lat l2 i with
    | it d2 =>
      obtain ⟨v2, g1, g2⟩ := hr2.get (lat_it q2)
      refine ⟨⟨vs, vs2, v, v2, hs, hs2, h1, g1⟩, fun x H2 ⟨T, y, y2, ex, hT, eH, a1, a2⟩ => ?_⟩
      subst ex eH
      have b1 := a1 vs hs
      have b2 := a2 vs2 hs2
      rw [h1] at b1; cases b1
      rw [g1] at b2; cases b2
      obtain ⟨r2, e2⟩ := r'.tup (o := .tup [v, v2]) hT
      exact ⟨r2, e2, .tup (.inl (.inl upd_same)) (.cons (e2.rv h2) (.cons (e2.rv g2) .nil))⟩
    | stop => exact ⟨vs, vs2, hs, hs2, .inr (by rw [← hr2.length]; exact lat_stop q2)⟩
    | bad => exact True.intro
  | stop =>
    cases q2 : lat l2 i with
    | it d2 => exact ⟨vs, vs2, hs, hs2, .inl (by rw [← hr.length]; exact lat_stop q)⟩
    | stop => exact ⟨vs, vs2, hs, hs2, .inl (by rw [← hr.length]; exact lat_stop q)⟩
    | bad => exact True.intro
  | bad => exact True.intro
theorem si_zip (h : PI X tg e (iZipA u.K (tMA u E mas))) : PI X tg e (tMI u E (iZipM mas)) := by
  refine PI_imp h fun σ H R ⟨rho, s, w, r, Z, q⟩ => ?_
  refine tMA_then r Z ?_
  unfold iZipM at q
  cases em : mas s w with
  | ok ds w1 =>
    rw [em] at q
    dsimp only at q ⊢
    intro rho1 H1 vs e1 r1 Z1 rv
    split at q
    · rename_i j k w2 ez
      cases ez
      split at q
      · rename_i l l2 f1 f2
        obtain ⟨xs, hs, hr⟩ := r1.wl f1
        obtain ⟨ys, hs2, hr2⟩ := r1.wl f2
        match vs, rv with
        | [_, _], .cons (.ref _ hj ej) (.cons (.ref _ hk ek) .nil) =>
          subst ej ek
          exact ⟨_, _, xs, ys, rfl, .inl ⟨hs, hs2, q rho1 H1 _ e1 r1 (rit_zipL r1 hj hk) rdone_id⟩⟩
      · exact q.elim
    · rename_i l l2 w2 ez
      cases ez
      match vs, rv with
      | [_, _], .cons (.tup hq hr) (.cons (.tup hq2 hr2) .nil) => exact ⟨_, _, _, _, rfl, .inr ⟨hq, hq2, q rho1 H1 _ e1 r1 (rit_zipT hq hr hq2 hr2) rdone_id⟩⟩
    · rename_i ez; cases ez
    · exact q.elim
  | ex c p w1 => rw [em] at q; exact q
  | bad => rw [em] at q; exact q.elim
def iEnumM (mas : MA) : MI := fun s w => match mas s w with
  | .ok [.ref r] w1 => (match wl w1 r with
    | some _ => .ok (.enum 0 (.lst r)) w1
    | none => .bad)
  | .ok [.tup l] w1 => .ok (.enum 0 (.tup l)) w1
  | .ex c p w1 => .ex c p w1
  | _ => .bad
theorem rit_enumL (r : RW u rho w H) {j : Nat} (hj : j < w.n) : RIt u rho w H (.enum 0 (.lst j)) (Ite u.K (rho j)) := by
  intro rho' w' H' i e r'
  show match (match (I.lst j).at w' i with | .it x => IR.it (.tup [.int (Int.add 0 (Int.ofNat i)), x]) | .stop => .stop | .bad => .bad) with | .it d => _ | .stop => _ | .bad => _
  unfold I.at
  cases e1 : wl w' j with
  | none => exact True.intro
  | some l =>
    obtain ⟨vs, hs, hr⟩ := r'.wl e1
    rw [e.rh j hj] at hs
    dsimp only
    cases q : lat l i with
    | it d =>
      obtain ⟨v, h1, h2⟩ := hr.get (lat_it q)
      refine ⟨⟨vs, v, hs, h1⟩, fun x H2 ⟨T, y, ex, hT, eH, a1⟩ => ?_⟩
      subst ex eH
      have b1 := a1 vs hs
      rw [h1] at b1; cases b1
      obtain ⟨r2, e2⟩ := r'.tup (o := .tup [.int (i : Nat), v]) hT
      refine ⟨r2, e2, .tup (.inl (.inl upd_same)) (.cons ?_ (.cons (e2.rv h2) .nil))⟩
      have : Int.add 0 (Int.ofNat i) = (i : Int) := by show (0 : Int) + (i : Int) = i; omega
      rw [this]
      exact .int _
    | stop => exact ⟨vs, hs, by rw [← hr.length]; exact lat_stop q⟩
    | bad => exact True.intro
/-! ### targets -/
/-- a plain target: what g gives is what t does, and only the slots vs are touched -/
def GOk (K : PySem.W.Frag) (vs : List Nat) (t : TG) (g : GP) : Prop := ∀ (u : U) (rho : Nat → Addr) (n : Nat) (H : Hp) (d : D) (v : V) (s : S) (σ : L2.St) (N : L2.St → Hp → Prop), u.K = K → RV u rho n H d v → SS u rho n H s σ →
  (match g d s with
    | some s2 => ∀ σ2, SS u rho n H s2 σ2 → wipe σ2 vs = wipe σ vs → N σ2 H
    | none => False) → t v σ H N
def GsOk (K : PySem.W.Frag) (vs : List Nat) (t : TGs) (g : GPN) : Prop := ∀ (u : U) (rho : Nat → Addr) (n : Nat) (H : Hp) (ds : List D) (xs : List V) (s : S) (σ : L2.St) (N : L2.St → Hp → Prop), u.K = K → RVs u rho n H ds xs → SS u rho n H s σ →
  (match g ds s with
    | some s2 => ∀ σ2, SS u rho n H s2 σ2 → wipe σ2 vs = wipe σ vs → N σ2 H
    | none => False) → t xs σ H N
theorem wipe_set {σ : L2.St} {i : Nat} {v : Option V} : ∀ {vs : List Nat}, i ∈ vs → wipe (σ.set i v) vs = wipe σ vs
  | [], h => by cases h
  | j :: vs, h => by
    unfold wipe
    by_cases hi : i ∈ vs
    · rw [wipe_set hi]
    · have e : i = j := (List.mem_cons.mp h).resolve_right hi
      subst e
      have : ∀ vs : List Nat, i ∉ vs → wipe (σ.set i v) vs = (wipe σ vs).set i v := by
        intro vs
        induction vs with
        | nil => intro _; rfl
        | cons k vs ih =>
          intro hk
          unfold wipe
          rw [ih (fun z => hk (List.mem_cons_of_mem _ z)), List.set_comm _ _ (fun z => hk (by rw [z]; exact List.mem_cons_self))]
      rw [this vs hi, List.set_set]
theorem gok_name {K : PySem.W.Frag} {vs : List Nat} {i : Nat} (h : i ∈ vs) : GOk K vs (L2.gName i) (gpName i) := fun u rho n H d v s σ N _ rv Z q => q _ (Z.set rv i) (wipe_set h)
theorem gsok_nil {K : PySem.W.Frag} {vs : List Nat} : GsOk K vs gNil gpsNil := fun u rho n H ds xs s σ N _ rv Z q => by
  cases rv with
  | nil => exact ⟨rfl, q _ Z rfl⟩
  | cons _ _ => exact q.elim
theorem gsok_cons {K : PySem.W.Frag} {vs : List Nat} {t : TG} {ts : TGs} {g : GP} {gs : GPN} (h1 : GOk K vs t g) (h2 : GsOk K vs ts gs) : GsOk K vs (gCons t ts) (gpsCons g gs) := fun u rho n H ds xs s σ N hK rv Z q => by
  cases rv with
  | nil => exact q.elim
  | @cons d v ds xs a b =>
    refine ⟨v, xs, rfl, h1 u rho n H d v s σ _ hK a Z ?_⟩
    have q' : match (match g d s with | some s1 => gs ds s1 | none => none) with | some s2 => _ | none => _ := q
    revert q'
    cases g d s with
    | none => exact id
    | some s1 =>
      intro q' σ2 Z2 e2
      refine h2 u rho n H ds xs s1 σ2 _ hK b Z2 ?_
      dsimp only at q'
      revert q'
      cases gs ds s1 with
      | none => exact id
      | some s2 => exact fun q' σ3 Z3 e3 => q' σ3 Z3 (e3.trans e2)
theorem gok_tup {K : PySem.W.Frag} {vs : List Nat} {n : Nat} {ts : TGs} {gs : GPN} (h : GsOk K vs ts gs) : GOk K vs (L2.gTup K n ts) (gpTup n gs) := fun u rho k H d v s σ N hK rv Z q => by
  cases rv with
  | @tup l a xs hq hr =>
    have q' : match (bif Nat.beq l.length n then gs l s else none) with | some s2 => _ | none => _ := q
    cases hb : Nat.beq l.length n with
    | false => rw [hb] at q'; exact q'.elim
    | true =>
      rw [hb] at q'
      exact ⟨a, xs, rfl, by rw [← hK]; exact hq, hr.length.symm.trans (nat_beq hb), h u rho k H l xs s σ N hK hr Z q'⟩
  | _ => exact q.elim
theorem gok_asg {vs : List Nat} {t : TG} {g : GP} (hK : u.K = X.K) (hg : GOk X.K vs t g) (h : PG X e t) : PG X e (tMG u (gLift g)) := by
  refine h.imp fun v σ H N ⟨rho, s, w, d, r, Z, rv, q⟩ => hg u rho w.n H d v s σ N hK rv Z ?_
  unfold gLift at q
  revert q
  cases g d s with
  | none => exact id
  | some s2 => exact fun q σ2 Z2 _ => q rho H σ2 .refl r Z2
/-! ### for -/
variable {st : Stmt} {mi : MI} {g : GP} {t : TG} {vs : List Nat} {body : MS} {mc mt me : M}
theorem ss_for (hK : u.K = X.K) (hg : GOk X.K vs t g) (h : PS X st (tFor (tMI u E mi) t (tMS u E body))) : PS X st (tMS u E (sFor mi g body)) := by
  refine h.imp fun D σ H ⟨rho, s, w, r, Z, q⟩ => ?_
  refine ⟨rho, s, w, r, Z, ?_⟩
  unfold sFor at q
  revert q
  cases mi s w with
  | bad => exact id
  | ex c p w1 => exact id
  | ok it w1 =>
    intro q rho1 H1 J e1 r1 hit hdn
    refine ⟨fun i m σ' H' => ∃ rho2 s2 w2, Ext u rho w H rho2 w2 H' ∧ Ext u rho1 w1 H1 rho2 w2 H' ∧ RW u rho2 w2 H' ∧ SS u rho2 w2.n H' s2 σ' ∧ PostS u E rho w H D (forFrom it g body m i s2 w2),
      ⟨1000000, rho1, s, w1, e1, .refl, r1, Z.mono e1.n e1.rh e1.tups, q⟩, ?_⟩
    rintro i m σ2 H2 ⟨rho2, s2, w2, eb, e12, r2, Z2, q2⟩
    cases m with
    | zero => exact q2.elim
    | succ k =>
      have hi := hit rho2 w2 H2 i e12.to0 r2
      unfold forFrom at q2
      revert hi q2
      cases it.at w2 i with
      | bad => exact fun _ q2 => q2.elim
      | stop =>
        exact fun hi q2 => by
          obtain ⟨r3, e3, en⟩ := hdn rho2 w2 H2 eb e12 r2
          exact .inl ⟨hi, q2 rho2 H2 σ2 e3 r3 (by rw [en]; exact Z2)⟩
      | it d =>
        intro ⟨hgo, hy⟩ q2
        dsimp only at q2
        cases hgd : g d s2 with
        | none => rw [hgd] at q2; exact q2.elim
        | some s3 =>
          rw [hgd] at q2
          dsimp only at q2
          refine .inr ⟨hgo, fun σ' H' => ∃ rho2 s2 w2, Ext u rho w H rho2 w2 H' ∧ Ext u rho1 w1 H1 rho2 w2 H' ∧ RW u rho2 w2 H' ∧ SS u rho2 w2.n H' s2 σ' ∧ PostS u E rho w H D (forFrom it g body k (i + 1) s2 w2),
            fun σ' H' h' => ⟨k, Nat.lt_succ_self _, h'⟩, fun x H3 yl => ?_⟩
          obtain ⟨r3, e3, rv⟩ := hy x H3 yl
          refine hg u rho2 w2.n H3 d x s2 σ2 _ hK rv (Z2.mono e3.n e3.rh e3.tups) ?_
          rw [hgd]
          intro σ4 Z4 _
          refine ⟨rho2, s3, w2, r3, Z4, ?_⟩
          have eb3 := eb.trans r e3
          have e13 := e12.trans r1 e3
          revert q2
          cases body s3 w2 with
          | nx s5 w5 => exact fun q2 rho5 H5 σ5 e5 r5 Z5 => ⟨rho5, s5, w5, eb3.trans r e5, e13.trans r1 e5, r5, Z5, q2⟩
          | ct s5 w5 => exact fun q2 rho5 H5 σ5 e5 r5 Z5 => ⟨rho5, s5, w5, eb3.trans r e5, e13.trans r1 e5, r5, Z5, q2⟩
          | bk s5 w5 =>
            exact fun q2 rho5 H5 σ5 e5 r5 Z5 => by
              obtain ⟨r6, e6, en⟩ := hdn rho5 w5 H5 (eb3.trans r e5) (e13.trans r1 e5) r5
              exact q2 rho5 H5 σ5 e6 r6 (by rw [en]; exact Z5)
          | rt d5 w5 => exact fun q2 rho5 H5 v5 e5 r5 rv5 => q2 rho5 H5 v5 (eb3.trans r e5) r5 rv5
          | ex c p w5 => exact fun q2 => PostX.to q2 r eb3
          | bad => exact id
/-! ### while -/
theorem ss_while (h : PS X st (tWhile (tMT u E mc) (tMS u E body))) : PS X st (tMS u E (sWhile mc body)) := by
  refine h.imp fun D σ H ⟨rho, s, w, r, Z, q⟩ => ?_
  refine ⟨fun m σ' H' => ∃ rho2 s2 w2, Ext u rho w H rho2 w2 H' ∧ RW u rho2 w2 H' ∧ SS u rho2 w2.n H' s2 σ' ∧ PostS u E rho w H D (whileFrom mc body m s2 w2), ⟨1000000, rho, s, w, .refl, r, Z, q⟩, ?_⟩
  rintro m σ2 H2 ⟨rho2, s2, w2, eb, r2, Z2, q2⟩
  cases m with
  | zero => exact q2.elim
  | succ k =>
    refine tMT_then r2 Z2 ?_
    unfold whileFrom at q2
    revert q2
    cases mc s2 w2 with
    | bad => exact id
    | ex c p w3 => exact fun q2 => PostX.to q2 r eb
    | ok d w3 =>
      intro q2
      cases d <;> try exact q2.elim
      rename_i b
      intro rho3 H3 e3 r3 Z3
      have eb3 := eb.trans r e3
      cases b with
      | false => exact q2 rho3 H3 σ2 eb3 r3 Z3
      | true =>
        refine ⟨fun σ' H' => ∃ rho2 s2 w2, Ext u rho w H rho2 w2 H' ∧ RW u rho2 w2 H' ∧ SS u rho2 w2.n H' s2 σ' ∧ PostS u E rho w H D (whileFrom mc body k s2 w2), fun σ' H' h' => ⟨k, Nat.lt_succ_self _, h'⟩, ?_⟩
        refine ⟨rho3, s2, w3, r3, Z3, ?_⟩
        dsimp only at q2
        revert q2
        cases body s2 w3 with
        | nx s5 w5 => exact fun q2 rho5 H5 σ5 e5 r5 Z5 => ⟨rho5, s5, w5, eb3.trans r e5, r5, Z5, q2⟩
        | ct s5 w5 => exact fun q2 rho5 H5 σ5 e5 r5 Z5 => ⟨rho5, s5, w5, eb3.trans r e5, r5, Z5, q2⟩
        | bk s5 w5 => exact fun q2 rho5 H5 σ5 e5 r5 Z5 => q2 rho5 H5 σ5 (eb3.trans r e5) r5 Z5
        | rt d5 w5 => exact fun q2 rho5 H5 v5 e5 r5 rv5 => q2 rho5 H5 v5 (eb3.trans r e5) r5 rv5
        | ex c p w5 => exact fun q2 => PostX.to q2 r eb3
        | bad => exact id
/-! ### list comprehensions -/
theorem wipe_get (σ : L2.St) : ∀ (vs : List Nat) (i : Nat), (L2.wipe σ vs)[i]? = if i ∈ vs then σ[i]?.map (fun _ => none) else σ[i]?
  | [], i => by simp [L2.wipe]
  | v :: vs, i => by
    show ((L2.wipe σ vs).set v none)[i]? = _
    by_cases h : v = i
    · subst h
      rw [if_pos List.mem_cons_self]
      have hl : (L2.wipe σ vs).length = σ.length := wipe_length σ vs
      by_cases hv : v < σ.length
      · rw [List.getElem?_set_self (by rw [hl]; exact hv), List.getElem?_eq_getElem hv]; rfl
      · rw [List.getElem?_eq_none (by rw [List.length_set, hl]; omega), List.getElem?_eq_none (by omega)]; rfl
    · rw [List.getElem?_set_ne h, wipe_get σ vs i]
      have : (i ∈ v :: vs) ↔ i ∈ vs := by
        rw [List.mem_cons]
        exact ⟨fun z => z.resolve_left (fun e => h e.symm), .inr⟩
      by_cases hi : i ∈ vs
      · rw [if_pos hi, if_pos (this.mpr hi)]
      · rw [if_neg hi, if_neg (fun z => hi (this.mp z))]
theorem wipe_wipe (σ : L2.St) (vs : List Nat) : L2.wipe (L2.wipe σ vs) vs = L2.wipe σ vs := by
  apply List.ext_getElem?
  intro i
  rw [wipe_get, wipe_get]
  by_cases h : i ∈ vs
  · simp only [if_pos h]
    cases σ[i]? <;> rfl
  · simp only [if_neg h]
theorem SS.no_at {n : Nat} {s : S} {σ : L2.St} (Z : SS u rho n H s σ) : ∀ i, SS u rho n H (sset s i .no) (σ.set i none) := by
  induction Z with
  | nil => intro i; rw [sset_nil]; exact .nil
  | no t ih =>
    intro i
    cases i with
    | zero => exact .no t
    | succ i => exact .no (ih i)
  | cons a t ih =>
    intro i
    cases i with
    | zero => exact .no t
    | succ i => exact .cons a (ih i)
  | fn t ih =>
    intro i
    cases i with
    | zero => exact .no t
    | succ i => exact .fn (ih i)
theorem SS.wipe {n : Nat} {s : S} {σ : L2.St} (Z : SS u rho n H s σ) : ∀ vs : List Nat, SS u rho n H (wipeD s vs) (L2.wipe σ vs)
  | [] => Z
  | v :: vs => SS.no_at (SS.wipe Z vs) v
/-- an object without a number is changed: one that was not there at the beginning -/
theorem side_upd {rho1 rho7 : Nat → Addr} {w1 w7 : W} {H1 H7 : Hp} {D : Addr} {x l : List V} (e : Ext u rho1 w1 H1 rho7 w7 H7) (r : RW u rho7 w7 H7) (hA : H7 D = some (.lst x)) (nD : ∀ i, i < w7.n → rho7 i ≠ D) (hD : H1 D = none) :
    RW u rho7 w7 (L2.upd H7 D (.lst l)) ∧ Ext u rho1 w1 H1 rho7 w7 (L2.upd H7 D (.lst l)) ∧ Tups H7 (L2.upd H7 D (.lst l)) := by
  have tp : Tups H7 (L2.upd H7 D (.lst l)) := .write hA (wr_lst _)
  refine ⟨⟨r.inj, r.dom, fun i hi => by rw [upd_ne (nD i hi)]; exact r.all i hi, fun i ob h => ?_, r.small, fun p hp' => TabS.write hA (wr_lst _) (r.tabs p hp'), r.full, fun p hp' => tp.code _ _ (r.code p hp'), r.cl.mono (Nat.le_refl _) (fun _ _ => rfl) tp⟩, ⟨e.n, e.rh, e.tups.trans tp, fun i l' h k => ?_, fun a h1 h0 h2 => ?_⟩, tp⟩
  · have hi := r.dom i ob h
    refine (r.obj i ob h).mono (Nat.le_refl _) (fun _ _ => rfl) tp (by rw [upd_ne (nD i hi)]) fun d ed => ?_
    rw [upd_ne (fun z => by rw [z, hA] at ed; cases ed)]
    exact ed
  · obtain ⟨g1, g2⟩ := e.lock i l' h k
    refine ⟨g1, ?_⟩
    have hi := r.dom i _ g1
    have hne : rho1 i ≠ D := fun z => by
      have := nD i hi
      obtain ⟨_, g3⟩ := e.lock i l' h k
      rw [z, hA, hD] at g3
      cases g3
    rw [upd_ne hne]
    exact g2
  · obtain ⟨g1, g2⟩ := e.oth a h1 h0 h2
    exact ⟨(upd_ne fun z => h1 (by rw [z]; exact hD)).trans g1, g2⟩
theorem se_lc (hK : u.K = X.K) (hg : GOk X.K vs t g) (h : PE X e (tLc (tMI u E mi) t (tMT u E0 mt) (tM u E0 me) vs)) : PE X e (tM u E (mLc mi g mt me vs)) := by
  refine h.imp fun σ H Q ⟨rho, s, w, r, Z, q⟩ => ?_
  refine ⟨rho, s, w, r, Z, ?_⟩
  unfold mLc at q
  revert q
  cases mi s w with
  | bad => exact id
  | ex c p w1 => exact id
  | ok it w1 =>
    intro q rho1 H1 J e1 r1 hit hdn D hD
    obtain ⟨rD, eD⟩ := r1.tup (o := .lst []) hD
    have Z1 : SS u rho1 w1.n (L2.upd H1 D (.lst [])) (wipeD s vs) (L2.wipe σ vs) := (Z.wipe vs).mono (Nat.le_trans e1.n eD.n) (fun i hi => e1.rh i hi) (e1.tups.trans eD.tups)
    have ne1 : ∀ i, i < w1.n → rho1 i ≠ D := fun i hi z => r1.all i hi (by rw [z]; exact hD)
    dsimp only at q
    refine ⟨fun i m H' => ∃ rho2 w2 acc accV, Ext u rho1 w1 H1 rho2 w2 H' ∧ RW u rho2 w2 H' ∧ SS u rho2 w2.n H' (wipeD s vs) (L2.wipe σ vs) ∧ H' D = some (.lst accV) ∧ RVs u rho2 w2.n H' acc.reverse accV ∧ (∀ i, i < w2.n → rho2 i ≠ D) ∧ acc.length + m ≤ 100000 ∧
      (match lcFrom it g mt me (wipeD s vs) m i acc w2 with | .ok acc w3 => Post u E rho w H Q (alloc (.lst acc.reverse) w3) | .bad => False),
      ⟨100000, rho1, w1, [], [], eD, rD, Z1, upd_same, .nil, ne1, Nat.le_refl _, ?_⟩, ?_⟩
    · revert q
      cases lcFrom it g mt me (wipeD s vs) 100000 0 [] w1 with
      | ok acc w3 => exact id
      | bad => exact id
    · rintro i m H2 ⟨rho2, w2, acc, accV, e12, r2, Z2, hA, rA, ne2, hm, q2⟩
      cases m with
      | zero => exact q2.elim
      | succ k =>
        have hi := hit rho2 w2 H2 i e12.to0 r2
        unfold lcFrom at q2
        revert hi q2
        cases it.at w2 i with
        | bad => exact fun _ q2 => q2.elim
        | stop =>
          intro hi q2
          refine .inl ⟨hi, ?_⟩
          have eb0 : Ext u rho w H rho2 w2 H2 := e1.trans r e12
          obtain ⟨r2', eb, en⟩ := hdn rho2 w2 H2 eb0 e12 r2
          dsimp only at q2
          have ne2' : ∀ i, i < (it.done w2).n → rho2 i ≠ D := by rw [en]; exact ne2
          have rA' : RVs u rho2 (it.done w2).n H2 acc.reverse accV := by rw [en]; exact rA
          generalize it.done w2 = w2' at q2 r2' eb ne2' rA'
          unfold alloc at q2
          cases hb : Nat.blt w2'.n 1000000000 with
          | false => rw [hb] at q2; exact q2.elim
          | true =>
            rw [hb] at q2
            obtain ⟨r3, h3, h4⟩ := r2'.adopt (p := D) (o := .lst acc.reverse) (by rw [hA]; simp) ne2' hb ⟨accV, hA, rA'.mono (Nat.le_succ _) (fun i hi => rhoN_lt hi) (.refl _)⟩
            refine q2 _ H2 _ ⟨Nat.le_trans eb.n (Nat.le_succ _), fun i hi => (rhoN_lt (Nat.lt_of_lt_of_le hi eb.n)).trans (eb.rh i hi), eb.tups, fun i l hl hk => ⟨h4 i l (eb.lock i l hl hk).1, (eb.lock i l hl hk).2⟩, fun a ha h0 hn => ?_⟩ r3 (.ref _ (Nat.lt_succ_self _) rhoN_at.symm)
            obtain ⟨ea, na⟩ := eb.oth a ha h0 hn
            refine ⟨ea, fun j hj z => ?_⟩
            have hj' : j < Nat.succ w2'.n := hj
            by_cases hjn : j = w2'.n
            · rw [hjn, rhoN_at] at z
              obtain ⟨e1a, _⟩ := e1.oth a ha h0 hn
              exact ha (by rw [← e1a, ← z]; exact hD)
            · rw [rhoN_lt (by omega)] at z
              exact na j (by omega) z
        | it d =>
          intro ⟨hgo, hy⟩ q2
          dsimp only at q2
          cases hgd : g d (wipeD s vs) with
          | none => rw [hgd] at q2; exact q2.elim
          | some s3 =>
            rw [hgd] at q2
            dsimp only at q2
            refine .inr ⟨hgo, fun H' => ∃ rho2 w2 acc accV, Ext u rho1 w1 H1 rho2 w2 H' ∧ RW u rho2 w2 H' ∧ SS u rho2 w2.n H' (wipeD s vs) (L2.wipe σ vs) ∧ H' D = some (.lst accV) ∧ RVs u rho2 w2.n H' acc.reverse accV ∧ (∀ i, i < w2.n → rho2 i ≠ D) ∧ acc.length + k ≤ 100000 ∧
              (match lcFrom it g mt me (wipeD s vs) k (i + 1) acc w2 with | .ok acc w3 => Post u E rho w H Q (alloc (.lst acc.reverse) w3) | .bad => False), fun H' h' => ⟨k, Nat.lt_succ_self _, h'⟩, fun x H3 yl => ?_⟩
            obtain ⟨r3, e3, rv⟩ := hy x H3 yl
            have Z3 := Z2.mono e3.n e3.rh e3.tups
            refine hg u rho2 w2.n H3 d x (wipeD s vs) (L2.wipe σ vs) _ hK rv Z3 ?_
            rw [hgd]
            intro σ4 Z4 hw4
            have nD : H2 D ≠ none := by rw [hA]; simp
            have nT : ∀ ps, H2 D ≠ some (.tbl ps) := fun ps z => by rw [hA] at z; cases z
            obtain ⟨eD3, nD3⟩ := e3.oth D nD nT ne2
            -- the slots that stand aside stay as they were
            refine ⟨hw4.trans (wipe_wipe σ vs), ?_⟩
            refine tMT_then r3 Z4 ?_
            revert q2
            cases mt s3 w2 with
            | bad => exact id
            | ex c p w5 => exact fun q2 => q2.elim
            | ok dt w5 =>
              intro q2
              cases dt <;> try exact q2.elim
              rename_i b
              intro rho5 H5 e5 r5 Z5
              have e35 := e3.trans r2 e5
              obtain ⟨eD5, nD5⟩ := e35.oth D nD nT ne2
              cases b with
              | false =>
                exact ⟨rho5, w5, acc, accV, e12.trans r1 e35, r5, Z2.mono e35.n e35.rh e35.tups, eD5.trans hA, e35.rvs rA, nD5, by omega, q2⟩
              | true =>
                refine tM_then r5 Z5 ?_
                dsimp only at q2
                revert q2
                cases me s3 w5 with
                | bad => exact id
                | ex c p w7 => exact fun q2 => q2.elim
                | ok y w7 =>
                  intro q2 rho7 H7 v7 e7 r7 Z7 rv7
                  have e37 := e35.trans r2 e7
                  obtain ⟨eD7, nD7⟩ := e37.oth D nD nT ne2
                  have hA7 : H7 D = some (.lst accV) := eD7.trans hA
                  have rA7 := e37.rvs rA
                  obtain ⟨r8, e8, tp⟩ := side_upd (l := accV ++ [v7]) (e12.trans r1 e37) r7 hA7 nD7 hD
                  have hz : accV.length < sizeLine := by
                    have := (e37.rvs rA).length
                    rw [List.length_reverse] at this
                    rw [sizeLine_eq]
                    omega
                  refine ⟨accV, hA7, hz, rho7, w7, y :: acc, accV ++ [v7], e8, r8, (Z2.mono e37.n e37.rh e37.tups).mono (Nat.le_refl _) (fun _ _ => rfl) tp, upd_same, ?_, nD7, by rw [List.length_cons]; omega, q2⟩
                  rw [List.reverse_cons]
                  exact (rA7.mono (Nat.le_refl _) (fun _ _ => rfl) tp).append (.cons (rv7.mono (Nat.le_refl _) (fun _ _ => rfl) tp) .nil)
end
end Ev

set_option Elab.async false
set_option linter.all false
set_option maxRecDepth 100000
set_option maxHeartbeats 4000000
/-! EvQ: built-ins by values: all, any, tuple, list, sum, abs, max, int, str; list methods; truth; slices. -/
namespace Ev
open PySem PySem.Spec PyProof.Rows L2
section
variable {X : Cx} {u : U} {E : XK} {rho : Nat → Addr} {w : W} {H : Hp}
def boolsOf : List D → Option (List Bool)
  | [] => some []
  | .bl b :: r => (match boolsOf r with
    | some bs => some (b :: bs)
    | none => none)
  | _ => none
theorem boolsOf_ok {n : Nat} : ∀ {l : List D} {vs : List V} {bs : List Bool}, RVs u rho n H l vs → boolsOf l = some bs → vs = bs.map V.bl
  | _, _, _, .nil, h => by cases h; rfl
  | d :: r, _, bs, .cons a t, h => by
    unfold boolsOf at h
    split at h
    · rename_i hh; cases hh
    · rename_i b r' hh
      cases hh
      cases a
      cases e : boolsOf r with
      | none => rw [e] at h; cases h
      | some bs' => rw [e] at h; cases h; rw [boolsOf_ok t e]; rfl
    · cases h
def fBools (f : List Bool → Bool) : FN := fun ds w => match ds with
  | [.ref r] => (match wl w r with
    | some l => (match boolsOf l with
      | some bs => .ok (.bl (f bs)) w
      | none => .bad)
    | none => .bad)
  | _ => .bad
def allB : List Bool → Bool
  | [] => true
  | b :: r => bif b then allB r else false
def anyB : List Bool → Bool
  | [] => false
  | b :: r => bif b then true else anyB r
theorem allB_eq : ∀ bs : List Bool, allB bs = bs.all id
  | [] => rfl
  | b :: r => by
    show (bif b then allB r else false) = _
    rw [List.all_cons, allB_eq r]; cases b <;> rfl
theorem anyB_eq : ∀ bs : List Bool, anyB bs = bs.any id
  | [] => rfl
  | b :: r => by
    show (bif b then true else anyB r) = _
    rw [List.any_cons, anyB_eq r]; cases b <;> rfl
theorem fits_bools {f : List Bool → Bool} {g : List Bool → Bool} (hf : ∀ bs, f bs = g bs) : FitsN u E (fun vs H Q => ∃ (a : Addr) (bs : List Bool), vs = [V.ref a] ∧ SqL u.K H a (bs.map V.bl) ∧ Q (.bl (g bs)) H) (fBools f) := by
  intro rho w H ds vs Q r rv q
  unfold fBools at q
  split at q
  · match vs, rv with
    | [_], .cons (.ref k hk ek) .nil =>
      split at q
      · rename_i l e0
        obtain ⟨xs, hs, hr⟩ := r.wl e0
        split at q
        · rename_i bs e1
          subst ek
          have e2 := boolsOf_ok hr e1
          subst e2
          exact ⟨_, bs, rfl, hs, q rho H _ .refl r (by rw [hf]; exact .bl _)⟩
        · exact q.elim
      · exact q.elim
  · exact q.elim
def fAll : FN := fBools allB
def fAny : FN := fBools anyB
theorem fits_all : FitsN u E (rAll u.K) fAll := fits_bools allB_eq
theorem fits_any : FitsN u E (rAny u.K) fAny := fits_bools anyB_eq
/-! ### tuple(x), list(x) -/
def fTupOf : FN := fun ds w => match ds with
  | [.ref r] => (match wl w r with
    | some l => .ok (.tup l) w
    | none => .bad)
  | [.tup l] => .ok (.tup l) w
  | _ => .bad
theorem fits_tupOf : FitsN u E (fun xs H Q => ∃ p ys, xs = [.ref p] ∧ ((SqL u.K H p ys ∧ ∀ l, H l = none → Q (.ref l) (upd H l (.tup ys))) ∨ (SqT u.K H p ys ∧ Q (.ref p) H))) fTupOf := by
  intro rho w H ds vs Q r rv q
  unfold fTupOf at q
  split at q
  · match vs, rv with
    | [_], .cons (.ref k hk ek) .nil =>
      split at q
      · rename_i l e0
        obtain ⟨xs, hs, hr⟩ := r.wl e0
        subst ek
        refine ⟨_, xs, rfl, .inl ⟨hs, fun p hp => ?_⟩⟩
        obtain ⟨r', e⟩ := r.tup (o := .tup xs) hp
        exact q rho _ _ e r' (.tup (.inl (.inl upd_same)) (e.rvs hr))
      · exact q.elim
  · match vs, rv with
    | [_], .cons (.tup hq hr) .nil => exact ⟨_, _, rfl, .inr ⟨hq, q rho H _ .refl r (.tup hq hr)⟩⟩
  · exact q.elim
def fListOf : FN := fun ds w => match ds with
  | [.ref r] => (match wl w r with
    | some l => alloc (.lst l) w
    | none => .bad)
  | [.tup l] => alloc (.lst l) w
  | _ => .bad
theorem fits_listOf : FitsN u E (fun xs H Q => ∃ p ys, xs = [.ref p] ∧ (SqL u.K H p ys ∨ SqT u.K H p ys) ∧ ∀ l, H l = none → Q (.ref l) (upd H l (.lst ys))) fListOf := by
  intro rho w H ds vs Q r rv q
  unfold fListOf at q
  split at q
  · match vs, rv with
    | [_], .cons (.ref k hk ek) .nil =>
      split at q
      · rename_i l e0
        obtain ⟨xs, hs, hr⟩ := r.wl e0
        subst ek
        exact ⟨_, xs, rfl, .inl hs, fits_new r hr q⟩
      · exact q.elim
  · match vs, rv with
    | [_], .cons (.tup hq hr) .nil => exact ⟨_, _, rfl, .inr hq, fits_new r hr q⟩
  · exact q.elim
/-! ### sum, abs, max, int, str -/
def intsOf : List D → Option (List Int)
  | [] => some []
  | .int b :: r => (match intsOf r with
    | some bs => some (b :: bs)
    | none => none)
  | _ => none
theorem intsOf_ok {n : Nat} : ∀ {l : List D} {vs : List V} {bs : List Int}, RVs u rho n H l vs → intsOf l = some bs → vs = bs.map V.int
  | _, _, _, .nil, h => by cases h; rfl
  | d :: r, _, bs, .cons a t, h => by
    unfold intsOf at h
    split at h
    · rename_i hh; cases hh
    · rename_i b r' hh
      cases hh
      cases a
      cases e : intsOf r with
      | none => rw [e] at h; cases h
      | some bs' => rw [e] at h; cases h; rw [intsOf_ok t e]; rfl
    · cases h
def sumI : List Int → Int
  | [] => 0
  | b :: r => Int.add b (sumI r)
theorem sumI_eq : ∀ bs : List Int, sumI bs = bs.sum
  | [] => rfl
  | b :: r => by
    show Int.add b (sumI r) = _
    rw [List.sum_cons, sumI_eq r]; rfl
def fSum : FN := fun ds w => match ds with
  | [.ref r] => (match wl w r with
    | some l => (match intsOf l with
      | some bs => .ok (.int (sumI bs)) w
      | none => .bad)
    | none => .bad)
  | _ => .bad
theorem fits_sum : FitsN u E (rSum u.K) fSum := by
  intro rho w H ds vs Q r rv q
  unfold fSum at q
  split at q
  · match vs, rv with
    | [_], .cons (.ref k hk ek) .nil =>
      split at q
      · rename_i l e0
        obtain ⟨xs, hs, hr⟩ := r.wl e0
        split at q
        · rename_i bs e1
          subst ek
          have e2 := intsOf_ok hr e1
          subst e2
          exact ⟨_, bs, rfl, hs, q rho H _ .refl r (by rw [sumI_eq]; exact .int _)⟩
        · exact q.elim
      · exact q.elim
  · exact q.elim
def fAbs : FN := fun ds w => match ds with
  | [.int i] => .ok (.int (bif PySem.W.Z.ltB i 0 then Int.neg i else i)) w
  | _ => .bad
theorem fits_abs : FitsN u E (fun xs H Q => ∃ i, xs = [.int i] ∧ Q (.int (if i < 0 then -i else i)) H) fAbs := by
  intro rho w H ds vs Q r rv q
  unfold fAbs at q
  split at q
  · rename_i i
    match vs, rv with
    | [_], .cons (.int _) .nil =>
      refine ⟨i, rfl, q rho H _ .refl r ?_⟩
      rw [ltB_dec]
      by_cases h : i < 0
      · rw [decide_eq_true h, if_pos h]; exact .int _
      · rw [decide_eq_false h, if_neg h]; exact .int _
  · exact q.elim
def fMax2 : FN := fun ds w => match ds with
  | [.int i, .int j] => .ok (.int (bif PySem.W.Z.ltB i j then j else i)) w
  | _ => .bad
theorem fits_max2 : FitsN u E (fun xs H Q => ∃ i j, xs = [.int i, .int j] ∧ Q (.int (if j > i then j else i)) H) fMax2 := by
  intro rho w H ds vs Q r rv q
  unfold fMax2 at q
  split at q
  · rename_i i j
    match vs, rv with
    | [_, _], .cons (.int _) (.cons (.int _) .nil) =>
      refine ⟨i, j, rfl, q rho H _ .refl r ?_⟩
      rw [ltB_dec]
      by_cases h : i < j
      · rw [decide_eq_true h, if_pos h]; exact .int _
      · rw [decide_eq_false h, if_neg h]; exact .int _
  · exact q.elim
def fInt1 : FN := fun ds w => match ds with
  | [.int i] => .ok (.int i) w
  | [.bl b] => .ok (.int (bif b then 1 else 0)) w
  | _ => .bad
theorem fits_int1 : FitsN u E (fun xs H Q => (∃ i, xs = [.int i] ∧ Q (.int i) H) ∨ ∃ k, xs = [.bl k] ∧ Q (.int (if k then 1 else 0)) H) fInt1 := by
  intro rho w H ds vs Q r rv q
  unfold fInt1 at q
  split at q
  · rename_i i
    match vs, rv with
    | [_], .cons (.int _) .nil => exact .inl ⟨i, rfl, q rho H _ .refl r (.int _)⟩
  · rename_i b
    match vs, rv with
    | [_], .cons (.bl _) .nil => exact .inr ⟨b, rfl, q rho H _ .refl r (by cases b <;> exact .int _)⟩
  · exact q.elim
/-- str of a figure -/
def fStr1 : FN := fun ds w => match ds with
  | [.int (.ofNat k)] => bif Nat.blt k 10 then .ok (.str [Nat.add 48 k]) w else .bad
  | _ => .bad
theorem str_fig : ∀ k : Nat, k < 10 → ((Str.ofString (toString (k : Int))).cps.toList = [48 + k]) := by decide +kernel
theorem fits_str1 : FitsN u E (fun xs H Q => ∃ i, xs = [.int i] ∧ i.natAbs.log2 < 1920 ∧ Q (.str (toString i)) H) fStr1 := by
  intro rho w H ds vs Q r rv q
  unfold fStr1 at q
  split at q
  · rename_i k
    match vs, rv with
    | [_], .cons (.int _) .nil =>
      cases hb : Nat.blt k 10 with
      | false => rw [hb] at q; exact q.elim
      | true =>
        rw [hb] at q
        have hk := nat_blt hb
        refine ⟨_, rfl, ?_, q rho H _ .refl r (.str _ (str_fig k hk))⟩
        have : (Int.ofNat k).natAbs = k := rfl
        rw [this]
        have h1 : k.log2 ≤ k := Nat.log2_le_self k
        omega
  · exact q.elim
/-! ### truth -/
def fTruth : F1 := fun x w => match x with
  | .bl b => .ok (.bl b) w
  | .non => .ok (.bl false) w
  | .tup l => .ok (.bl (match l with | [] => false | _ => true)) w
  | .ref i => (match wl w i with
    | some l => .ok (.bl (match l with | [] => false | _ => true)) w
    | none => .bad)
  | _ => .bad
end
end Ev

set_option Elab.async false
set_option linter.all false
set_option maxRecDepth 100000
set_option maxHeartbeats 4000000
/-! EvR: truth, list methods, slices, stores, isinstance. -/
namespace Ev
open PySem PySem.Spec PyProof.Rows L2
section
variable {X : Cx} {u : U} {E : XK} {rho : Nat → Addr} {w : W} {H : Hp} {s : S} {σ : L2.St} {e a b : Expr} {ma mb : M} {mas : MA}
/-! ### truth -/
theorem st_truth (hK : X.K = u.K) (h : PT X e (fun σ H Q => tM u E ma σ H fun x H1 => ∃ k, TruV X.K x H1 k ∧ Q k H1)) : PT X e (tMT u E (mUn fTruth ma)) := by
  refine h.imp fun σ H Q ⟨rho, s, w, r, Z, q⟩ => ?_
  refine tM_then r Z ?_
  unfold mUn Ev.R.bind at q
  revert q
  cases ma s w with
  | bad => exact id
  | ex c p w1 => exact id
  | ok d w1 =>
    intro q rho1 H1 v e1 r1 Z1 rv
    rw [hK]
    unfold fTruth at q
    dsimp only at q
    have fin : ∀ k, Post u E rho w H (fun x H' => ∃ k, x = V.bl k ∧ Q k H') (.ok (.bl k) w1) → Q k H1 := fun k q => by
      obtain ⟨k', ek, q'⟩ := q rho1 H1 (.bl k) e1 r1 (.bl k)
      cases ek
      exact q'
    cases rv with
    | non => exact ⟨_, rfl, fin _ q⟩
    | bl b => exact ⟨_, rfl, fin _ q⟩
    | @tup l a vs hq hr =>
      dsimp only at q
      refine ⟨_, .inr (.inl ⟨vs, hq, rfl⟩), fin _ ?_⟩
      cases hr with
      | nil => exact q
      | cons _ _ => exact q
    | ref i hi ha =>
      dsimp only at q
      cases e0 : wl w1 i with
      | none => rw [e0] at q; exact q.elim
      | some l =>
        rw [e0] at q
        obtain ⟨vs, hs, hr⟩ := r1.wl e0
        subst ha
        refine ⟨_, .inl ⟨vs, hs, rfl⟩, fin _ ?_⟩
        cases hr with
        | nil => exact q
        | cons _ _ => exact q
    | _ => exact q.elim
/-! ### list methods -/
/-- o.m(e, ..) of a list -/
def mMeth (f : D → List D → W → R) (o : M) (as : MA) : M := fun s w => match o s w with
  | .ok d w1 => (match as s w1 with
    | .ok ds w2 => f d ds w2
    | .ex c p w => .ex c p w
    | .bad => .bad)
  | .ex c p w => .ex c p w
  | .bad => .bad
def FitsM (u : U) (E : XK) (r : V → List V → Hp → VK → Prop) (f : D → List D → W → R) : Prop := ∀ rho w H d v ds vs Q, RW u rho w H → RV u rho w.n H d v → RVs u rho w.n H ds vs → Post u E rho w H Q (f d ds w) → r v vs H Q
def isLst (w : W) : D → Bool
  | .ref i => (match wl w i with | some _ => true | none => false)
  | _ => false
theorem wl_keep {i : Nat} {l : List D} (h : wl w i = some l) : (∃ l', w.get i = some (.lst l')) ∨ ∃ l', w.get i = some (.fl l') := by
  unfold wl at h
  split at h
  · rename_i l' e; exact .inl ⟨l', e⟩
  · rename_i l' e; exact .inr ⟨l', e⟩
  · cases h
def mMethL (f : D → List D → W → R) (o : M) (as : MA) : M := fun s w => match o s w with
  | .ok d w1 => bif isLst w1 d then (match as s w1 with
    | .ok ds w2 => f d ds w2
    | .ex c p w => .ex c p w
    | .bad => .bad) else .bad
  | .ex c p w => .ex c p w
  | .bad => .bad
theorem se_methL {r : V → List V → Hp → VK → Prop} {f : D → List D → W → R} (hK : X.K = u.K) (h : PE X e (tBM X.K "list" r (tM u E ma) (tMA u E mas))) (hf : FitsM u E r f) : PE X e (tM u E (mMethL f ma mas)) := by
  refine h.imp fun σ H Q ⟨rho, s, w, r0, Z, q⟩ => ?_
  refine tM_then r0 Z ?_
  unfold mMethL at q
  revert q
  cases ma s w with
  | bad => exact id
  | ex c p w1 => exact id
  | ok d w1 =>
    intro q rho1 H1 v e1 r1 Z1 rv
    dsimp only at q
    cases hl : isLst w1 d with
    | false => rw [hl] at q; exact q.elim
    | true =>
      rw [hl] at q
      dsimp only [cond_true] at q
      refine ⟨?_, tMA_then r1 Z1 ?_⟩
      · unfold isLst at hl
        cases rv with
        | ref i hi ha =>
          dsimp only at hl
          cases e0 : wl w1 i with
          | none => rw [e0] at hl; cases hl
          | some l =>
            obtain ⟨vs, hs, hr⟩ := r1.wl e0
            subst ha
            rw [hK]
            exact .inl ⟨rfl, vs, hs⟩
        | _ => cases hl
      · revert q
        cases mas s w1 with
        | bad => exact id
        | ex c p w2 => exact fun q => PostX.to q r0 e1
        | ok ds w2 => exact fun q rho2 H2 vs e2 r2 Z2 rvs => hf _ _ _ _ _ _ _ _ r2 (e2.rv rv) rvs (q.to r0 (e1.trans r0 e2))
theorem fits_upd {Q : VK} {i : Nat} {l l' : List D} {vs vs' : List V} {d : D} {v : V} (r : RW u rho w H) (h : w.get i = some (.lst l)) (e : H (rho i) = some (.lst vs)) (hr : RVs u rho w.n H l' vs') (hd : RV u rho w.n H d v)
    (q : Post u E rho w H Q (.ok d (w.set i (.lst l')))) : Q v (L2.upd H (rho i) (.lst vs')) := by
  have tp : Tups H (L2.upd H (rho i) (.lst vs')) := .write e (wr_lst _)
  obtain ⟨r', e'⟩ := r.upd (o' := .lst l') (ho' := .lst vs') h e (wr_lst _) (fun _ z => by cases z) ⟨vs', upd_same, hr.mono (Nat.le_refl _) (fun _ _ => rfl) tp⟩
  exact q rho _ _ e' r' (e'.rv hd)
def fAppend : D → List D → W → R := fun x ds w => match x, ds with
  | .ref i, [y] => (match w.get i with
    | some (.lst l) => bif Nat.ble l.length 100000 then .ok .non (w.set i (.lst (l ++ [y]))) else .bad
    | _ => .bad)
  | _, _ => .bad
theorem fits_append : FitsM u E rAppend fAppend := by
  intro rho w H d v ds vs Q r rv rvs q
  unfold fAppend at q
  split at q
  · rename_i i y
    match v, rv, vs, rvs with
    | _, .ref _ hi ha, [vy], .cons ry .nil =>
      subst ha
      split at q
      · rename_i l e0
        obtain ⟨xs, e1, hr⟩ := r.lst e0
        cases hb : Nat.ble l.length 100000 with
        | false => rw [hb] at q; exact q.elim
        | true =>
          rw [hb] at q
          have hl := hr.length
          have hb' := Nat.le_of_ble_eq_true hb
          exact ⟨_, xs, vy, rfl, rfl, e1, by rw [sizeLine_eq]; omega, fits_upd r e0 e1 (hr.append (.cons ry .nil)) .non q⟩
      · exact q.elim
  · exact q.elim
def fExtend : D → List D → W → R := fun x ds w => match x, ds with
  | .ref i, [.ref j] => (match w.get i, w.get j with
    | some (.lst l), some (.lst m) => bif Nat.ble (Nat.add l.length m.length) 100000 then .ok .non (w.set i (.lst (l ++ m))) else .bad
    | _, _ => .bad)
  | _, _ => .bad
theorem fits_extend : FitsM u E rExtend fExtend := by
  intro rho w H d v ds vs Q r rv rvs q
  unfold fExtend at q
  split at q
  · rename_i i j
    match v, rv, vs, rvs with
    | _, .ref _ hi ha, [_], .cons (.ref _ hj hb) .nil =>
      subst ha hb
      split at q
      · rename_i l m e0 f0
        obtain ⟨xs, e1, hr⟩ := r.lst e0
        obtain ⟨ys, f1, hr2⟩ := r.lst f0
        cases hb : Nat.ble (Nat.add l.length m.length) 100000 with
        | false => rw [hb] at q; exact q.elim
        | true =>
          rw [hb] at q
          have hl := hr.length
          have hl2 := hr2.length
          have hb' : l.length + m.length ≤ 100000 := Nat.le_of_ble_eq_true hb
          exact ⟨_, _, xs, ys, rfl, rfl, e1, f1, by rw [sizeLine_eq]; omega, fits_upd r e0 e1 (hr.append hr2) .non q⟩
      · exact q.elim
  · exact q.elim
/-! ### xs[i] = v -/
def lset : List D → Nat → D → List D
  | [], _, _ => []
  | _ :: r, 0, d => d :: r
  | x :: r, i + 1, d => x :: lset r i d
theorem lset_eq : ∀ (l : List D) (i : Nat) (d : D), lset l i d = l.set i d
  | [], _, _ => rfl
  | _ :: _, 0, _ => rfl
  | x :: r, i + 1, d => by
    show x :: lset r i d = _
    rw [lset_eq r i d]; rfl
/-- a target o[i], with o and i evaluated behind the value -/
def gSubL (mo mi : M) : G := fun d s w => match mo s w with
  | .ok (.ref r) w1 => (match mi s w1 with
    | .ok (.int (.ofNat k)) w2 => (match w2.get r with
      | some (.lst l) => bif Nat.blt k l.length then .ok s (w2.set r (.lst (lset l k d))) else .bad
      | _ => .bad)
    | _ => .bad)
  | _ => .bad
theorem sg_subL {mo mi : M} (h : PG X e (gSub (tM u E0 mo) (tM u E0 mi) rSetL)) : PG X e (tMG u (gSubL mo mi)) := by
  refine h.imp fun v σ H N ⟨rho, s, w, d, r, Z, rv, q⟩ => ?_
  unfold gSubL at q
  refine tM_then r Z ?_
  revert q
  cases mo s w with
  | bad => exact id
  | ex c p w1 => exact fun q => q.elim
  | ok d1 w1 =>
    intro q rho1 H1 v1 e1 r1 Z1 rv1
    cases d1 <;> try exact q.elim
    rename_i k1
    dsimp only at q
    refine tM_then r1 Z1 ?_
    revert q
    cases mi s w1 with
    | bad => exact id
    | ex c p w2 => exact fun q => q.elim
    | ok d2 w2 =>
      intro q rho2 H2 v2 e2 r2 Z2 rv2
      split at q
      · rename_i k w2' ek
        cases ek
        split at q
        · rename_i l e0
          cases hb : Nat.blt k l.length with
          | false => rw [hb] at q; exact q.elim
          | true =>
            rw [hb] at q
            have rv1' := e2.rv rv1
            obtain ⟨xs, f1, hr⟩ := r2.lst e0
            cases rv1' with
            | ref _ hi ha =>
              cases rv2
              have hl := hr.length
              have hk := nat_blt hb
              refine ⟨_, xs, _, k, rfl, rfl, by rw [ha]; exact f1, ?_, ?_⟩
              · show ixN xs.length ((k : Nat) : Int) = some k
                unfold ixN
                rw [if_pos (by omega), if_pos (by omega)]
                rfl
              · have rvd := (e1.trans r e2).rv rv
                have tp : Tups H2 (L2.upd H2 (rho2 k1) (.lst (xs.set k v))) := .write f1 (wr_lst _)
                obtain ⟨r', e'⟩ := r2.upd (o' := .lst (lset l k d)) (ho' := .lst (xs.set k v)) e0 f1 (wr_lst _) (fun _ z => by cases z)
                  ⟨xs.set k v, upd_same, by rw [lset_eq]; exact (hr.set k rvd).mono (Nat.le_refl _) (fun _ _ => rfl) tp⟩
                rw [ha]
                exact q rho2 _ σ ((e1.trans r e2).trans r e') r' (Z2.mono (Nat.le_refl _) (fun _ _ => rfl) tp)
        · exact q.elim
      · exact q.elim
/-! ### slices -/
def optM (m : Option M) (s : S) (w : W) (k : Option Int → W → R) : R := match m with
  | none => k none w
  | some m => (match m s w with
    | .ok (.int i) w1 => k (some i) w1
    | .ex c p w => .ex c p w
    | _ => .bad)
def fSl (x : D) (lo hi : Option Int) (w : W) : R := match x with
  | .tup l => bif (bif Nat.beq (HT.sIx l.length 0 lo) 0 then Nat.beq (HT.sIx l.length l.length hi) l.length else false) then .ok (.tup l) w else .ok (.tup (dCut l lo hi)) w
  | .ref i => (match wl w i with
    | some l => alloc (.lst (dCut l lo hi)) w
    | none => .bad)
  | _ => .bad
def mSl (a : M) (lo hi : Option M) : M := fun s w => match a s w with
  | .ok d w1 => optM lo s w1 fun l w2 => optM hi s w2 fun h w3 => fSl d l h w3
  | .ex c p w => .ex c p w
  | .bad => .bad
def tMO (u : U) (E : XK) : Option M → TO
  | none => tNoPart
  | some m => tPart (tM u E m)
theorem tMO_then {mo : Option M} {Q' : Option Int → Hp → Prop} {Q : VK} {k : Option Int → W → R} {rho0 : Nat → Addr} {w0 : W} {H0 : Hp} (r : RW u rho w H) (Z : SS u rho w.n H s σ) (r0 : RW u rho0 w0 H0) (e0 : Ext u rho0 w0 H0 rho w H)
    (q : Post u E rho0 w0 H0 Q (optM mo s w k)) (hk : ∀ o rho1 w1 H1, Ext u rho w H rho1 w1 H1 → RW u rho1 w1 H1 → SS u rho1 w1.n H1 s σ → Post u E rho0 w0 H0 Q (k o w1) → Q' o H1) : tMO u E mo σ H Q' := by
  cases mo with
  | none => exact hk none rho w H .refl r Z q
  | some m =>
    refine tM_then r Z ?_
    unfold optM at q
    dsimp only at q
    revert q
    cases m s w with
    | bad => exact id
    | ex c p w1 => exact fun q => PostX.to q r0 e0
    | ok d w1 =>
      intro q rho1 H1 v e1 r1 Z1 rv
      cases d <;> try exact q.elim
      cases rv
      exact ⟨_, rfl, hk _ rho1 w1 H1 e1 r1 Z1 q⟩
def rSlB (K : PySem.W.Frag) : V → Option Int → Option Int → Hp → VK → Prop := fun x lo hi H Q => L2.rSlA K x lo hi H Q ∨ rSlL K x lo hi H Q
theorem se_sl {lo hi : Option M} (hK : X.K = u.K) (h : PE X e (tSl (rSlB X.K) (tM u E ma) (tMO u E lo) (tMO u E hi))) : PE X e (tM u E (mSl ma lo hi)) := by
  refine h.imp fun σ H Q ⟨rho, s, w, r, Z, q⟩ => ?_
  refine tM_then r Z ?_
  unfold mSl at q
  revert q
  cases ma s w with
  | bad => exact id
  | ex c p w1 => exact id
  | ok d w1 =>
    intro q rho1 H1 v e1 r1 Z1 rv
    refine tMO_then r1 Z1 r e1 q fun l rho2 w2 H2 e2 r2 Z2 q2 => ?_
    refine tMO_then r2 Z2 r (e1.trans r e2) q2 fun h rho3 w3 H3 e3 r3 Z3 q3 => ?_
    have q4 := q3.to r ((e1.trans r e2).trans r e3)
    have rv4 := e3.rv (e2.rv rv)
    rw [hK]
    unfold fSl at q4
    cases rv4 with
    | @tup ls a vs hq hr =>
      dsimp only at q4
      refine .inl ⟨a, vs, rfl, hq, fun ⟨z1, z2⟩ => ?_, fun hw p hp => ?_⟩
      · rw [← hr.length] at z1 z2
        rw [z1, z2, Nat.beq_refl, Nat.beq_refl] at q4
        exact q4 rho3 H3 _ .refl r3 (.tup hq hr)
      · cases hb : (bif Nat.beq (HT.sIx ls.length 0 l) 0 then Nat.beq (HT.sIx ls.length ls.length h) ls.length else false) with
        | true =>
          refine absurd ?_ hw
          obtain ⟨y1, y2⟩ := bif_and hb
          rw [← hr.length]
          exact ⟨nat_beq y1, nat_beq y2⟩
        | false =>
          rw [hb] at q4
          obtain ⟨r', e'⟩ := r3.tup (o := .tup (cutV vs l h)) hp
          exact q4 rho3 _ _ e' r' (.tup (.inl (.inl upd_same)) (e'.rvs (dCut_ok hr l h)))
    | ref i hi' ha =>
      dsimp only at q4
      cases e0 : wl w3 i with
      | none => rw [e0] at q4; exact q4.elim
      | some ls =>
        rw [e0] at q4
        obtain ⟨vs, hs, hr⟩ := r3.wl e0
        subst ha
        exact .inr ⟨_, vs, rfl, hs, fits_new r3 (dCut_ok hr l h) q4⟩
    | _ => exact q4.elim
/-- xs[::-1] -/
def fRev : F1 := fun x w => match x with
  | .ref i => (match wl w i with
    | some l => alloc (.lst l.reverse) w
    | none => .bad)
  | _ => .bad
theorem fits_rev : Fits1 u E (fun x H1 Q => ∃ a xs, x = .ref a ∧ SqL u.K H1 a xs ∧ ∀ p, H1 p = none → Q (.ref p) (L2.upd H1 p (.lst xs.reverse))) fRev := by
  intro rho w H d v Q r rv q
  unfold fRev at q
  cases rv with
  | ref i hi ha =>
    dsimp only at q
    split at q
    · rename_i l e0
      obtain ⟨vs, hs, hr⟩ := r.wl e0
      subst ha
      exact ⟨_, vs, rfl, hs, fits_new r hr.reverse q⟩
    · exact q.elim
  | _ => exact q.elim
end
end Ev

set_option Elab.async false
set_option linter.all false
set_option maxRecDepth 100000
set_option maxHeartbeats 4000000
/-! EvT: isinstance; instances of own classes. -/
namespace Ev
open PySem PySem.Spec PyProof.Rows L2
/-- what is asked of the written part about own classes: those whose number is below nc -/
structure UOk (u : U) (nc : Nat) : Prop where
  cls : ∀ c, c < nc → Cls u.K (u.cl c)
  cl1 : ∀ c, c < nc → PySem.W.findIn u.K (.ref (u.cl c)) "__class__" = some (some (.builtin "object.__class__"))
  cl2 : PySem.W.specialIn u.K (.builtin "object.__class__") "__get__" = some (some (.builtin "getset_descriptor.__get__"))
  cl3 : PySem.W.takesIn u.K (.builtin "object.__class__") = some true
  cl4 : ∀ c, c < nc → PySem.W.mroIn u.K (u.cl c) (.type "object") = some true
  own : ∀ c d, c < nc → d < nc → PySem.W.kitOne u.K (.ref (u.cl c)) (.ref (u.cl d)) = some (Nat.beq c d)
  bi : ∀ k c, k < 7 → c < nc → PySem.W.kitOne u.K (.type (tyName k)) (.ref (u.cl c)) = some false
  ob : ∀ c k, c < nc → k < 7 → PySem.W.kitOne u.K (.ref (u.cl c)) (.type (tyName k)) = some false
def isB (a b : Nat) : Bool := bif Nat.beq a b then true else bif Nat.beq a 1 then Nat.beq b 0 else false
theorem isB_ok {K : PySem.W.Frag} : ∀ a b : Nat, a < 7 → b < 7 → PySem.W.kitOne K (.type (tyName a)) (.type (tyName b)) = some (isB a b) := by
  intro a b ha hb
  apply kit_ty
  have h : ∀ a b : Fin 7, kitB (tyName a.1) (tyName b.1) = some (isB a.1 b.1) := by decide +kernel
  exact h ⟨a, ha⟩ ⟨b, hb⟩
/-- a value's type: a built-in one (.inl), an own class (.inr) -/
def tagOf (w : W) : D → Option (Nat ⊕ Nat)
  | .int _ => some (.inl 0)
  | .bl _ => some (.inl 1)
  | .str _ => some (.inl 2)
  | .tup _ => some (.inl 3)
  | .non => some (.inl 6)
  | .ref i => (match w.get i with
    | some (.lst _) => some (.inl 4)
    | some (.fl _) => some (.inl 4)
    | some (.ins c _) => some (.inr c)
    | _ => none)
  | _ => none
def tagV (u : U) : Nat ⊕ Nat → Value
  | .inl k => .type (tyName k)
  | .inr c => .ref (u.cl c)
section
variable {X : Cx} {u : U} {E : XK} {rho : Nat → Addr} {w : W} {H : Hp} {s : S} {σ : L2.St} {e a b : Expr} {ma mb : M} {mas : MA} {nc : Nat}
theorem tag_ok (O : UOk u nc) (r : RW u rho w H) {d : D} {v : V} {t : Nat ⊕ Nat} (rv : RV u rho w.n H d v) (h : tagOf w d = some t) (hc : ∀ c, t = .inr c → c < nc) : TyX u.K H v (tagV u t) ∧ ∀ k, t = .inl k → k < 7 := by
  unfold tagOf at h
  cases rv with
  | int i => cases h; exact ⟨.base (.int i), fun k e => by cases e; decide⟩
  | bl i => cases h; exact ⟨.base (.bl i), fun k e => by cases e; decide⟩
  | str x hx => cases h; exact ⟨.base (.str x), fun k e => by cases e; decide⟩
  | non => cases h; exact ⟨.base .non, fun k e => by cases e; decide⟩
  | tup hq hr =>
    cases h
    refine ⟨?_, fun k e => by cases e; decide⟩
    rcases hq with (hq | ⟨o, hq⟩) | ⟨o, its, n, hk, hcl, _⟩
    · exact .base (.tup hq)
    · exact .fTuple hq
    · exact .kTuple hk hcl
  | ref i hi ha =>
    subst ha
    dsimp only at h
    split at h
    · rename_i l e0
      cases h
      obtain ⟨vs, e1, _⟩ := r.obj i _ e0
      exact ⟨.base (.lst e1), fun k e => by cases e; decide⟩
    · rename_i l e0
      cases h
      obtain ⟨ob, vs, e1, _⟩ := r.obj i _ e0
      exact ⟨.base (.frz e1), fun k e => by cases e; decide⟩
    · rename_i c fs e0
      cases h
      obtain ⟨dx, nvs, e1, e2, e3, _⟩ := r.obj i _ e0
      have hcn := hc c rfl
      exact ⟨.base (.ins e1 (O.cls c hcn) (O.cl1 c hcn) O.cl2 O.cl3 (O.cl4 c hcn)), fun k e => by cases e⟩
    · cases h
  | _ => cases h
/-- isinstance(x, T) -/
def isT (nc : Nat) (t : Nat ⊕ Nat) : D → Option Bool
  | .ty k => bif Nat.blt k 7 then (match t with
    | .inl j => some (isB j k)
    | .inr c => bif Nat.blt c nc then some false else none) else none
  | .cls d => bif Nat.blt d nc then (match t with
    | .inl _ => some false
    | .inr c => bif Nat.blt c nc then some (Nat.beq c d) else none) else none
  | _ => none
def fIsI (nc : Nat) : FN := fun ds w => match ds with
  | [x, t] => (match tagOf w x with
    | some g => (match isT nc g t with
      | some b => .ok (.bl b) w
      | none => .bad)
    | none => .bad)
  | _ => .bad
theorem bcond {b : Bool} {α : Type} {x : Option α} {z : α} (h : (bif b then x else none) = some z) : b = true ∧ x = some z := by
  cases b with
  | true => exact ⟨rfl, h⟩
  | false => cases h
theorem isT_ok (O : UOk u nc) {g : Nat ⊕ Nat} {t : D} {vt : V} {b : Bool} {n : Nat} (rt : RV u rho n H t vt) (hg : ∀ k, g = .inl k → k < 7) (h : isT nc g t = some b) : ∃ ut, ClsV vt ut ∧ PySem.W.kitOne u.K (tagV u g) ut = some b := by
  unfold isT at h
  cases rt with
  | ty k =>
    dsimp only at h
    obtain ⟨hk, h⟩ := bcond h
    cases g with
    | inl j => cases h; exact ⟨_, .ty _, isB_ok j k (hg j rfl) (nat_blt hk)⟩
    | inr c =>
      obtain ⟨hc, h⟩ := bcond h
      cases h
      exact ⟨_, .ty _, O.ob c k (nat_blt hc) (nat_blt hk)⟩
  | cls d e =>
    subst e
    dsimp only at h
    obtain ⟨hd, h⟩ := bcond h
    cases g with
    | inl j => cases h; exact ⟨_, .own _, O.bi j d (hg j rfl) (nat_blt hd)⟩
    | inr c =>
      obtain ⟨hc, h⟩ := bcond h
      cases h
      exact ⟨_, .own _, O.own c d (nat_blt hc) (nat_blt hd)⟩
  | _ => cases h
theorem isT_lt {g : Nat ⊕ Nat} {t : D} {b : Bool} (h : isT nc g t = some b) : ∀ c, g = .inr c → c < nc := by
  intro c e
  subst e
  unfold isT at h
  split at h
  · obtain ⟨_, h⟩ := bcond h
    exact nat_blt (bcond h).1
  · obtain ⟨_, h⟩ := bcond h
    exact nat_blt (bcond h).1
  · cases h
theorem fits_isI (O : UOk u nc) : FitsN u E (rIsi u.K) (fIsI nc) := by
  intro rho w H ds vs Q r rv q
  unfold fIsI at q
  split at q
  · match vs, rv with
    | [_, _], .cons rx (.cons rt .nil) =>
      split at q
      · rename_i g eg
        split at q
        · rename_i b eb
          obtain ⟨ty, hk⟩ := tag_ok O r rx eg (isT_lt eb)
          obtain ⟨ut, hc, hb⟩ := isT_ok O rt hk eb
          exact ⟨_, _, _, ut, b, rfl, hc, ty, hb, q rho H _ .refl r (.bl _)⟩
        · exact q.elim
      · exact q.elim
  · exact q.elim
/-- isinstance(x, (T, S)), two built-in types -/
def mIsI2 (nc j k : Nat) (a : M) : M := fun s w => match a s w with
  | .ok x w1 => (match tagOf w1 x with
    | some (.inl i) => .ok (.bl (bif isB i j then true else isB i k)) w1
    | some (.inr c) => bif Nat.blt c nc then .ok (.bl false) w1 else .bad
    | none => .bad)
  | .ex c p w => .ex c p w
  | .bad => .bad
theorem se_isI2 (O : UOk u nc) {j k : Nat} (hj : j < 7) (hk : k < 7)
    (h : PE X e (tCB (rIsiT u.K) (tCons (tM u E ma) (tCons (tTup (tCons (tC (.ty (tyName j))) (tCons (tC (.ty (tyName k))) tNil))) tNil)))) : PE X e (tM u E (mIsI2 nc j k ma)) := by
  refine h.imp fun σ H Q ⟨rho, s, w, r, Z, q⟩ => ?_
  refine tM_then r Z ?_
  unfold mIsI2 at q
  revert q
  cases ma s w with
  | bad => exact id
  | ex c p w1 => exact id
  | ok d w1 =>
    intro q rho1 H1 v e1 r1 Z1 rv
    refine ⟨by show 2 ≤ sizeLine; decide, fun p hp => ?_⟩
    obtain ⟨r2, e2⟩ := r1.tup (o := .tup [.ty (tyName j), .ty (tyName k)]) hp
    have rv2 := e2.rv rv
    dsimp only at q
    have fin : ∀ g b, tagOf w1 d = some g → (∀ c, g = .inr c → c < nc) → (∀ i, g = .inl i → b = (bif isB i j then true else isB i k)) → (∀ c, g = .inr c → b = false) → Post u E rho w H Q (.ok (.bl b) w1) →
        rIsiT u.K [v, .ref p] (L2.upd H1 p (.tup [.ty (tyName j), .ty (tyName k)])) Q := by
      intro g b eg hg hb1 hb2 q
      obtain ⟨ty, h7⟩ := tag_ok O r2 rv2 eg hg
      refine ⟨v, p, [.ty (tyName j), .ty (tyName k)], tagV u g, [.type (tyName j), .type (tyName k)], b, rfl, upd_same, .cons (.ty _) (.cons (.ty _) .nil), ty, ?_, q rho1 _ _ (e1.trans r e2) r2 (.bl _)⟩
      cases g with
      | inl i =>
        rw [hb1 i rfl]
        have hi := h7 i rfl
        refine kitAny_cons (isB_ok i j hi hj) (fun e => ?_) (fun e => by rw [e]; rfl)
        rw [e]
        refine kitAny_cons (isB_ok i k hi hk) (fun e => ?_) (fun e => by rw [e]; rfl)
        rw [e]
        exact kitAny_nil
      | inr c =>
        rw [hb2 c rfl]
        have hc := hg c rfl
        exact kitAny_cons (O.ob c j hc hj) (fun _ => kitAny_cons (O.ob c k hc hk) (fun _ => kitAny_nil) (fun e => by cases e)) (fun e => by cases e)
    split at q
    · rename_i i eg
      exact fin (.inl i) _ eg (fun c e => by cases e) (fun i' e => by cases e; rfl) (fun c e => by cases e) q
    · rename_i c eg
      cases hb : Nat.blt c nc with
      | false => rw [hb] at q; exact q.elim
      | true =>
        rw [hb] at q
        exact fin (.inr c) _ eg (fun c' e => by cases e; exact nat_blt hb) (fun i' e => by cases e) (fun c e => rfl) q
    · exact q.elim
end
end Ev

set_option Elab.async false
set_option linter.all false
set_option maxRecDepth 100000
set_option maxHeartbeats 4000000
/-! EvF: defs, calls, new instances. -/
namespace Ev
open PySem PySem.Spec PyProof.Rows L2
/-- a promise of a def that lets no exception out -/
def sp0 (u : U) (f : FN) (n : Nat) : Sp := fun vs H Q _ => spM u f n vs H Q E0
section
variable {u : U} {mg : Str → Option Value} {base : Heap} {x qual : Str} {params : Arguments} {body : List Stmt} {scope : Scope} {dvs : List V} {kws : List (Str × V)} {f : Addr} {fd : FuncData} {N ps : List Str} {B : MS} {k : Nat}
theorem bbeq {b : Bool} {x : R} {u : U} {E : XK} {rho : Nat → Addr} {w : W} {H : Hp} {Q : VK} (h : Post u E rho w H Q (bif b then x else .bad)) : b = true ∧ Post u E rho w H Q x := by
  cases b with
  | true => exact ⟨rfl, h⟩
  | false => exact h.elim
theorem def_ok (F : FunD u.K x qual params body scope dvs kws f fd) (S : FnScope N ps scope) {n kx : Nat} (hn : ps.length = n) (hN : N.length = n + kx)
    (hb : ∀ (cdv : Value) (A : Around) (outer : List Env) (s : Shared) (H : Hp) (E : XK), Room k (A.deeper (envOfC qual scope s.heap.objs.size f cdv)) → PSs (cxOf CX0 u.P u.w u.K mg base N qual scope f cdv A outer s H E).nox body (tMS u E0 B)) :
    FnOk u.P u.w u.K mg base CX0 (k + 1) f fd ps (sp0 u (fDef n kx B) n) := by
  refine F.ok S (fun vs H Q E h => h.1.trans hn.symm) (fun cdv A outer s H vs Q E hr h => ⟨tMS u E0 B, PSs.nox (hb cdv A outer s H E hr), ?_⟩)
  obtain ⟨hl, rho, w, ds, r, rv, q⟩ := h
  unfold fDef at q
  obtain ⟨_, q⟩ := bbeq q
  refine ⟨rho, ds ++ List.replicate kx .no, w, r, ?_, ?_⟩
  · have e : N.length - vs.length = kx := by omega
    unfold L2.start
    rw [e]
    exact SS.start rv kx
  · revert q
    cases B (ds ++ List.replicate kx .no) w with
    | rt d w1 => exact id
    | nx s1 w1 => exact fun q rho' H' σ' e r' _ => q rho' H' .non e r' .non
    | ex c p w1 => exact id
    | bk s1 w1 => exact fun q => q.elim
    | ct s1 w1 => exact fun q => q.elim
    | bad => exact fun q => q.elim
end
section
variable {X : Cx} {u : U} {rho : Nat → Addr} {w : W} {H : Hp} {s : S} {σ : L2.St} {e a b : Expr} {ma mb mo mv : M} {mas : MA} {n kx : Nat} {B : MS} {dvs : List V} {dds : List D} {st : Stmt}
theorem se_call (h : PE X e (tCall (sp0 u (fDef n kx B) n) dvs E0 (tMA u E0 mas))) (hd : ∀ rho n H, RVs u rho n H dds dvs) : PE X e (tM u E0 (mCall (fDef n kx B) dds mas)) := by
  refine se_n (r := fun vs H1 Q => sp0 u (fDef n kx B) n (vs ++ dvs) H1 Q E0) h fun rho w H ds vs Q r rv q => ?_
  have rv2 : RVs u rho w.n H (ds ++ dds) (vs ++ dvs) := rv.append (hd _ _ _)
  have q' := q
  unfold fDef at q'
  obtain ⟨hb, _⟩ := bbeq q'
  exact ⟨rv2.length.symm.trans (nat_beq hb), rho, w, ds ++ dds, r, rv2, q⟩
theorem se_make {c : Nat} {C : Addr} (hC : C = u.cl c) (h : PE X e (tMake C (sp0 u (fDef n kx B) n) [] E0 (tMA u E0 mas))) : PE X e (tM u E0 (mMake c (fDef n kx B) mas)) := by
  refine h.imp fun σ H Q ⟨rho, s, w, r, Z, q⟩ => ?_
  refine tMA_then r Z ?_
  unfold mMake at q
  revert q
  cases mas s w with
  | bad => exact id
  | ex c p w1 => exact id
  | ok ds w1 =>
    intro q rho1 H1 vs e1 r1 Z1 rv x dx hx hdx hne
    dsimp only at q
    unfold alloc at q
    cases hb : Nat.blt w1.n 1000000000 with
    | false => rw [hb] at q; exact q.elim
    | true =>
      rw [hb] at q
      dsimp only [cond_true] at q
      -- the new instance's dict, then the instance
      obtain ⟨r2, e2⟩ := r1.tup (o := .own x) hdx
      have hx2 : (L2.upd H1 dx (.own x)) x = none := by rw [upd_ne (fun z => hne z.symm)]; exact hx
      obtain ⟨r3, e3⟩ := r2.new (p := x) (ho := .ins C dx []) (o := .ins c []) hx2 hb ⟨dx, [], by rw [upd_same, hC], by rw [upd_ne hne, upd_same], rfl, .nil⟩ (fun _ z => by cases z)
      have e13 := e1.trans r (e2.trans r1 e3)
      have rvs3 := (e2.trans r1 e3).rvs rv
      rw [List.append_nil]
      have q1 : Post u E0 (rhoN rho1 w1.n x) (.mk (Nat.succ w1.n) (w1.t.put 40 w1.n (.ins c []))) (L2.upd (L2.upd H1 dx (.own x)) x (.ins C dx [])) (fun v H2 => v = V.non ∧ Q (.ref x) H2) (fDef n kx B (.ref w1.n :: ds) (.mk (Nat.succ w1.n) (w1.t.put 40 w1.n (.ins c [])))) := by
        revert q
        cases fDef n kx B (.ref w1.n :: ds) (.mk (Nat.succ w1.n) (w1.t.put 40 w1.n (.ins c []))) with
        | bad => exact id
        | ex c p w => exact fun q => PostX.to q r e13
        | ok d w4 =>
          intro q
          cases d <;> try exact q.elim
          intro rho4 H4 v4 e4 r4 rv4
          cases rv4
          have hlt : w1.n < w4.n := Nat.lt_of_lt_of_le (Nat.lt_succ_self _) e4.n
          exact ⟨rfl, q rho4 H4 _ (e13.trans r e4) r4 (.ref _ hlt ((e4.rh w1.n (Nat.lt_succ_self _)).trans rhoN_at).symm)⟩
      have q' := q1
      unfold fDef at q'
      obtain ⟨hb2, _⟩ := bbeq q'
      have rv4 : RVs u (rhoN rho1 w1.n x) (Nat.succ w1.n) (L2.upd (L2.upd H1 dx (.own x)) x (.ins C dx [])) (.ref w1.n :: ds) (.ref x :: vs) := .cons (.ref _ (Nat.lt_succ_self _) rhoN_at.symm) rvs3
      exact ⟨rv4.length.symm.trans (nat_beq hb2), _, _, _, r3, rv4, q1⟩
/-- self.f = e in an __init__: the fields in their order -/
theorem putF_new {f : Str} {v : V} : ∀ {fs : List (Str × V)}, f ∉ fs.map (·.1) → putF f v fs = fs ++ [(f, v)]
  | [], _ => rfl
  | (g, x) :: r, h => by
    unfold putF
    rw [if_neg (fun z => h (by rw [z]; exact List.mem_cons_self)), putF_new (fun z => h (List.mem_cons_of_mem _ z))]
    rfl
theorem ss_fld {c j : Nat} {C : Addr} {fn : Str} (hK : X.K = u.K) (hcl : Cls u.K (u.cl c)) (hna : NoAttr u.K (u.cl c) fn) (hj : (u.fld c)[j]? = some fn) (hnd : (u.fld c).Nodup) (hlen : (u.fld c).length < 100)
    (h : PS X st (sFld X.K (tM u E0 mo) (tM u E0 mv) fn)) : PS X st (tMS u E0 (sFldSet c j mo mv)) := by
  refine h.imp fun D σ H ⟨rho, s, w, r, Z, q⟩ => ?_
  refine tM_then r Z ?_
  unfold sFldSet at q
  revert q
  cases mv s w with
  | bad => exact id
  | ex c p w1 => exact id
  | ok d w1 =>
    intro q rho1 H1 v e1 r1 Z1 rv
    refine tM_then r1 Z1 ?_
    dsimp only at q
    revert q
    cases mo s w1 with
    | bad => exact id
    | ex c p w2 => exact fun q => PostX.to q r e1
    | ok d2 w2 =>
      intro q rho2 H2 v2 e2 r2 Z2 rv2
      cases d2 <;> try exact q.elim
      rename_i i
      dsimp only at q
      split at q
      · rename_i k fs e0
        cases hb : Nat.beq k c with
        | false => rw [hb] at q; exact q.elim
        | true =>
          rw [hb] at q
          dsimp only [cond_true] at q
          cases hb2 : Nat.beq j fs.length with
          | false => rw [hb2] at q; exact q.elim
          | true =>
            rw [hb2] at q
            have hk := nat_beq hb
            have hj2 := nat_beq hb2
            subst hk hj2
            obtain ⟨dx, nvs, f1, f2, f3, f4⟩ := r2.obj i _ e0
            cases rv2 with
            | ref _ hi ha =>
              subst ha
              have hl : nvs.length = fs.length := by
                have a := f4.length
                rw [List.length_map] at a
                exact a.symm
              have hlt : fs.length < (u.fld k).length := (List.getElem?_eq_some_iff.mp hj).1
              have hnot : fn ∉ nvs.map (·.1) := by
                rw [f3]
                intro hm
                obtain ⟨m, hm1, hm2⟩ := List.mem_iff_getElem.mp hm
                rw [List.length_take] at hm1
                rw [List.getElem_take] at hm2
                obtain ⟨h1, h2⟩ := List.getElem?_eq_some_iff.mp hj
                have := (List.getElem_inj hnd).mp (hm2.trans h2.symm)
                omega
              rw [hK]
              refine ⟨_, _, dx, nvs, rfl, f1, hcl, hna, by omega, ?_⟩
              rw [putF_new hnot]
              have rvd := e2.rv rv
              have tp : Tups H2 (L2.upd H2 (rho2 i) (.ins (u.cl k) dx (nvs ++ [(fn, v)]))) := .write f1 (wr_ins _ _ _)
              have hne : dx ≠ rho2 i := fun z => by rw [z, f1] at f2; cases f2
              obtain ⟨r3, e3⟩ := r2.upd (o' := .ins k (fs ++ [d])) (ho' := .ins (u.cl k) dx (nvs ++ [(fn, v)])) e0 f1 (wr_ins _ _ _) (fun _ z => by cases z)
                ⟨dx, nvs ++ [(fn, v)], upd_same, by rw [upd_ne hne]; exact f2, by
                  rw [List.map_append, f3, List.length_append]
                  show _ = (u.fld k).take (fs.length + 1)
                  rw [List.take_add_one, hj]; rfl, by
                  rw [List.map_append]
                  exact (f4.append (.cons rvd .nil)).mono (Nat.le_refl _) (fun _ _ => rfl) tp⟩
              exact q rho2 _ σ ((e1.trans r e2).trans r e3) r3 (Z2.mono (Nat.le_refl _) (fun _ _ => rfl) tp)
      · exact q.elim
end
end Ev

set_option Elab.async false
set_option linter.all false
set_option maxRecDepth 100000
set_option maxHeartbeats 4000000
/-! EvD: dicts whose keys are tuples. -/
namespace Ev
open PySem PySem.Spec PyProof.Rows L2
/-! ### keys -/
theorem keyOf_depth_go {n : Nat} (ih : ∀ d k, keyOf n d = some k → k.depth ≤ n) : ∀ (l : List D) (ks : List NestedKey), keyOf.go n l = some ks → NestedKey.depthAll ks ≤ n
  | [], ks, h => by simp only [keyOf.go, Option.some.injEq] at h; subst h; exact Nat.zero_le _
  | d :: r, ks, h => by
    simp only [keyOf.go] at h
    split at h
    · rename_i x xs h1 h2
      cases h
      exact Nat.max_le.mpr ⟨ih d x h1, keyOf_depth_go ih r xs h2⟩
    · cases h
theorem keyOf_depth : ∀ (n : Nat) (d : D) (k : NestedKey), keyOf n d = some k → k.depth ≤ n
  | 0, d, k, h => by simp [keyOf] at h
  | n + 1, d, k, h => by
    unfold keyOf at h
    split at h
    · cases h; exact Nat.zero_le _
    · cases h; exact Nat.zero_le _
    · cases h; exact Nat.zero_le _
    · cases h; exact Nat.zero_le _
    · rename_i l
      cases e : keyOf.go n l with
      | none => rw [e] at h; cases h
      | some ks =>
        rw [e] at h; cases h
        exact Nat.succ_le_succ (keyOf_depth_go (keyOf_depth n) l ks e)
    · cases h
section
variable {X : Cx} {u : U} {pins : List (Addr × Obj)} {σ : L2.St} {H : Hp} {s : Shared} {rho : Nat → Addr} {m : Nat}
theorem nested_go (I : Inv X pins σ H s) {n : Nat} (ih : ∀ d v k uv, keyOf n d = some k → RV u rho m H d v → RelV v uv → NestedIs s.heap k uv) : ∀ (l : List D) (vs : List V) (ks : List NestedKey) (us : List Value), keyOf.go n l = some ks → RVs u rho m H l vs → Vals vs us → NestedAll s.heap ks us
  | [], _, ks, _, h, .nil, .nil => by simp only [keyOf.go, Option.some.injEq] at h; subst h; exact .nil
  | d :: r, _, ks, _, h, .cons a b, .cons c e => by
    simp only [keyOf.go] at h
    split at h
    · rename_i x xs h1 h2
      cases h
      exact .cons (ih _ _ _ _ h1 a c) (nested_go I ih r _ _ _ h2 b e)
    · cases h
theorem nested_of (I : Inv X pins σ H s) (hK : X.K = u.K) : ∀ (n : Nat) (d : D) (v : V) (k : NestedKey) (uv : Value), keyOf n d = some k → RV u rho m H d v → RelV v uv → NestedIs s.heap k uv
  | 0, d, v, k, uv, h, _, _ => by simp [keyOf] at h
  | n + 1, d, v, k, uv, h, rv, rl => by
    unfold keyOf at h
    cases rv with
    | non => cases h; cases rl; exact .none
    | bl b => cases h; cases rl; exact .bool (by cases b <;> rfl)
    | int i => cases h; obtain ⟨t, rfl⟩ := rl; exact .int i t
    | str x hx => cases h; obtain ⟨t, rfl⟩ := rl; rw [← str_of hx]; exact .text x t
    | @tup l a vs hq hr =>
      dsimp only at h
      cases e : keyOf.go n l with
      | none => rw [e] at h; cases h
      | some ks =>
        rw [e] at h; cases h
        cases rl
        rw [← hK] at hq
        obtain ⟨its, rv2, ⟨o, ho, hc, nn, hd⟩, _⟩ := I.tuple hq
        refine .tup ho hc hd ?_
        exact nested_go I (nested_of I hK n) l vs ks _ e hr (by simpa using rv2)
    | _ => cases h
theorem keyed_of (I : Inv X pins σ H s) (hK : X.K = u.K) {d : D} {a : Addr} {k : NestedKey} (h : keyOf 8 d = some k) (rv : RV u rho m H d (.ref a)) : (nestedKind u.P u.w).is s.heap k a :=
  ⟨nested_of I hK 8 d _ k _ h rv rfl, keyOf_depth 8 d k h⟩
theorem REs_is (I : Inv X pins σ H s) (hK : X.K = u.K) {l : List (D × D)} {xs : List (NestedKey × Addr × Value)} (h : REs u rho m H l xs) : ∀ x ∈ xs, (nestedKind u.P u.w).is s.heap x.1 x.2.1 := by
  induction h with
  | nil => intro x hx; cases hx
  | cons a b c d _ ih =>
    intro x hx
    rcases List.mem_cons.mp hx with rfl | hx
    · exact keyed_of I hK a b
    · exact ih x hx
theorem RD.ofH (I : Inv X pins σ H s) (hK : X.K = u.K) {a : Addr} {l : List (D × D)} {ob : Obj} {es : Array DictEntry} {ep : Nat} {xs : List (NestedKey × Addr × Value)} (h : RD u rho m H a l ob es ep xs) : s.heap.DictOfH (nestedKind u.P u.w) a xs := by
  have hr : ObjOk X.prog X.w H s.heap a (rawO a ob) := I.hok a _ h.at_
  exact ⟨ob, es, ep, hr.1, h.ex, h.data, h.ents, REs_is I hK h.rel, h.nd⟩
end
/-! ### looking up -/
/-- == of keys -/
def kEq : Nat → D → D → Bool
  | 0, _, _ => false
  | k + 1, x, y => match x, y with
    | .int a, .int b => PySem.W.Z.eqB a b
    | .str a, .str b => lnEq a b
    | .tup l, .tup m => go k l m
    | .non, .non => true
    | .bl a, .bl b => bif a then b else bif b then false else true
    | .bl a, .int b => PySem.W.Z.eqB (bif a then 1 else 0) b
    | .int a, .bl b => PySem.W.Z.eqB a (bif b then 1 else 0)
    | _, _ => false
where go (k : Nat) : List D → List D → Bool
  | [], [] => true
  | a :: r, b :: t => bif kEq k a b then go k r t else false
  | _, _ => false
theorem nk_text {s t : List Nat} : decide ((NestedKey.text ⟨s.toArray⟩ : NestedKey) = .text ⟨t.toArray⟩) = decide (s = t) := by
  by_cases h : s = t
  · subst h; simp
  · have : ¬ (NestedKey.text ⟨s.toArray⟩ : NestedKey) = .text ⟨t.toArray⟩ := fun e => h (by
      injection e with e
      injection e with e
      simpa using e)
    rw [decide_eq_false h, decide_eq_false this]
theorem nk_num {a b : Int} : decide ((NestedKey.num a : NestedKey) = .num b) = decide (a = b) := by
  by_cases h : a = b
  · subst h; simp
  · have : ¬ (NestedKey.num a : NestedKey) = .num b := fun e => h (by injection e)
    rw [decide_eq_false h, decide_eq_false this]
theorem kEq_go {n : Nat} (ih : ∀ x y a b, keyOf n x = some a → keyOf n y = some b → kEq n x y = decide (a = b)) : ∀ (l m : List D) (ks js : List NestedKey), keyOf.go n l = some ks → keyOf.go n m = some js → kEq.go n l m = decide (ks = js)
  | [], [], ks, js, h, g => by
    simp only [keyOf.go, Option.some.injEq] at h g
    subst h g; rfl
  | [], d :: r, ks, js, h, g => by
    simp only [keyOf.go, Option.some.injEq] at h
    subst h
    simp only [keyOf.go] at g
    split at g
    · cases g; rfl
    · cases g
  | d :: r, [], ks, js, h, g => by
    simp only [keyOf.go, Option.some.injEq] at g
    subst g
    simp only [keyOf.go] at h
    split at h
    · cases h; rfl
    · cases h
  | d :: r, e :: t, ks, js, h, g => by
    simp only [keyOf.go] at h g
    split at h
    · rename_i x xs h1 h2
      cases h
      split at g
      · rename_i y ys g1 g2
        cases g
        show (bif kEq n d e then kEq.go n r t else false) = _
        rw [ih d e x y h1 g1, kEq_go ih r t xs ys h2 g2]
        by_cases h3 : x = y
        · subst h3
          by_cases h4 : xs = ys
          · subst h4; simp
          · simp [h4]
        · simp [h3]
      · cases g
    · cases h
theorem keyOf_tup {n : Nat} {l : List D} {a : NestedKey} (h : keyOf (n + 1) (.tup l) = some a) : ∃ ks, keyOf.go n l = some ks ∧ a = .tup ks := by
  unfold keyOf at h
  dsimp only at h
  cases e : keyOf.go n l with
  | none => rw [e] at h; cases h
  | some ks => rw [e] at h; cases h; exact ⟨ks, rfl, rfl⟩
theorem kEq_ok : ∀ (n : Nat) (x y : D) (a b : NestedKey), keyOf n x = some a → keyOf n y = some b → kEq n x y = decide (a = b)
  | 0, x, y, a, b, h, _ => by simp [keyOf] at h
  | n + 1, x, y, a, b, h, g => by
    have nn : ∀ {p q : NestedKey}, p ≠ q → false = decide (p = q) := fun z => (decide_eq_false z).symm
    cases x with
    | non =>
      cases h
      cases y with
      | non => cases g; rfl
      | bl c => cases g; exact nn (fun z => by cases z)
      | int c => cases g; exact nn (fun z => by cases z)
      | str c => cases g; exact nn (fun z => by cases z)
      | tup m => obtain ⟨ks, _, rfl⟩ := keyOf_tup g; exact nn (fun z => by cases z)
      | _ => cases g
    | bl c =>
      cases h
      cases y with
      | non => cases g; exact nn (fun z => by cases z)
      | bl d => cases g; rw [nk_num]; cases c <;> cases d <;> rfl
      | int d => cases g; rw [nk_num, ← eqB_dec]; rfl
      | str d => cases g; exact nn (fun z => by cases z)
      | tup m => obtain ⟨ks, _, rfl⟩ := keyOf_tup g; exact nn (fun z => by cases z)
      | _ => cases g
    | int c =>
      cases h
      cases y with
      | non => cases g; exact nn (fun z => by cases z)
      | bl d => cases g; rw [nk_num, ← eqB_dec]; rfl
      | int d => cases g; rw [nk_num, ← eqB_dec]; rfl
      | str d => cases g; exact nn (fun z => by cases z)
      | tup m => obtain ⟨ks, _, rfl⟩ := keyOf_tup g; exact nn (fun z => by cases z)
      | _ => cases g
    | str c =>
      cases h
      cases y with
      | non => cases g; exact nn (fun z => by cases z)
      | bl d => cases g; exact nn (fun z => by cases z)
      | int d => cases g; exact nn (fun z => by cases z)
      | str d => cases g; rw [nk_text, ← lnEq_iff]; rfl
      | tup m => obtain ⟨ks, _, rfl⟩ := keyOf_tup g; exact nn (fun z => by cases z)
      | _ => cases g
    | tup l =>
      obtain ⟨ks, hl, rfl⟩ := keyOf_tup h
      cases y with
      | non => cases g; exact nn (fun z => by cases z)
      | bl d => cases g; exact nn (fun z => by cases z)
      | int d => cases g; exact nn (fun z => by cases z)
      | str d => cases g; exact nn (fun z => by cases z)
      | tup m =>
        obtain ⟨js, hm, rfl⟩ := keyOf_tup g
        show kEq.go n l m = _
        rw [kEq_go (kEq_ok n) l m ks js hl hm]
        by_cases e : ks = js
        · subst e; simp
        · simp [e]
      | _ => cases g
    | _ => cases h
/-- a number for a key: equal keys have equal numbers -/
def codeL (f : D → Nat → Nat) : List D → Nat → Nat
  | [], a => Nat.add (Nat.mul a 32) 1
  | d :: r, a => codeL f r (f d a)
def code : Nat → D → Nat → Nat
  | 0, _, a => a
  | k + 1, d, a => match d with
    | .int (.ofNat n) => Nat.add (Nat.mul a 32) (Nat.add n 4)
    | .tup l => codeL (code k) l (Nat.add (Nat.mul a 32) 2)
    | .non => Nat.add (Nat.mul a 32) 3
    | .bl true => Nat.add (Nat.mul a 32) 5
    | .bl false => Nat.add (Nat.mul a 32) 4
    | _ => a
theorem code_go {n : Nat} (ih : ∀ x y a, kEq n x y = true → code n x a = code n y a) : ∀ (l m : List D) (a : Nat), kEq.go n l m = true → codeL (code n) l a = codeL (code n) m a
  | [], [], _, _ => rfl
  | [], _ :: _, _, h => by cases h
  | _ :: _, [], _, h => by cases h
  | x :: l, y :: m, a, h => by
    have h' : (bif kEq n x y then kEq.go n l m else false) = true := h
    obtain ⟨h1, h2⟩ := bif_and h'
    show codeL (code n) l (code n x a) = codeL (code n) m (code n y a)
    rw [ih x y a h1, code_go ih l m _ h2]
theorem eqB_eq {a b : Int} (h : PySem.W.Z.eqB a b = true) : a = b := (PySem.W.Z.eqB_iff a b).mp h
theorem code_ok : ∀ (n : Nat) (x y : D) (a : Nat), kEq n x y = true → code n x a = code n y a
  | 0, x, y, a, h => rfl
  | n + 1, x, y, a, h => by
    cases x with
    | non =>
      cases y with
      | non => rfl
      | _ => cases h
    | bl b =>
      cases y with
      | bl c => cases b <;> cases c <;> first | rfl | cases h
      | int i =>
        have e := eqB_eq (show PySem.W.Z.eqB (bif b then 1 else 0) i = true from h)
        subst e
        cases b <;> rfl
      | _ => cases h
    | int i =>
      cases y with
      | bl b =>
        have e := eqB_eq (show PySem.W.Z.eqB i (bif b then 1 else 0) = true from h)
        subst e
        cases b <;> rfl
      | int j =>
        have e := eqB_eq (show PySem.W.Z.eqB i j = true from h)
        subst e
        rfl
      | _ => cases h
    | str s =>
      cases y with
      | str t => rfl
      | _ => cases h
    | tup l =>
      cases y with
      | tup m => exact code_go (code_ok n) l m _ h
      | _ => cases h
    | _ => cases y <;> first | rfl | cases h
/-- kEq 8, the numbers first -/
def kEqC (x y : D) : Bool := bif Nat.beq (code 8 x 1) (code 8 y 1) then kEq 8 x y else false
theorem kEqC_eq (x y : D) : kEqC x y = kEq 8 x y := by
  unfold kEqC
  cases h : kEq 8 x y with
  | false => cases Nat.beq (code 8 x 1) (code 8 y 1) <;> rfl
  | true => rw [code_ok 8 x y 1 h, Nat.beq_refl]; rfl
/-- is it a key that is a tuple -/
def okKey (d : D) : Bool := match d with
  | .tup _ => (match keyOf 8 d with | some _ => true | none => false)
  | _ => false
/-- the value at a key; the entries' keys are keys -/
def dLook (k : D) : List (D × D) → Option D
  | [] => none
  | p :: r => bif kEqC p.1 k then some p.2 else dLook k r
section
variable {u : U} {rho : Nat → Addr} {m : Nat} {H : Hp}
theorem dLook_ok {k : D} {nk : NestedKey} (hk : keyOf 8 k = some nk) {l : List (D × D)} {xs : List (NestedKey × Addr × Value)} (h : REs u rho m H l xs) :
    match dLook k l with
    | none => atKey xs nk = none
    | some d => ∃ a val vv, atKey xs nk = some (a, val) ∧ RelV vv val ∧ RV u rho m H d vv := by
  induction h with
  | nil => rfl
  | @cons k1 v1 l nk1 a val vv xs a1 b c d _ ih =>
    unfold dLook
    rw [kEqC_eq, kEq_ok 8 k1 k nk1 nk a1 hk]
    by_cases e : nk1 = nk
    · rw [decide_eq_true e]
      refine ⟨a, val, vv, ?_, c, d⟩
      unfold atKey
      rw [List.find?_cons]
      simp [e]
    · rw [decide_eq_false e]
      have e2 : atKey ((nk1, a, val) :: xs) nk = atKey xs nk := by
        unfold atKey
        rw [List.find?_cons]
        simp [e]
      rw [e2]
      exact ih
/-- the entries with another value at a key, or one more -/
def dPut (k v : D) : List (D × D) → List (D × D)
  | [] => [(k, v)]
  | p :: r => bif kEqC p.1 k then (p.1, v) :: r else p :: dPut k v r
theorem storedH_cons {x : NestedKey × Addr × Value} {xs : List (NestedKey × Addr × Value)} {k : NestedKey} {a : Addr} {v : Value} (h : x.1 ≠ k) : storedH (x :: xs) k a v = x :: storedH xs k a v := by
  have e2 : atKey (x :: xs) k = atKey xs k := by
    unfold atKey
    rw [List.find?_cons]
    simp [h]
  unfold storedH
  rw [e2]
  cases (atKey xs k).isSome with
  | true => simp [putAt, h]
  | false => simp
theorem storedH_hit {x : NestedKey × Addr × Value} {xs : List (NestedKey × Addr × Value)} {k : NestedKey} {a : Addr} {v : Value} (h : x.1 = k) (nd : k ∉ xs.map (·.1)) : storedH (x :: xs) k a v = (x.1, x.2.1, v) :: xs := by
  have e2 : (atKey (x :: xs) k).isSome = true := by
    unfold atKey
    rw [List.find?_cons]
    simp [h]
  unfold storedH
  rw [if_pos e2, List.map_cons]
  have e3 : xs.map (putAt k v) = xs := by
    have : ∀ y ∈ xs, putAt k v y = y := fun y hy => by
      unfold putAt
      rw [if_neg (fun z => nd (List.mem_map.mpr ⟨y, hy, z⟩))]
    exact (List.map_congr_left this).trans (List.map_id _)
  rw [e3]
  unfold putAt
  rw [if_pos h]
theorem dPut_ok {k v : D} {nk : NestedKey} {a : Addr} {val : Value} {vv : V} (hk : keyOf 8 k = some nk) (ra : RV u rho m H k (.ref a)) (rl : RelV vv val) (rv : RV u rho m H v vv) {l : List (D × D)} {xs : List (NestedKey × Addr × Value)} (h : REs u rho m H l xs) :
    (xs.map (·.1)).Nodup → REs u rho m H (dPut k v l) (storedH xs nk a val) := by
  induction h with
  | nil => intro _; exact .cons hk ra rl rv .nil
  | @cons k1 v1 l nk1 a1 val1 vv1 xs h1 h2 h3 h4 ht ih =>
    intro nd
    rw [List.map_cons, List.nodup_cons] at nd
    unfold dPut
    rw [kEqC_eq, kEq_ok 8 k1 k nk1 nk h1 hk]
    by_cases e : nk1 = nk
    · rw [decide_eq_true e, storedH_hit (x := (nk1, a1, val1)) e (by rw [← e]; exact nd.1)]
      exact .cons h1 h2 rl rv ht
    · rw [decide_eq_false e, storedH_cons (x := (nk1, a1, val1)) e]
      exact .cons h1 h2 h3 h4 (ih nd.2)
theorem REs.length {l : List (D × D)} {xs : List (NestedKey × Addr × Value)} (h : REs u rho m H l xs) : l.length = xs.length := by
  induction h with
  | nil => rfl
  | cons _ _ _ _ _ ih => rw [List.length_cons, List.length_cons, ih]
end
end Ev

set_option Elab.async false
set_option linter.all false
set_option maxRecDepth 100000
set_option maxHeartbeats 4000000
/-! EvE: the operations of dicts whose keys are tuples. -/
namespace Ev
open PySem PySem.Spec PyProof.Rows L2
section
variable {X : Cx} {u : U} {E : XK} {rho : Nat → Addr} {w : W} {H : Hp} {m : Nat}
/-- a dict at b, a key at a -/
structure DK (u : U) (H : Hp) (a b : Addr) (nk : NestedKey) (l : List (D × D)) (xs : List (NestedKey × Addr × Value)) (rho : Nat → Addr) (m : Nat) (d : D) : Prop where
  rd : ∃ ob es ep, RD u rho m H b l ob es ep xs
  key : keyOf 8 d = some nk
  rv : RV u rho m H d (.ref a)
def rInK (u : U) (g : Bool → Bool) : R2 := fun x y H Q => ∃ a b nk l xs rho m d, x = .ref a ∧ y = .ref b ∧ DK u H a b nk l xs rho m d ∧ Q (.bl (g (atKey xs nk).isSome)) H
theorem room8 {A : Around} (hu : A.units + 64 < cLine) {P : Program} {w : World} : (nestedKind P w).room A.in1 := by
  show A.units + 1 + 8 < cLine
  omega
theorem op_inK (hK : X.K = u.K) (hP : X.prog = u.P) (hW : X.w = u.w) (hu : X.A.units + 64 < cLine) : OpR X (compareOp .In) (rInK u fun b => b) := by
  intro pins s σ H x y v uv Q I rx ry h
  obtain ⟨a, b, nk, l, xs, rho, m, d, rfl, rfl, ⟨⟨ob, es, ep, rd⟩, hk, rv⟩, q⟩ := h
  cases rx; cases ry
  have z : wpAny (model u.P u.w) X.A (compareOp .In (.ref a) (.ref b)) (EP X pins σ Q) X.xe s :=
    wpAny_in_heap (knd := nestedKind u.P u.w) (room8 hu) (keyed_of I hK hk rv) rd.sm (RD.ofH I hK rd) ⟨.bl _, H, I.tok _, rfl, q⟩
  rw [← hP, ← hW] at z
  exact z
theorem op_notInK (hK : X.K = u.K) (hP : X.prog = u.P) (hW : X.w = u.w) (hu : X.A.units + 64 < cLine) : OpR X (compareOp .NotIn) (rInK u fun b => !b) := by
  intro pins s σ H x y v uv Q I rx ry h
  obtain ⟨a, b, nk, l, xs, rho, m, d, rfl, rfl, ⟨⟨ob, es, ep, rd⟩, hk, rv⟩, q⟩ := h
  cases rx; cases ry
  have z : wpAny (model u.P u.w) X.A (compareOp .NotIn (.ref a) (.ref b)) (EP X pins σ Q) X.xe s := by
    show wpAny _ _ (do return PySem.Value.bool (!(← contains (.ref b) (.ref a)))) _ _ s
    exact wpAny_bind (wpAny_contains_heap (knd := nestedKind u.P u.w) (room8 hu) (keyed_of I hK hk rv) rd.sm (RD.ofH I hK rd) (wpAny_pure ⟨.bl _, H, I.tok _, rfl, q⟩))
  rw [← hP, ← hW] at z
  exact z
/-- the dict of a number -/
def wd (w : W) (i : Nat) : Option (List (D × D)) := match w.get i with
  | some (.dct _ l) => some l
  | _ => none
theorem RW.wd (r : RW u rho w H) {i : Nat} {l : List (D × D)} (h : wd w i = some l) : ∃ ob es ep xs, RD u rho w.n H (rho i) l ob es ep xs := by
  unfold Ev.wd at h
  split at h
  · rename_i k l' e
    cases h
    exact r.obj i _ e
  · cases h
theorem okKey_ok {d : D} (h : okKey d = true) {n : Nat} {v : V} (rv : RV u rho n H d v) : ∃ nk a, keyOf 8 d = some nk ∧ v = .ref a := by
  unfold okKey at h
  cases rv with
  | @tup l a vs hq hr =>
    dsimp only at h
    split at h
    · rename_i k e; exact ⟨k, a, e, rfl⟩
    · cases h
  | _ => cases h
def fInAB (g : Bool → Bool) : F2 := fun x y w => match y with
  | .ref i => (match wd w i with
    | some l => bif okKey x then .ok (.bl (g (match dLook x l with | some _ => true | none => false))) w else .bad
    | none => fInB g x y w)
  | _ => fInB g x y w
def fInA : F2 := fInAB fun b => b
def fNotInA : F2 := fInAB fun b => bif b then false else true
theorem fits_inA_core {g g' : Bool → Bool} {neg : Bool} (hg : ∀ b, (if neg then !b else b) = g b) (hg' : ∀ b, g' b = g b) : Fits2 u E (fun x y H Q => rIn u.K neg x y H Q ∨ rInK u g' x y H Q) (fInAB g) := by
  intro rho w H d v d' v' Q r rv rv' q
  unfold fInAB at q
  have rv0 := rv'
  cases rv' with
  | ref i hi ha =>
    dsimp only at q
    cases e0 : wd w i with
    | none =>
      rw [e0] at q
      exact .inl (fits_in_core hg rho w H d v _ _ Q r rv (.ref i hi ha) q)
    | some l =>
      rw [e0] at q
      dsimp only at q
      cases hb : okKey d with
      | false => rw [hb] at q; exact q.elim
      | true =>
        rw [hb] at q
        obtain ⟨nk, a, hk, rfl⟩ := okKey_ok hb rv
        obtain ⟨ob, es, ep, xs, rd⟩ := r.wd e0
        subst ha
        refine .inr ⟨a, _, nk, l, xs, rho, w.n, d, rfl, rfl, ⟨⟨ob, es, ep, rd⟩, hk, rv⟩, ?_⟩
        have hl := dLook_ok hk rd.rel
        have e : (atKey xs nk).isSome = (match dLook d l with | some _ => true | none => false) := by
          revert hl
          cases dLook d l with
          | none => intro hl; rw [hl]; rfl
          | some x => intro ⟨_, _, _, hl, _, _⟩; rw [hl]; rfl
        rw [hg', e]
        exact q rho H _ .refl r (.bl _)
  | _ => exact .inl (fits_in_core hg rho w H d v _ _ Q r rv rv0 q)
theorem fits_inA : Fits2 u E (fun x y H Q => rIn u.K false x y H Q ∨ rInK u (fun b => b) x y H Q) fInA := fits_inA_core (fun _ => rfl) (fun _ => rfl)
theorem fits_notInA : Fits2 u E (fun x y H Q => rIn u.K true x y H Q ∨ rInK u (fun b => !b) x y H Q) fNotInA := fits_inA_core (fun b => by cases b <;> rfl) (fun b => by cases b <;> rfl)
/-! ### d[k] -/
def rIxK (u : U) : R2 := fun x y H Q => ∃ a b nk l xs rho m d da val vv, x = .ref b ∧ y = .ref a ∧ DK u H a b nk l xs rho m d ∧ atKey xs nk = some (da, val) ∧ RelV vv val ∧ Q vv H
theorem ix_dictK (hK : X.K = u.K) (hP : X.prog = u.P) (hW : X.w = u.w) (hu : X.A.units + 64 < cLine) : IxR X (rIxK u) := by
  intro value slice pins s σ H x y v uv Q I rx ry h hs
  obtain ⟨a, b, nk, l, xs, rho, m, d, da, val, vv, rfl, rfl, ⟨⟨ob, es, ep, rd⟩, hk, rv⟩, hat, rl, q⟩ := h
  cases rx; cases ry
  have hm := RD.ofH I hK rd
  have z : wpAny (model u.P u.w) X.A (getItem (.ref b) (.ref a)) (fun r s' => r = val ∧ EP X pins σ Q r s') X.xe s :=
    wpAny_getItem_heap (knd := nestedKind u.P u.w) (room8 hu) (keyed_of I hK hk rv) hm hat ⟨rfl, vv, H, I.tok _, rl, q⟩
  rw [← hP, ← hW] at z
  exact subscriptTail_builtinR (x := val) hm.typeIs PySem.F.slot_dict_getitem.lookup z hs
def fIxA : F2 := fun x y w => match x with
  | .ref i => (match wd w i with
    | some l => bif okKey y then (match dLook y l with
      | some d => .ok d w
      | none => .bad) else .bad
    | none => fIx x y w)
  | _ => fIx x y w
theorem fits_ixA : Fits2 u E (fun x y H Q => (rIxL u.K x y H Q ∨ rIxT u.K x y H Q) ∨ rIxK u x y H Q) fIxA := by
  intro rho w H d v d' v' Q r rv rv' q
  unfold fIxA at q
  have rv0 := rv
  cases rv with
  | ref i hi ha =>
    dsimp only at q
    cases e0 : wd w i with
    | none =>
      rw [e0] at q
      exact .inl (fits_ix rho w H _ _ d' v' Q r (.ref i hi ha) rv' q)
    | some l =>
      rw [e0] at q
      dsimp only at q
      cases hb : okKey d' with
      | false => rw [hb] at q; exact q.elim
      | true =>
        rw [hb] at q
        obtain ⟨nk, a, hk, rfl⟩ := okKey_ok hb rv'
        obtain ⟨ob, es, ep, xs, rd⟩ := r.wd e0
        subst ha
        have hl := dLook_ok hk rd.rel
        dsimp only [cond_true] at q
        revert hl q
        cases dLook d' l with
        | none => exact fun q _ => q.elim
        | some x => exact fun q ⟨da, val, vv, hat, rl, rvv⟩ => .inr ⟨a, _, nk, l, xs, rho, w.n, d', da, val, vv, rfl, rfl, ⟨⟨ob, es, ep, rd⟩, hk, rv'⟩, hat, rl, q rho H _ .refl r rvv⟩
  | _ => exact .inl (fits_ix rho w H _ _ d' v' Q r rv0 rv' q)
/-! ### what stands behind a store -/
theorem raw_mut {a : Addr} {ob : Obj} {o : Option HO} (h : o = some (rawO a ob)) : Mut o := by subst h; exact True.intro
theorem raw_ok {P : Program} {w : World} {H : Hp} {h : Heap} {a : Addr} {ob : Obj} (e : h.get? a = some ob) : ObjOk P w H h a (rawO a ob) := ⟨e, ⟨ob, e⟩, fun h1 h2 h3 h4 => h4 _ h3⟩
/-- the dict at b is written: its object is another, all else stays -/
theorem Inv_dict {pins : List (Addr × Obj)} {σ : L2.St} {s : Shared} {h' : Heap} {t' : Nat} {b : Addr} {ob ob' : Obj} (I : Inv X pins σ H s) (hb : H b = some (rawO b ob)) (sb : Heap.SameBut b s.heap h') (e : h'.get? b = some ob') :
    Inv X pins σ (L2.upd H b (rawO b ob')) { s with heap := h', toks := t' } :=
  I.write (raw_mut hb) (.inl rfl) (fun c x hc q => (sb.2 c hc).trans q) ⟨ob', e⟩ (raw_ok e)
theorem wr_raw {a : Addr} {ob : Obj} {es : Array DictEntry} {ep : Nat} (h : ob.data = .dict es ep) : Wr (rawO a ob) := wr_ext (a := a) fun h' e => ⟨ob, e, fun vs z => by rw [h] at z; cases z⟩
/-- what the evaluator knows behind it -/
theorem RW.dput (r : RW u rho w H) {i : Nat} {k v : D} {nk : NestedKey} {a : Addr} {val : Value} {vv : V} {l : List (D × D)} {ob ob' : Obj} {es es' : Array DictEntry} {ep ep' : Nat} {xs : List (NestedKey × Addr × Value)}
    (hi : w.get i = some (.dct false l)) (rd : RD u rho w.n H (rho i) l ob es ep xs) (hk : keyOf 8 k = some nk) (ra : RV u rho w.n H k (.ref a)) (rl : RelV vv val) (rv : RV u rho w.n H v vv)
    (hex : ob'.ExactDict) (hdt : ob'.data = .dict es' ep') (hes : es'.toList = (storedH xs nk a val).map (entryOfKey (nestedKind u.P u.w))) (hnd : ((storedH xs nk a val).map (·.1)).Nodup) (hlen : (dPut k v l).length ≤ 1000000) :
    RW u rho (w.set i (.dct false (dPut k v l))) (L2.upd H (rho i) (rawO (rho i) ob')) ∧ Ext u rho w H rho (w.set i (.dct false (dPut k v l))) (L2.upd H (rho i) (rawO (rho i) ob')) := by
  have wr : Wr (rawO (rho i) ob) := wr_raw rd.data
  have tp : Tups H (L2.upd H (rho i) (rawO (rho i) ob')) := .write rd.at_ wr
  refine r.upd hi rd.at_ wr (fun _ z => by cases z) ⟨ob', es', ep', storedH xs nk a val, ?_⟩
  exact ⟨upd_same, hex, hdt, hes, hnd, (dPut_ok hk ra rl rv rd.rel rd.nd).mono (Nat.le_refl _) (fun _ _ => rfl) tp, rd.sm, hlen⟩
/-! ### d[k] = v -/
def rSetK (u : U) : V → V → V → Hp → (Hp → Prop) → Prop := fun o i v H Q => ∃ a b nk l xs rho m d ob es ep, o = .ref b ∧ i = .ref a ∧ RD u rho m H b l ob es ep xs ∧ keyOf 8 d = some nk ∧ RV u rho m H d (.ref a) ∧
  ∀ ob' es' ep' val, RelV v val → ob'.ExactDict → ob'.data = .dict es' ep' → es'.toList = (storedH xs nk a val).map (entryOfKey (nestedKind u.P u.w)) → ((storedH xs nk a val).map (·.1)).Nodup → Q (L2.upd H b (rawO b ob'))
theorem set_dictK (hK : X.K = u.K) (hP : X.prog = u.P) (hW : X.w = u.w) (hu : X.A.units + 64 < cLine) : PSet X (rSetK u) := by
  intro pins s σ H o i v ov iv uv Q I ro ri rv h
  obtain ⟨a, b, nk, l, xs, rho, m, d, ob, es, ep, rfl, rfl, rd, hk, rvk, q⟩ := h
  cases ro; cases ri
  have hm := RD.ofH I hK rd
  have z : wpAny (model u.P u.w) X.A (setItem (.ref b) (.ref a) uv) (fun _ s' => ∃ H', Inv X pins σ H' s' ∧ Q H') X.xe s := by
    refine wpAny_setItem_heap (knd := nestedKind u.P u.w) (room8 hu) (keyed_of I hK hk rvk) hm (fun h' hm' hs => ?_) (hsz := by
      have := rd.rel.length
      have := rd.len
      rw [sizeLine_eq]; omega)
    obtain ⟨ob', es', ep', ho', hex, hdt, hes, _, hnd⟩ := hm'
    exact ⟨_, Inv_dict I rd.at_ hs ho', q ob' es' ep' uv rv hex hdt hes hnd⟩
  rw [← hP, ← hW] at z
  exact z
end
theorem PSet_or {X : Cx} {a b : TSet} (ha : PSet X a) (hb : PSet X b) : PSet X (fun o i v H Q => a o i v H Q ∨ b o i v H Q) := fun pins s σ H o i v ov iv uv Q I ro ri rv h =>
  h.elim (fun h => ha pins s σ H o i v ov iv uv Q I ro ri rv h) (fun h => hb pins s σ H o i v ov iv uv Q I ro ri rv h)
section
variable {X : Cx} {u : U} {rho : Nat → Addr} {w : W} {H : Hp} {e : Expr} {mo mi : M}
/-- a target o[i]: a list or a dict -/
def gSubA (mo mi : M) : G := fun d s w => match mo s w with
  | .ok (.ref r) w1 => (match mi s w1 with
    | .ok i w2 => (match w2.get r with
      | some (.lst l) => (match i with
        | .int (.ofNat k) => bif Nat.blt k l.length then .ok s (w2.set r (.lst (lset l k d))) else .bad
        | _ => .bad)
      | some (.dct false l) => bif okKey i then bif Nat.ble l.length 999999 then .ok s (w2.set r (.dct false (dPut i d l))) else .bad else .bad
      | _ => .bad)
    | _ => .bad)
  | _ => .bad
theorem dPut_len {k v : D} : ∀ l : List (D × D), (dPut k v l).length ≤ l.length + 1
  | [] => Nat.le_refl _
  | p :: r => by
    unfold dPut
    cases kEqC p.1 k with
    | true => exact Nat.le_succ _
    | false => exact Nat.succ_le_succ (dPut_len r)
theorem gbif {b : Bool} {x : RG} {N : L2.St → Hp → Prop} (h : PostG u rho w H N (bif b then x else .bad)) : b = true ∧ PostG u rho w H N x := by
  cases b with
  | true => exact ⟨rfl, h⟩
  | false => exact h.elim
theorem sg_subA (h : PG X e (gSub (tM u E0 mo) (tM u E0 mi) (fun o i v H Q => rSetL o i v H Q ∨ rSetK u o i v H Q))) : PG X e (tMG u (gSubA mo mi)) := by
  refine h.imp fun v σ H N ⟨rho, s, w, d, r, Z, rv, q⟩ => ?_
  unfold gSubA at q
  refine tM_then r Z ?_
  revert q
  cases mo s w with
  | bad => exact id
  | ex c p w1 => exact fun q => q.elim
  | ok d1 w1 =>
    intro q rho1 H1 v1 e1 r1 Z1 rv1
    cases d1 <;> try exact q.elim
    rename_i k1
    dsimp only at q
    refine tM_then r1 Z1 ?_
    revert q
    cases mi s w1 with
    | bad => exact id
    | ex c p w2 => exact fun q => q.elim
    | ok d2 w2 =>
      intro q rho2 H2 v2 e2 r2 Z2 rv2
      dsimp only at q
      have rv1' := e2.rv rv1
      have rvd := (e1.trans r e2).rv rv
      cases rv1' with
      | ref _ hi ha =>
      subst ha
      split at q
      · rename_i l e0
        split at q
        · rename_i k
          obtain ⟨hb, q⟩ := gbif q
          obtain ⟨xs, f1, hr⟩ := r2.lst e0
          cases rv2
          have hl := hr.length
          have hk := nat_blt hb
          refine .inl ⟨_, xs, _, k, rfl, rfl, f1, ?_, ?_⟩
          · show ixN xs.length ((k : Nat) : Int) = some k
            unfold ixN
            rw [if_pos (by omega), if_pos (by omega)]
            rfl
          · have tp : Tups H2 (L2.upd H2 (rho2 k1) (.lst (xs.set k v))) := .write f1 (wr_lst _)
            obtain ⟨r', e'⟩ := r2.upd (o' := .lst (lset l k d)) (ho' := .lst (xs.set k v)) e0 f1 (wr_lst _) (fun _ z => by cases z)
              ⟨xs.set k v, upd_same, by rw [lset_eq]; exact (hr.set k rvd).mono (Nat.le_refl _) (fun _ _ => rfl) tp⟩
            exact q rho2 _ σ ((e1.trans r e2).trans r e') r' (Z2.mono (Nat.le_refl _) (fun _ _ => rfl) tp)
        · exact q.elim
      · rename_i l e0
        obtain ⟨hb, q⟩ := gbif q
        obtain ⟨hb2, q⟩ := gbif q
        obtain ⟨nk, a, hk, rfl⟩ := okKey_ok hb rv2
        obtain ⟨ob, es, ep, xs, rd⟩ := r2.obj _ _ e0
        refine .inr ⟨a, _, nk, l, xs, rho2, w2.n, d2, ob, es, ep, rfl, rfl, rd, hk, rv2, fun ob' es' ep' val rl hex hdt hes hnd => ?_⟩
        have hlen : (dPut d2 d l).length ≤ 1000000 := by
          have := dPut_len (k := d2) (v := d) l
          have := Nat.le_of_ble_eq_true hb2
          omega
        obtain ⟨r', e'⟩ := r2.dput e0 rd hk rv2 rl rvd hex hdt hes hnd hlen
        exact q rho2 _ σ ((e1.trans r e2).trans r e') r' (Z2.mono e'.n e'.rh e'.tups)
      · exact q.elim
end
end Ev

set_option Elab.async false
set_option linter.all false
set_option maxRecDepth 100000
set_option maxHeartbeats 4000000
/-! EvG: dicts made, walked, counted, listed. -/
namespace Ev
open PySem PySem.Spec PyProof.Rows L2
/-- an empty dict's object -/
def obj0 : Obj := { cls := .type "dict", data := .dict #[] }
section
variable {X : Cx} {u : U} {pins : List (Addr × Obj)} {σ : L2.St} {H : Hp} {s : Shared} {rho : Nat → Addr} {w : W} {E : XK}
theorem raw_laid {t' : Nat} (I : Inv X pins σ H s) : Inv X pins σ (L2.upd H s.heap.objs.size (rawO s.heap.objs.size obj0)) { s with heap := s.heap.push obj0, toks := t' } :=
  I.laid (fun _ _ q => Heap.get?_push_of_some _ q) (Nat.le_refl _) (raw_ok (Heap.get?_push_size _ rfl))
theorem no_sys (I : Inv X pins σ H s) : (s.heap.objs.size == sysModules) = false := beq_eq_false_iff_ne.mpr (Nat.ne_of_gt I.big)
theorem RD.new {m : Nat} {p : Addr} (e : H p = some (rawO p obj0)) (hs : (p == sysModules) = false) : RD u rho m H p [] obj0 #[] 0 [] :=
  ⟨e, ⟨rfl, rfl, rfl⟩, rfl, rfl, List.nodup_nil, .nil, hs, Nat.zero_le _⟩
/-- {} -/
def tDNewR : TE := fun _ H Q => ∀ p, H p = none → (p == sysModules) = false → Q (.ref p) (L2.upd H p (rawO p obj0))
theorem pe_dnewR {pos : Pos} : PE X (.Dict [] [] pos) tDNewR := ⟨fun pins s σ H Q I h =>
  wpAny_Dict_empty ⟨.ref s.heap.objs.size, _, raw_laid I, rfl, h _ (I.hok.fresh (Nat.le_refl _)) (no_sys I)⟩⟩
def mDict0 : M := fun _ w => alloc (.dct false []) w
theorem se_dict0 {pos : Pos} : PE X (.Dict [] [] pos) (tM u E mDict0) := by
  refine pe_dnewR.imp fun σ H Q ⟨rho, s, w, r, Z, q⟩ => fun p hp hs => ?_
  unfold mDict0 alloc at q
  cases hb : Nat.blt w.n 1000000000 with
  | false => rw [hb] at q; exact q.elim
  | true =>
    rw [hb] at q
    obtain ⟨r', e⟩ := r.new (o := .dct false []) (ho := rawO p obj0) hp hb ⟨_, _, _, _, RD.new upd_same hs⟩ (fun _ z => by cases z)
    exact q _ _ _ e r' (.ref _ (Nat.lt_succ_self _) rhoN_at.symm)
/-- an object without a number is written, one that was not there at the beginning -/
theorem side_wr {rho1 rho7 : Nat → Addr} {w1 w7 : W} {H1 H7 : Hp} {D : Addr} {ho ho' : HO} (e : Ext u rho1 w1 H1 rho7 w7 H7) (r : RW u rho7 w7 H7) (hA : H7 D = some ho) (wr : Wr ho)
    (nD : ∀ i, i < w7.n → rho7 i ≠ D) (hD : H1 D = none) : RW u rho7 w7 (L2.upd H7 D ho') ∧ Ext u rho1 w1 H1 rho7 w7 (L2.upd H7 D ho') ∧ Tups H7 (L2.upd H7 D ho') := by
  have tp : Tups H7 (L2.upd H7 D ho') := .write hA wr
  refine ⟨⟨r.inj, r.dom, fun i hi => by rw [upd_ne (nD i hi)]; exact r.all i hi, fun i ob h => ?_, r.small, fun p hp' => TabS.write hA wr (r.tabs p hp'), r.full, fun p hp' => tp.code _ _ (r.code p hp'), r.cl.mono (Nat.le_refl _) (fun _ _ => rfl) tp⟩, ⟨e.n, e.rh, e.tups.trans tp, fun i l' h k => ?_, fun a h1 h0 h2 => ?_⟩, tp⟩
  · have hi := r.dom i ob h
    refine (r.obj i ob h).mono (Nat.le_refl _) (fun _ _ => rfl) tp (by rw [upd_ne (nD i hi)]) fun d ed => ?_
    rw [upd_ne (fun z => by rw [z, hA] at ed; exact wr.own _ (Option.some.inj ed))]
    exact ed
  · obtain ⟨g1, g2⟩ := e.lock i l' h k
    refine ⟨g1, ?_⟩
    have hne : rho1 i ≠ D := fun z => by
      rw [z, hA, hD] at g2
      cases g2
    rw [upd_ne hne]
    exact g2
  · obtain ⟨g1, g2⟩ := e.oth a h1 h0 h2
    exact ⟨(upd_ne fun z => h1 (by rw [z]; exact hD)).trans g1, g2⟩
/-- an object that came since gets a number -/
theorem adopt_ok {rho2 : Nat → Addr} {w2 : W} {H2 : Hp} {D : Addr} {o : O} (eb : Ext u rho w H rho2 w2 H2) (r2 : RW u rho2 w2 H2) (hD : ∀ a, H a ≠ none → (∀ ps, H a ≠ some (.tbl ps)) → (∀ i, i < w.n → rho i ≠ a) → a ≠ D) (hA : H2 D ≠ none) (nD : ∀ i, i < w2.n → rho2 i ≠ D) (hb : Nat.blt w2.n 1000000000 = true)
    (ho : RO u (rhoN rho2 w2.n D) (Nat.succ w2.n) H2 D o) : RW u (rhoN rho2 w2.n D) (.mk (Nat.succ w2.n) (w2.t.put 40 w2.n o)) H2 ∧ Ext u rho w H (rhoN rho2 w2.n D) (.mk (Nat.succ w2.n) (w2.t.put 40 w2.n o)) H2 := by
  obtain ⟨r3, h3, h4⟩ := r2.adopt hA nD hb ho
  refine ⟨r3, ⟨Nat.le_trans eb.n (Nat.le_succ _), fun i hi => (rhoN_lt (Nat.lt_of_lt_of_le hi eb.n)).trans (eb.rh i hi), eb.tups, fun i l hl hk => ⟨h4 i l (eb.lock i l hl hk).1, (eb.lock i l hl hk).2⟩, fun a ha h0 hn => ?_⟩⟩
  obtain ⟨ea, na⟩ := eb.oth a ha h0 hn
  refine ⟨ea, fun j hj z => ?_⟩
  have hj' : j < Nat.succ w2.n := hj
  by_cases hjn : j = w2.n
  · rw [hjn, rhoN_at] at z
    exact hD a ha h0 hn z.symm
  · rw [rhoN_lt (by omega)] at z
    exact na j (by omega) z
/-- {k: v} -/
def tDisp1 (u : U) (tk tv : TE) : TE := fun σ H Q => ∀ p, H p = none → (p == sysModules) = false → tk σ (L2.upd H p (rawO p obj0)) fun x H1 => tv σ H1 fun y H2 => H2 p = some (rawO p obj0) ∧ ∃ a nk d rho m, x = .ref a ∧ keyOf 8 d = some nk ∧ RV u rho m H2 d (.ref a) ∧
  ∀ ob' es' ep' val, RelV y val → ob'.ExactDict → ob'.data = .dict es' ep' → es'.toList = [(nk, a, val)].map (entryOfKey (nestedKind u.P u.w)) → Q (.ref p) (L2.upd H2 p (rawO p ob'))
theorem room8' {A : Around} (hu : A.units + 64 < cLine) {P : Program} {w : World} : (nestedKind P w).room A := by
  show A.units + 8 < cLine
  omega
theorem pe_disp1 {ek ev : Expr} {tk tv : TE} {pos : Pos} (hK : X.K = u.K) (hP : X.prog = u.P) (hW : X.w = u.w) (hu : X.A.units + 64 < cLine) (hk : PE X ek tk) (hv : PE X ev tv) : PE X (.Dict [some ek] [ev] pos) (tDisp1 u tk tv) := by
  refine ⟨fun pins s σ H Q I q => ?_⟩
  have hn := I.hok.fresh (Nat.le_refl s.heap.objs.size)
  have I1 := raw_laid (t' := s.toks) I
  rw [arm_eval_Dict, zip_pairTrees [some ek] [ev] X.env pos rfl rfl, dictDisplay_pairs _ (by simp [pairTrees]) (by simp [pairTrees])]
  refine wpAny_bind (wpAny_standAt (wpAny_bind (wpAny_subDictH (knd := nestedKind X.prog X.w) (Q := fun d s' => wpAny (model X.prog X.w) X.A (pure (Value.ref d)) (EP X pins σ Q) X.xe s') (room8' hu) (by simp [pairTrees]) ?_)))
  refine pairTrees_cons_walk (thn (hk.run pins _ σ _ _ I1 (q _ hn (no_sys I))) fun ux s1 ⟨x, H1, I2, rx, q1⟩ => thn (hv.run pins s1 σ H1 _ I2 q1) fun uy s2 ⟨y, H2, I3, ry, hp, a, nk, d, rho, m, ex, hkey, rv, q2⟩ => pairTrees_nil_walk ?_)
  subst ex
  cases rx
  have hm : s2.heap.DictOfH (nestedKind X.prog X.w) s.heap.objs.size [] := by
    rw [hP, hW]
    exact RD.ofH I3 hK (u := u) (rho := rho) (m := m) (RD.new hp (no_sys I))
  refine ⟨[(nk, a, uy)], ⟨rfl, rfl, by rw [hP, hW]; exact keyed_of I3 hK hkey rv, trivial⟩, hm, fun h' tk hd sb => wpAny_pure ?_⟩
  obtain ⟨ob', es', ep', ho', hex, hdt, hes, _, _⟩ := hd
  refine ⟨.ref s.heap.objs.size, _, Inv_dict I3 hp sb ho', rfl, q2 ob' es' ep' uy ry hex hdt ?_⟩
  rw [← hP, ← hW]
  exact hes
def mDict1 (k v : M) : M := fun s w => match k s w with
  | .ok dk w1 => (match v s w1 with
    | .ok dv w2 => bif okKey dk then alloc (.dct false [(dk, dv)]) w2 else .bad
    | .ex c p w => .ex c p w
    | .bad => .bad)
  | .ex c p w => .ex c p w
  | .bad => .bad
theorem se_dict1 {e : Expr} {mk mv : M} (h : PE X e (tDisp1 u (tM u E mk) (tM u E mv))) : PE X e (tM u E (mDict1 mk mv)) := by
  refine h.imp fun σ H Q ⟨rho, s, w, r, Z, q⟩ => fun p hp hs => ?_
  obtain ⟨r0, e0⟩ := r.tup (o := rawO p obj0) hp
  have np : ∀ i, i < w.n → rho i ≠ p := fun i hi z => r.all i hi (by rw [z]; exact hp)
  have hp0 : (L2.upd H p (rawO p obj0)) p ≠ none := by rw [upd_same]; simp
  unfold mDict1 at q
  refine tM_then r0 (Z.mono e0.n e0.rh e0.tups) ?_
  revert q
  cases mk s w with
  | bad => exact id
  | ex c p w1 => exact fun q => PostX.to q r e0
  | ok dk w1 =>
    intro q rho1 H1 x e1 r1 Z1 rx
    dsimp only at q
    refine tM_then r1 Z1 ?_
    revert q
    cases mv s w1 with
    | bad => exact id
    | ex c p w2 => exact fun q => PostX.to q r (e0.trans r e1)
    | ok dv w2 =>
      intro q rho2 H2 y e2 r2 Z2 ry
      dsimp only at q
      obtain ⟨hb, q⟩ := bbeq q
      have e02 := e1.trans r0 e2
      obtain ⟨g1, g2⟩ := e02.oth p hp0 (fun ps z => by rw [upd_same] at z; unfold rawO at z; cases z) np
      rw [upd_same] at g1
      have rx2 := e2.rv rx
      obtain ⟨nk, a, hk, rfl⟩ := okKey_ok hb rx2
      refine ⟨g1, a, nk, dk, rho2, w2.n, rfl, hk, rx2, fun ob' es' ep' val rl hex hdt hes => ?_⟩
      unfold alloc at q
      obtain ⟨hb2, q⟩ := bbeq q
      obtain ⟨r3, e3, tp⟩ := side_wr (ho' := rawO p ob') (e0.trans r e02) r2 g1 (wr_raw (es := #[]) (ep := 0) rfl) g2 hp
      have hA : (L2.upd H2 p (rawO p ob')) p ≠ none := by rw [upd_same]; simp
      have rel : REs u (rhoN rho2 w2.n p) (Nat.succ w2.n) (L2.upd H2 p (rawO p ob')) [(dk, dv)] [(nk, a, val)] :=
        .cons hk (rx2.mono (Nat.le_succ _) (fun i hi => rhoN_lt hi) tp) rl (ry.mono (Nat.le_succ _) (fun i hi => rhoN_lt hi) tp) .nil
      have ro : RO u (rhoN rho2 w2.n p) (Nat.succ w2.n) (L2.upd H2 p (rawO p ob')) p (.dct false [(dk, dv)]) := ⟨ob', es', ep', [(nk, a, val)], upd_same, hex, hdt, hes, by simp, rel, hs, by simp⟩
      obtain ⟨r4, e4⟩ := adopt_ok (o := .dct false [(dk, dv)]) e3 r3 (fun a ha _ _ z => ha (by rw [z]; exact hp)) hA g2 hb2 ro
      exact q _ _ _ e4 r4 (.ref _ (Nat.lt_succ_self _) rhoN_at.symm)
/-! ### walks -/
/-- the keys of the dict at d, all of them tuples -/
def ItD (d : Addr) (ob : Obj) (ks : List Addr) : It :=
  ⟨fun i H => H d = some (rawO d ob) ∧ i < ks.length, fun i H x H' => H' = H ∧ ∃ a, ks[i]? = some a ∧ x = .ref a, fun i H => H d = some (rawO d ob) ∧ ks.length ≤ i⟩
theorem turn_raw {P : Program} {w : World} {K : PySem.W.Frag} {tg : Expr} {d : Addr} {ob : Obj} {es : Array DictEntry} {ep : Nat} {ks : List Addr} (it : Addr) (hex : ob.ExactDict) (hdt : ob.data = .dict es ep) (hks : es.toList.map (·.key) = ks.map Value.ref) :
    Turn P w K tg (ItD d ob ks) [it] it (fun i h => h.IsKeyIter it d i es.size ep) where
  mem := by simp
  obj := fun i h st b hb => by
    have e : b = it := by simpa using hb
    subst e
    obtain ⟨oi, e, c, dd⟩ := st
    exact ⟨oi, e, fun v z => by rw [dd] at z; cases z⟩
  keep := fun i h h' st k => st.at fun oi e => k it (by simp) oi e
  item := by
    intro X hP hw hK hc i pins s σ H E I hf st hg
    subst hP hw hK
    obtain ⟨hd, hi⟩ := hg
    obtain ⟨f0, f1, f2, f3, f4, f5⟩ := hf it (by simp)
    have hr : ObjOk X.prog X.w H s.heap d (rawO d ob) := I.hok d _ hd
    have hl : es.size = ks.length := by
      have := congrArg List.length hks
      simpa using this
    have hi' : i < es.size := by omega
    refine wpAny_pyNext_keys_item_raw st ⟨ob, hr.1, hex, hdt⟩ hi' fun h' st' sb => ?_
    have I1 : Inv X pins σ H { s with heap := h' } := I.turned (t' := s.toks) (fun b o hb e => (sb.2 b hb).trans e) f0 f1 f3 f4 f5
    obtain ⟨oi, e, c, dd⟩ := id st'
    have hk : es[i].key = Value.ref ks[i] := by
      have := congrArg (fun l => l[i]?) hks
      simpa [List.getElem?_map, hi, hi'] using this
    refine ⟨es[i].key, rfl, go_of (s := { s with heap := h' }) e c dd (by decide) ⟨.ref ks[i], H, I1, ?_, ⟨rfl, ks[i], List.getElem?_eq_getElem hi, rfl⟩, st', fun b hb => (hf b hb).1⟩⟩
    rw [hk] <;> rfl
  done := by
    intro X hP hw hK hc i pins s σ H E I hf st hg
    subst hP hw hK
    obtain ⟨hd, hi⟩ := hg
    obtain ⟨f0, f1, f2, f3, f4, f5⟩ := hf it (by simp)
    have hr : ObjOk X.prog X.w H s.heap d (rawO d ob) := I.hok d _ hd
    have hl : es.size = ks.length := by
      have := congrArg List.length hks
      simpa using this
    exact wpAny_pyNext_keys_end_raw (I.ok.hd hc) st ⟨ob, hr.1, hex, hdt⟩ (by omega) fun h' eb => ⟨rfl, I.turned (t' := s.toks) (fun b o hb e => eb b o hb e) f0 f1 f3 f4 f5⟩
  self := fun A i s Q E st h => wpAny_pyIter_keyiter st h
def iRaw (u : U) (td : TE) : TI := fun σ H R => td σ H fun x H1 => ∃ a l ob es ep xs rho m, x = .ref a ∧ RD u rho m H1 a l ob es ep xs ∧ R (ItD a ob (xs.map (·.2.1))) H1
theorem pi_raw {tg e : Expr} {td : TE} (he : PE X e td) : PI X tg e (iRaw u td) := by
  refine ⟨fun pins s σ H R I h => ?_⟩
  refine thn (he.run pins s σ H _ I h) fun ux s1 ⟨x, H1, I1, rx, a, l, ob, es, ep, xs, rho, m, ex, rd, q⟩ => ?_
  subst ex
  obtain rfl : ux = Value.ref a := rx
  have hr : ObjOk X.prog X.w H1 s1.heap a (rawO a ob) := I1.hok a _ rd.at_
  refine wpAny_pyIter_dict_raw rd.sm ⟨ob, hr.1, rd.ex, rd.data⟩ (pi_one (tk := s1.toks) I1 _ (turn_raw _ rd.ex rd.data ?_) ⟨_, Heap.get?_push_size _ rfl, rfl, rfl⟩ q)
  rw [rd.ents, List.map_map, List.map_map]
  rfl
/-- a dict's lock, turned -/
theorem RW.relock (r : RW u rho w H) {i : Nat} {k k' : Bool} {l : List (D × D)} (h : w.get i = some (.dct k l)) : RW u rho (w.set i (.dct k' l)) H := by
  have hi := r.dom i _ h
  have g : ∀ j, (w.set i (.dct k' l)).get j = if j = i then some (.dct k' l) else w.get j := fun j => W.get_put (n := w.n) (t := w.t) (Nat.le_trans (Nat.le_of_lt hi) r.small)
  refine ⟨r.inj, fun j ob hj => ?_, r.all, fun j ob hj => ?_, r.small, r.tabs, (fun j hj => by
    rw [g]
    by_cases h1 : j = i
    · exact ⟨_, if_pos h1⟩
    · rw [if_neg h1]; exact r.full j hj), r.code, r.cl⟩
  · rw [g] at hj
    by_cases q : j = i
    · rw [q]; exact hi
    · rw [if_neg q] at hj
      exact r.dom j ob hj
  · rw [g] at hj
    by_cases q : j = i
    · rw [if_pos q] at hj
      cases hj
      rw [q]
      have z : RO u rho w.n H (rho i) (.dct k l) := r.obj i _ h
      exact z
    · rw [if_neg q] at hj
      exact r.obj j ob hj
theorem relock_get (r : RW u rho w H) {i j : Nat} {k k' : Bool} {l : List (D × D)} (h : w.get i = some (.dct k l)) : (w.set i (.dct k' l)).get j = if j = i then some (.dct k' l) else w.get j :=
  W.get_put (n := w.n) (t := w.t) (Nat.le_trans (Nat.le_of_lt (r.dom i _ h)) r.small)
/-- a list, a tuple, a dict -/
def iSeqA (ma : M) : MI := fun s w => match ma s w with
  | .ok (.ref r) w1 => (match wl w1 r with
    | some _ => .ok (.lst r) w1
    | none => (match w1.get r with
      | some (.dct false l) => .ok (.dks r true l) (w1.set r (.dct true l))
      | some (.dct true l) => .ok (.dks r false l) w1
      | some (.ik l) => .ok (.tup (l.map D.int)) w1
      | _ => .bad))
  | .ok (.tup l) w1 => .ok (.tup l) w1
  | .ex c p w1 => .ex c p w1
  | _ => .bad
theorem latK_it : ∀ {l : List (D × D)} {i : Nat} {d : D}, latK l i = .it d → ∃ v, l[i]? = some (d, v)
  | [], _, _, h => by cases h
  | x :: _, 0, d, h => by cases h; exact ⟨x.2, rfl⟩
  | _ :: r, i + 1, d, h => latK_it (l := r) h
theorem latK_stop : ∀ {l : List (D × D)} {i : Nat}, latK l i = .stop → l.length ≤ i
  | [], _, _ => Nat.zero_le _
  | _ :: _, 0, h => by cases h
  | _ :: r, i + 1, h => Nat.succ_le_succ (latK_stop (l := r) h)
theorem REs.at {m : Nat} : ∀ {l : List (D × D)} {xs : List (NestedKey × Addr × Value)}, REs u rho m H l xs → ∀ {i : Nat} {d v : D}, l[i]? = some (d, v) → ∃ a, (xs.map (·.2.1))[i]? = some a ∧ RV u rho m H d (.ref a)
  | _, _, .nil, _, _, _, h => by simp at h
  | _, _, .cons _ b _ _ r, 0, _, _, e => by simp at e; obtain ⟨rfl, rfl⟩ := e; exact ⟨_, rfl, b⟩
  | _, _, .cons _ _ _ _ r, i + 1, _, _, e => by
    obtain ⟨v, h1, h2⟩ := REs.at r (i := i) (by simpa using e)
    exact ⟨v, by simpa using h1, h2⟩
/-- the keys of the dict at d, whatever they are -/
def ItV (d : Addr) (ob : Obj) (ks : List V) : It :=
  ⟨fun i H => H d = some (rawO d ob) ∧ i < ks.length, fun i H x H' => H' = H ∧ ks[i]? = some x, fun i H => H d = some (rawO d ob) ∧ ks.length ≤ i⟩
theorem turn_rawV {P : Program} {w : World} {K : PySem.W.Frag} {tg : Expr} {d : Addr} {ob : Obj} {es : Array DictEntry} {ep : Nat} {ks : List V} (it : Addr) (hex : ob.ExactDict) (hdt : ob.data = .dict es ep) (hks : Vals ks (es.toList.map (·.key))) :
    Turn P w K tg (ItV d ob ks) [it] it (fun i h => h.IsKeyIter it d i es.size ep) where
  mem := by simp
  obj := fun i h st b hb => by
    have e : b = it := by simpa using hb
    subst e
    obtain ⟨oi, e, c, dd⟩ := st
    exact ⟨oi, e, fun v z => by rw [dd] at z; cases z⟩
  keep := fun i h h' st k => st.at fun oi e => k it (by simp) oi e
  item := by
    intro X hP hw hK hc i pins s σ H E I hf st hg
    subst hP hw hK
    obtain ⟨hd, hi⟩ := hg
    obtain ⟨f0, f1, f2, f3, f4, f5⟩ := hf it (by simp)
    have hr : ObjOk X.prog X.w H s.heap d (rawO d ob) := I.hok d _ hd
    have hl : es.size = ks.length := by
      have := hks.length
      simpa using this.symm
    have hi' : i < es.size := by omega
    obtain ⟨x, hx⟩ : ∃ x, ks[i]? = some x := ⟨ks[i], List.getElem?_eq_getElem hi⟩
    refine wpAny_pyNext_keys_item_raw st ⟨ob, hr.1, hex, hdt⟩ hi' fun h' st' sb => ?_
    have I1 : Inv X pins σ H { s with heap := h' } := I.turned (t' := s.toks) (fun b o hb e => (sb.2 b hb).trans e) f0 f1 f3 f4 f5
    obtain ⟨oi, e, c, dd⟩ := id st'
    obtain ⟨uv, hu, ru⟩ := hks.get hx
    have hk : uv = es[i].key := by
      simpa [List.getElem?_map, hi'] using hu.symm
    subst hk
    exact ⟨es[i].key, rfl, go_of (s := { s with heap := h' }) e c dd (by decide) ⟨x, H, I1, ru, ⟨rfl, hx⟩, st', fun b hb => (hf b hb).1⟩⟩
  done := by
    intro X hP hw hK hc i pins s σ H E I hf st hg
    subst hP hw hK
    obtain ⟨hd, hi⟩ := hg
    obtain ⟨f0, f1, f2, f3, f4, f5⟩ := hf it (by simp)
    have hr : ObjOk X.prog X.w H s.heap d (rawO d ob) := I.hok d _ hd
    have hl : es.size = ks.length := by
      have := hks.length
      simpa using this.symm
    exact wpAny_pyNext_keys_end_raw (I.ok.hd hc) st ⟨ob, hr.1, hex, hdt⟩ (by omega) fun h' eb => ⟨rfl, I.turned (t' := s.toks) (fun b o hb e => eb b o hb e) f0 f1 f3 f4 f5⟩
  self := fun A i s Q E st h => wpAny_pyIter_keyiter st h
def iRawV (td : TE) : TI := fun σ H R => td σ H fun x H1 => ∃ a ob es ep ks, x = .ref a ∧ (a == sysModules) = false ∧ H1 a = some (rawO a ob) ∧ ob.ExactDict ∧ ob.data = .dict es ep ∧ Vals ks (es.toList.map (·.key)) ∧ R (ItV a ob ks) H1
theorem pi_rawV {tg e : Expr} {td : TE} (he : PE X e td) : PI X tg e (iRawV td) := by
  refine ⟨fun pins s σ H R I h => ?_⟩
  refine thn (he.run pins s σ H _ I h) fun ux s1 ⟨x, H1, I1, rx, a, ob, es, ep, ks, ex, hs, hat, hex, hdt, hks, q⟩ => ?_
  subst ex
  obtain rfl : ux = Value.ref a := rx
  have hr : ObjOk X.prog X.w H1 s1.heap a (rawO a ob) := I1.hok a _ hat
  exact wpAny_pyIter_dict_raw hs ⟨ob, hr.1, hex, hdt⟩ (pi_one (tk := s1.toks) I1 _ (turn_rawV _ hex hdt hks) ⟨_, Heap.get?_push_size _ rfl, rfl, rfl⟩ q)
theorem pairs_int {P : Program} {W : World} {knd : KeyKind P W Key} (hk : ∀ k v, knd.is k v = true → keyIs k v = true) {es : List DictEntry} {kvs : List (Key × Value)} (h : Pairs knd es kvs) : ∀ {l : List Int}, kvs.map (·.1) = l.map Sum.inl → Vals (l.map fun i => V.int i) (es.map (·.key)) := by
  induction h with
  | nil =>
    intro l e
    cases l with
    | nil => exact .nil
    | cons i l => cases e
  | @cons e kv es kvs h1 h2 r ih =>
    intro l e0
    cases l with
    | nil => cases e0
    | cons i l =>
      have e1 : kv.1 = Sum.inl i := (List.cons.inj e0).1
      have e2 : kvs.map (·.1) = l.map Sum.inl := (List.cons.inj e0).2
      refine .cons ?_ (ih e2)
      rcases keyIs_shape (hk _ _ h1) with ⟨j, t, e3, e4⟩ | ⟨y, t, e3, e4⟩
      · have e5 : j = i := Sum.inl.inj (e3.symm.trans e1)
        rw [e5] at e4
        exact ⟨t, e4⟩
      · exact absurd (e3.symm.trans e1) (by intro z; cases z)
theorem rit_ik {k : Nat} {l : List Int} {ob : Obj} (hk : w.get k = some (.ik l)) (hlt : k < w.n) (hat : H (rho k) = some (rawO (rho k) ob)) : RIt u rho w H (.tup (l.map D.int)) (ItV (rho k) ob (l.map fun i => V.int i)) := by
  intro rho' w' H' i e r'
  obtain ⟨g1, g2⟩ := e.lock k _ hk rfl
  have hat' : H' (rho k) = some (rawO (rho k) ob) := g2.trans hat
  show match lat (l.map D.int) i with | .it d => _ | .stop => _ | .bad => _
  cases q : lat (l.map D.int) i with
  | it d =>
    have h1 := lat_it q
    rw [List.getElem?_map] at h1
    cases e0 : l[i]? with
    | none => rw [e0] at h1; cases h1
    | some j =>
      rw [e0] at h1
      cases h1
      have hi : i < l.length := (List.getElem?_eq_some_iff.mp e0).1
      refine ⟨⟨hat', by rw [List.length_map]; exact hi⟩, fun x H2 ⟨eH, hx⟩ => ?_⟩
      subst eH
      rw [List.getElem?_map, e0] at hx
      cases hx
      exact ⟨r', .refl, .int j⟩
  | stop =>
    have := lat_stop q
    rw [List.length_map] at this
    exact ⟨hat', by rw [List.length_map]; exact this⟩
  | bad => exact True.intro
theorem rit_dks {k : Nat} {own : Bool} {l : List (D × D)} {ob : Obj} {es : Array DictEntry} {ep : Nat} {xs : List (NestedKey × Addr × Value)} (hk : w.get k = some (.dct true l)) (hlt : k < w.n) (rd : RD u rho w.n H (rho k) l ob es ep xs) :
    RIt u rho w H (.dks k own l) (ItD (rho k) ob (xs.map (·.2.1))) := by
  intro rho' w' H' i e r'
  obtain ⟨g1, g2⟩ := e.lock k _ hk rfl
  show match (match w'.get k with | some (.dct true _) => latK l i | _ => .bad) with | .it d => _ | .stop => _ | .bad => _
  rw [g1]
  dsimp only
  have hat : H' (rho k) = some (rawO (rho k) ob) := g2.trans rd.at_
  have rel := rd.rel.mono e.n e.rh e.tups
  cases q : latK l i with
  | it d =>
    obtain ⟨v, hv⟩ := latK_it q
    obtain ⟨a, ha, rv⟩ := rel.at hv
    have hi : i < (xs.map (·.2.1)).length := by
      rcases List.getElem?_eq_some_iff.mp ha with ⟨h, _⟩
      exact h
    exact ⟨⟨hat, hi⟩, fun x H2 ⟨eH, a', ha', hx⟩ => by
      subst eH hx
      rw [ha] at ha'; cases ha'
      exact ⟨r', .refl, rv⟩⟩
  | stop =>
    refine ⟨hat, ?_⟩
    have := latK_stop q
    have := rd.rel.length
    rw [List.length_map]
    omega
  | bad => exact True.intro
theorem si_seqA {tg e : Expr} {ma : M} (hP : X.prog = u.P) (hW : X.w = u.w) (h1 : PI X tg e (iList u.K (tM u E ma))) (h2 : PI X tg e (iTup u.K (tM u E ma))) (h3 : PI X tg e (iRaw u (tM u E ma))) (h4 : PI X tg e (iRawV (tM u E ma))) : PI X tg e (tMI u E (iSeqA ma)) := by
  refine PI_imp (PI_or (PI_or (PI_or h1 h2) h3) h4) fun σ H R ⟨rho, s, w, r, Z, q⟩ => ?_
  unfold iSeqA at q
  cases em : ma s w with
  | ok d w1 =>
    rw [em] at q
    cases d with
    | ref k =>
      dsimp only at q
      cases e0 : wl w1 k with
      | some l =>
        rw [e0] at q
        refine .inl (.inl (.inl (tM_then r Z ?_)))
        rw [em]
        intro rho1 H1 v e1 r1 Z1 rv
        cases rv with
        | ref _ hi ha =>
          obtain ⟨vs, hs, hr⟩ := r1.wl e0
          subst ha
          exact ⟨_, rfl, ⟨vs, hs⟩, q rho1 H1 _ e1 r1 (rit_lst r1 hi) rdone_id⟩
      | none =>
        rw [e0] at q
        by_cases hik : ∃ l, w1.get k = some (.ik l)
        · obtain ⟨l, eg⟩ := hik
          dsimp only at q
          rw [eg] at q
          refine .inr (tM_then r Z ?_)
          rw [em]
          intro rho1 H1 v e1 r1 Z1 rv
          cases rv with
          | ref _ hi ha =>
            subst ha
            obtain ⟨ob, es, ep, kvs, hat, hex, hdt, hko, hpr, hnd, hkl, hsm, hlen⟩ := r1.obj _ _ eg
            rw [← hP, ← hW] at hpr
            exact ⟨_, ob, es, ep, _, rfl, hsm, hat, hex, hdt, pairs_int (fun _ _ z => z) hpr hkl, q rho1 H1 _ e1 r1 (rit_ik eg hi hat) rdone_id⟩
        refine .inl (.inr (tM_then r Z ?_))
        rw [em]
        intro rho1 H1 v e1 r1 Z1 rv
        cases rv with
        | ref _ hi ha =>
          subst ha
          dsimp only at q
          split at q
          · rename_i l eg
            obtain ⟨ob, es, ep, xs, rd⟩ := r1.obj _ _ eg
            have g := fun j => relock_get (k' := true) (j := j) r1 eg
            have r2 := r1.relock (k' := true) eg
            clear hik
            have e12 : Ext u rho1 w1 H1 rho1 (w1.set k (.dct true l)) H1 := ⟨Nat.le_refl _, fun _ _ => rfl, .refl _, fun i l' hl hk => ⟨by
              rw [g]
              by_cases hik : i = k
              · rw [hik, eg] at hl; cases hl; cases hk
              · rw [if_neg hik]; exact hl, rfl⟩, fun a h1 h0 h2 => ⟨rfl, h2⟩⟩
            have hkt : (w1.set k (.dct true l)).get k = some (.dct true l) := by rw [g, if_pos rfl]
            refine ⟨_, l, ob, es, ep, xs, rho1, w1.n, rfl, rd, q rho1 H1 _ (e1.trans r e12) r2 (rit_dks hkt hi rd) ?_⟩
            intro rho' w' H' eA eB r'
            obtain ⟨f1, f2⟩ := eB.lock k _ hkt rfl
            have g' := fun j => relock_get (k' := false) (j := j) r' f1
            refine ⟨r'.relock f1, ⟨eA.n, eA.rh, eA.tups, fun i l' hl hk => ⟨?_, (eA.lock i l' hl hk).2⟩, eA.oth⟩, rfl⟩
            show (w'.set k (.dct false l)).get i = _
            rw [g']
            by_cases hik : i = k
            · exfalso
              have := (e1.lock i l' hl hk).1
              rw [hik, eg] at this
              cases this
              cases hk
            · rw [if_neg hik]
              exact (eA.lock i l' hl hk).1
          · rename_i l eg
            obtain ⟨ob, es, ep, xs, rd⟩ := r1.obj _ _ eg
            exact ⟨_, l, ob, es, ep, xs, rho1, w1.n, rfl, rd, q rho1 H1 _ e1 r1 (rit_dks eg hi rd) rdone_id⟩
          · rename_i l eg
            exact absurd ⟨l, eg⟩ hik
          · exact q.elim
    | tup l =>
      dsimp only at q
      refine .inl (.inl (.inr (tM_then r Z ?_)))
      rw [em]
      intro rho1 H1 v e1 r1 Z1 rv
      cases rv with
      | tup hq hr => exact ⟨_, rfl, ⟨_, hq⟩, q rho1 H1 _ e1 r1 (rit_tup' hq hr) rdone_id⟩
    | _ => exact q.elim
  | ex c p w1 =>
    rw [em] at q
    refine .inl (.inl (.inl (tM_then r Z ?_)))
    rw [em]
    exact q
  | bad => rw [em] at q; exact q.elim
end
end Ev

set_option Elab.async false
set_option linter.all false
set_option maxRecDepth 100000
set_option maxHeartbeats 4000000
/-! EvH: sorted; list, len, setdefault of dicts. -/
namespace Ev
open PySem PySem.Spec PyProof.Rows L2
open PySem.W (TotalLe sortLe sortLe_total sort_unique sameRank dataLe EachIs AllAlike Sortable alike)
/-! ### a sort that computes -/
def ins {α : Type} (le : α → α → Bool) (x : α) : List α → List α
  | [] => [x]
  | y :: r => bif le x y then x :: y :: r else y :: ins le x r
def isort {α : Type} (le : α → α → Bool) : List α → List α
  | [] => []
  | x :: r => ins le x (isort le r)
section
variable {α β : Type} {le : α → α → Bool}
theorem ins_cons (x y : α) (r : List α) : ins le x (y :: r) = if le x y = true then x :: y :: r else y :: ins le x r := by
  show (bif le x y then _ else _) = _
  cases le x y <;> rfl
theorem mem_ins {x z : α} : ∀ {l : List α}, z ∈ ins le x l ↔ z = x ∨ z ∈ l
  | [] => by simp [ins]
  | y :: r => by
    rw [ins_cons]
    split
    · simp
    · rw [List.mem_cons, mem_ins (l := r), List.mem_cons]
      constructor
      · rintro (h | h | h)
        · exact .inr (.inl h)
        · exact .inl h
        · exact .inr (.inr h)
      · rintro (h | h | h)
        · exact .inr (.inl h)
        · exact .inl h
        · exact .inr (.inr h)
theorem ins_sorted (h : TotalLe le) (x : α) : ∀ {l : List α}, l.Pairwise (fun a b => le a b = true) → (ins le x l).Pairwise (fun a b => le a b = true)
  | [], _ => by simp [ins]
  | y :: r, p => by
    obtain ⟨p1, p2⟩ := List.pairwise_cons.mp p
    rw [ins_cons]
    split
    · rename_i hxy
      refine List.pairwise_cons.mpr ⟨fun z hz => ?_, p⟩
      rcases List.mem_cons.mp hz with rfl | hz
      · exact hxy
      · exact h.trans _ _ _ hxy (p1 z hz)
    · rename_i hxy
      refine List.pairwise_cons.mpr ⟨fun z hz => ?_, ins_sorted h x p2⟩
      rcases mem_ins.mp hz with rfl | hz
      · exact (h.total y z).resolve_right hxy
      · exact p1 z hz
theorem ins_filter (h : TotalLe le) (x c : α) : ∀ {l : List α}, (ins le x l).filter (sameRank le c) = (x :: l).filter (sameRank le c)
  | [] => rfl
  | y :: r => by
    rw [ins_cons]
    split
    · rfl
    · rename_i hxy
      rw [List.filter_cons, ins_filter h x c (l := r), List.filter_cons (x := x), List.filter_cons (x := x), List.filter_cons (x := y)]
      cases hx : sameRank le c x with
      | false => rfl
      | true =>
        have hy : sameRank le c y = false := by
          cases hy : sameRank le c y with
          | false => rfl
          | true =>
            unfold sameRank at hx hy
            rw [Bool.and_eq_true] at hx hy
            exact absurd (h.trans _ _ _ hx.2 hy.1) hxy
        rw [hy]
        rfl
theorem isort_sorted (h : TotalLe le) : ∀ l : List α, (isort le l).Pairwise (fun a b => le a b = true)
  | [] => .nil
  | x :: r => ins_sorted h x (isort_sorted h r)
theorem isort_filter (h : TotalLe le) (c : α) : ∀ l : List α, (isort le l).filter (sameRank le c) = l.filter (sameRank le c)
  | [] => rfl
  | x :: r => by
    show (ins le x (isort le r)).filter _ = _
    rw [ins_filter h x c, List.filter_cons, List.filter_cons, isort_filter h c r]
theorem isort_eq (h : TotalLe le) (l : List α) : isort le l = l.mergeSort le := sort_unique h (isort_sorted h l) fun c => isort_filter h c l
theorem ins_map (f : β → α) (x : β) : ∀ l : List β, (ins (fun a b => le (f a) (f b)) x l).map f = ins le (f x) (l.map f)
  | [] => rfl
  | y :: r => by
    rw [ins_cons, List.map_cons, ins_cons]
    split
    · rfl
    · rw [List.map_cons, ins_map f x r]
theorem isort_map (f : β → α) : ∀ l : List β, (isort (fun a b => le (f a) (f b)) l).map f = isort le (l.map f)
  | [] => rfl
  | x :: r => by
    show (ins _ x (isort _ r)).map f = _
    rw [ins_map, isort_map f r]; rfl
theorem mem_isort {z : α} : ∀ {l : List α}, z ∈ isort le l ↔ z ∈ l
  | [] => Iff.rfl
  | x :: r => by
    show z ∈ ins le x (isort le r) ↔ _
    rw [mem_ins, mem_isort (l := r), List.mem_cons]
theorem isort_length : ∀ l : List α, (isort le l).length = l.length
  | [] => rfl
  | x :: r => by
    have : ∀ (x : α) (m : List α), (ins le x m).length = m.length + 1 := by
      intro x m
      induction m with
      | nil => rfl
      | cons y m ih =>
        rw [ins_cons]
        split
        · rfl
        · rw [List.length_cons, ih]; rfl
    show (ins le x (isort le r)).length = _
    rw [this, isort_length r]; rfl
end
/-! ### items as data -/
def W0 : W := .mk 0 .e
def encD (d : D) : PyData := match toP 8 W0 d with
  | some p => p
  | none => .none
def isSomeB {α : Type} : Option α → Bool
  | some _ => true
  | none => false
def isTupB : D → Bool
  | .tup (_ :: _) => true
  | _ => false
def isIntB : D → Bool
  | .int _ => true
  | _ => false
def allB' {α : Type} (f : α → Bool) : List α → Bool
  | [] => true
  | x :: r => bif f x then allB' f r else false
theorem allB'_ok {α : Type} {f : α → Bool} : ∀ {l : List α}, allB' f l = true → ∀ x ∈ l, f x = true
  | [], _, x, h => by cases h
  | y :: r, h, x, hx => by
    have h' : (bif f y then allB' f r else false) = true := h
    obtain ⟨h1, h2⟩ := bif_and h'
    rcases List.mem_cons.mp hx with rfl | hx
    · exact h1
    · exact allB'_ok h2 x hx
/-- what may be sorted -/
def sortOk (ds : List D) : Bool := bif allB' (fun d => isSomeB (toP 8 W0 d)) ds then bif allB' (fun a => allB' (fun b => alike (encD a) (encD b)) ds) ds then bif allB' isTupB ds then true else allB' isIntB ds else false else false
theorem toP_depth_go {n : Nat} (ih : ∀ d p, toP n W0 d = some p → p.depth ≤ n) : ∀ (l : List D) (ps : List PyData), toPs (toP n W0) l = some ps → PyData.depthAll ps ≤ n
  | [], ps, h => by simp only [toPs, Option.some.injEq] at h; subst h; simp [PyData.depthAll]
  | d :: r, ps, h => by
    simp only [toPs] at h
    split at h
    · rename_i x xs h1 h2
      cases h
      have a := ih d x h1
      have b := toP_depth_go ih r xs h2
      simp only [PyData.depthAll]
      omega
    · cases h
theorem toP_depth : ∀ (n : Nat) (d : D) (p : PyData), toP n W0 d = some p → p.depth ≤ n
  | 0, d, p, h => by simp [toP] at h
  | n + 1, d, p, h => by
    unfold toP at h
    cases d with
    | non => cases h; simp [PyData.depth]
    | bl b => cases h; simp [PyData.depth]
    | int i => cases h; simp [PyData.depth]
    | str s => cases h; simp [PyData.depth]
    | tup l =>
      dsimp only at h
      cases e : toPs (toP n W0) l with
      | none => rw [e] at h; cases h
      | some ps =>
        rw [e] at h; cases h
        have := toP_depth_go (toP_depth n) l ps e
        simp only [PyData.depth]
        omega
    | _ => cases h
theorem enc_tup {x : D} {r : List D} {p : PyData} (h : toP 8 W0 (.tup (x :: r)) = some p) : ∃ y s, p = .tuple (y :: s) := by
  unfold toP at h
  dsimp only at h
  cases e : toPs (toP 7 W0) (x :: r) with
  | none => rw [e] at h; cases h
  | some ps =>
    rw [e] at h; cases h
    simp only [toPs] at e
    split at e
    · cases e; exact ⟨_, _, rfl⟩
    · cases e
mutual
theorem reads_lt {h : Heap} : ∀ {v : Value} {d : PyData} {as : List Addr}, Reads h v d as → ∀ a ∈ as, a < h.objs.size
  | _, _, _, .none, _, hm => by cases hm
  | _, _, _, .bool _, _, hm => by cases hm
  | _, _, _, .int _ _, _, hm => by cases hm
  | _, _, _, .str _ _, _, hm => by cases hm
  | _, _, _, .list h1 _ _ h4, _, hm => by
    rcases List.mem_cons.mp hm with rfl | hm
    · exact Heap.lt_size h1
    · exact readsAll_lt h4 _ hm
  | _, _, _, .tuple _ _ _ h4, _, hm => readsAll_lt h4 _ hm
  | _, _, _, .dict h1 _ _ h4 h5, _, hm => by
    rcases List.mem_append.mp hm with hm | hm
    · rcases List.mem_cons.mp hm with rfl | hm
      · exact Heap.lt_size h1
      · exact readsAll_lt h4 _ hm
    · exact readsAll_lt h5 _ hm
theorem readsAll_lt {h : Heap} : ∀ {v : List Value} {d : List PyData} {as : List Addr}, ReadsAll h v d as → ∀ a ∈ as, a < h.objs.size
  | _, _, _, .nil, _, hm => by cases hm
  | _, _, _, .cons h1 h2, _, hm => by
    rcases List.mem_append.mp hm with hm | hm
    · exact reads_lt h1 _ hm
    · exact readsAll_lt h2 _ hm
end
section
variable {X : Cx} {u : U} {pins : List (Addr × Obj)} {σ : L2.St} {H : Hp} {s : Shared} {rho : Nat → Addr} {w : W} {E : XK} {n : Nat}
theorem RV.dp0 (rv0 : RW u rho W0 H → True) {d : D} {v : V} {p : PyData} : True := True.intro
/-- Dp of a value that holds no reference -/
theorem dp_go {k : Nat} (ih : ∀ d v p, toP k W0 d = some p → RV u rho n H d v → Dp u.K H v p) : ∀ (l : List D) (vs : List V) (ps : List PyData), toPs (toP k W0) l = some ps → RVs u rho n H l vs → DpAll u.K H vs ps
  | [], _, _, h, .nil => by
    simp only [toPs, Option.some.injEq] at h
    subst h
    exact .nil
  | d :: r, _, _, h, .cons a b => by
    simp only [toPs] at h
    split at h
    · rename_i x xs h1 h2
      cases h
      exact .cons (ih _ _ _ h1 a) (dp_go ih r _ _ h2 b)
    · cases h
theorem dp_of : ∀ (k : Nat) (d : D) (v : V) (p : PyData), toP k W0 d = some p → RV u rho n H d v → Dp u.K H v p
  | 0, d, v, p, h, _ => by simp [toP] at h
  | k + 1, d, v, p, h, rv => by
    unfold toP at h
    cases rv with
    | non => cases h; exact .non
    | bl b => cases h; exact .bl b
    | int i => cases h; exact .int i
    | str x hx => cases h; rw [str_of hx]; exact .str _
    | tup hq hr =>
      dsimp only at h
      cases e : toPs (toP k W0) _ with
      | none => rw [e] at h; cases h
      | some ps => rw [e] at h; cases h; exact .tup hq (dp_go (dp_of k) _ _ _ e hr)
    | _ => cases h
/-- what sorting gives, by values and their stand-ins -/
abbrev PR := D × V
def encP (b : PR) : PyData := encD b.1
theorem sort_prem (hK : X.K = u.K) (I : Inv X pins σ H s) : ∀ {ds : List D} {vs : List V} {us : List Value}, (∀ d ∈ ds, isSomeB (toP 8 W0 d) = true) → RVs u rho n H ds vs → Vals vs us →
    EachIs (fun u b => RelV b.2 u) us (ds.zip vs) ∧ EachIs (fun u b => ∃ as, Reads s.heap u (encP b) as) us (ds.zip vs) ∧ us.length = ds.length
  | [], _, _, _, .nil, .nil => ⟨.nil, .nil, rfl⟩
  | d :: ds, _, _, hd, .cons a r, .cons b t => by
    obtain ⟨h1, h2, h3⟩ := sort_prem hK I (fun x hx => hd x (List.mem_cons_of_mem _ hx)) r t
    refine ⟨.cons b h1, .cons ?_ h2, by rw [List.length_cons, List.length_cons, h3]⟩
    have hs := hd d List.mem_cons_self
    show ∃ as, Reads s.heap _ (encD d) as
    unfold encD
    cases e : toP 8 W0 d with
    | none => rw [e] at hs; cases hs
    | some p =>
      have := dp_of 8 _ _ _ e a
      rw [← hK] at this
      exact Dp.reads I p _ _ this b
theorem sort_post : ∀ {us : List Value} {bs : List PR}, EachIs (fun u b => RelV b.2 u) us bs → Vals (bs.map (·.2)) us
  | _, _, .nil => .nil
  | _, _, .cons h t => .cons h (sort_post t)
theorem zip_RV : ∀ {ds : List D} {vs : List V}, RVs u rho n H ds vs → ∀ b ∈ ds.zip vs, RV u rho n H b.1 b.2
  | _, _, .nil, b, h => by cases h
  | _, _, .cons a r, b, h => by
    rcases List.mem_cons.mp h with rfl | h
    · exact a
    · exact zip_RV r b h
theorem RVs_of : ∀ {bs : List PR}, (∀ b ∈ bs, RV u rho n H b.1 b.2) → RVs u rho n H (bs.map (·.1)) (bs.map (·.2))
  | [], _ => .nil
  | b :: bs, h => .cons (h b List.mem_cons_self) (RVs_of fun c hc => h c (List.mem_cons_of_mem _ hc))
theorem zip_fst : ∀ {ds : List D} {vs : List V}, RVs u rho n H ds vs → (ds.zip vs).map (·.1) = ds
  | _, _, .nil => rfl
  | _, _, .cons a r => by rw [List.zip_cons_cons, List.map_cons, zip_fst r]
def dLe (a b : D) : Bool := dataLe false encD a b
theorem prem_alike {ds : List D} (ha : ∀ a ∈ ds, ∀ b ∈ ds, alike (encD a) (encD b) = true) {vs : List V} : AllAlike ((ds.zip vs).map encP) := by
  intro d hd d' hd'
  obtain ⟨b, hb, rfl⟩ := List.mem_map.mp hd
  obtain ⟨b', hb', rfl⟩ := List.mem_map.mp hd'
  exact ha _ (List.of_mem_zip hb).1 _ (List.of_mem_zip hb').1
theorem prem_sortable {ds : List D} (hs : ∀ d ∈ ds, isSomeB (toP 8 W0 d) = true) (h : (∀ d ∈ ds, isTupB d = true) ∨ ∀ d ∈ ds, isIntB d = true) {vs : List V} : Sortable ((ds.zip vs).map encP) := by
  rcases h with h | h
  · refine .inl fun d hd => ?_
    obtain ⟨b, hb, rfl⟩ := List.mem_map.mp hd
    have hm := (List.of_mem_zip hb).1
    have h1 := h _ hm
    have h2 := hs _ hm
    show ∃ x r, encD b.1 = .tuple (x :: r)
    unfold encD
    obtain ⟨d, v⟩ := b
    dsimp only at h1 h2 ⊢
    cases d with
    | tup l =>
      cases l with
      | nil => cases h1
      | cons x r =>
        cases e : toP 8 W0 (.tup (x :: r)) with
        | none => rw [e] at h2; cases h2
        | some p =>
          obtain ⟨y, t, rfl⟩ := enc_tup e
          exact ⟨y, t, rfl⟩
    | _ => cases h1
  · refine .inr fun d hd => ?_
    obtain ⟨b, hb, rfl⟩ := List.mem_map.mp hd
    have hm := (List.of_mem_zip hb).1
    have h1 := h _ hm
    obtain ⟨d, v⟩ := b
    dsimp only at h1
    cases d with
    | int i =>
      have e : encP (D.int i, v) = .int i := rfl
      rw [e]
      exact ⟨(fun z => by cases z), (fun xs z => by cases z)⟩
    | _ => cases h1
theorem enc_depth {ds : List D} {vs : List V} : ∀ b ∈ ds.zip vs, (encP b).depth ≤ 8 := by
  intro b _
  show (encD b.1).depth ≤ 8
  unfold encD
  cases e : toP 8 W0 b.1 with
  | none => simp [PyData.depth]
  | some p => exact toP_depth 8 _ _ e
theorem sort_same (ds : List D) (vs : List V) : (ds.zip vs).mergeSort (dataLe false encP) = isort (fun a b => dLe a.1 b.1) (ds.zip vs) :=
  (isort_eq (sortLe_total _ _ _) _).symm
def rSortD (u : U) : List V → Hp → VK → Prop := fun xs H Q => ∃ (a : Addr) (ds : List D) (vs : List V) (rho : Nat → Addr) (n : Nat), xs = [.ref a] ∧ RVs u rho n H ds vs ∧ ds.length ≤ 100000 ∧ sortOk ds = true ∧
  (SqL u.K H a vs ∨ ∃ l ob es ep ys, RD u rho n H a l ob es ep ys ∧ l.map (·.1) = ds ∧ ys.map (fun y => V.ref y.2.1) = vs) ∧
  ∀ p, H p = none → Q (.ref p) (L2.upd H p (.lst ((isort (fun a b => dLe a.1 b.1) (ds.zip vs)).map (·.2))))
theorem sortOk_ok {ds : List D} (h : sortOk ds = true) : (∀ d ∈ ds, isSomeB (toP 8 W0 d) = true) ∧ (∀ a ∈ ds, ∀ b ∈ ds, alike (encD a) (encD b) = true) ∧ ((∀ d ∈ ds, isTupB d = true) ∨ ∀ d ∈ ds, isIntB d = true) := by
  unfold sortOk at h
  cases h1 : allB' (fun d => isSomeB (toP 8 W0 d)) ds with
  | false => rw [h1] at h; cases h
  | true =>
    rw [h1] at h
    dsimp only [cond_true] at h
    cases h2 : allB' (fun a => allB' (fun b => alike (encD a) (encD b)) ds) ds with
    | false => rw [h2] at h; cases h
    | true =>
      rw [h2] at h
      dsimp only [cond_true] at h
      refine ⟨allB'_ok h1, fun a ha b hb => allB'_ok (allB'_ok h2 a ha) b hb, ?_⟩
      cases h3 : allB' isTupB ds with
      | true => exact .inl (allB'_ok h3)
      | false => rw [h3] at h; exact .inr (allB'_ok h)
theorem vals_refs (l : List (NestedKey × Addr × Value)) : Vals (l.map fun y => V.ref y.2.1) (l.map fun y => Value.ref y.2.1) := by
  induction l with
  | nil => exact .nil
  | cons y l ih => exact .cons rfl ih
theorem items_keys {es : Array DictEntry} {xs : List (NestedKey × Addr × Value)} {acc : Array Value} {P : Program} {w : World} (he : es.toList = xs.map (entryOfKey (nestedKind P w))) (h : ItemsOf (fun i v => ∃ hi : i < es.size, v = es[i].key) acc es.size) :
    acc.toList = xs.map fun y => Value.ref y.2.1 := by
  apply List.ext_getElem?
  intro i
  have hl : es.size = xs.length := by
    have := congrArg List.length he
    simpa using this
  by_cases hi : i < es.size
  · have hi2 : i < acc.size := by rw [h.1]; exact hi
    obtain ⟨_, e⟩ := h.2 i acc[i] (Array.getElem?_eq_getElem hi2)
    have hx : i < xs.length := by omega
    have e2 : es[i] = entryOfKey (nestedKind P w) xs[i] := by
      have := congrArg (fun l => l[i]?) he
      simpa [List.getElem?_map, hx, hi] using this
    rw [Array.getElem?_toList, Array.getElem?_eq_getElem hi2, List.getElem?_map, List.getElem?_eq_getElem hx, e, e2]
    rfl
  · rw [Array.getElem?_toList, Array.getElem?_eq_none (by rw [h.1]; omega), List.getElem?_map, List.getElem?_eq_none (by omega)]
    rfl
theorem cr_sortD (hK : X.K = u.K) (hc : X.calm = true) (hu : X.A.units + 64 < cLine) : CallR X (.builtin "sorted") (rSortD u) := by
  intro pins s σ H xs us Q I r q
  obtain ⟨a, ds, vs, rho, n, rfl, rvs, hlen, hok, hsrc, q⟩ := q
  obtain ⟨ux, rfl, rx⟩ := vals1 r
  cases rx
  obtain ⟨k1, k2, k3⟩ := sortOk_ok hok
  have hlz : (ds.zip vs).length = ds.length := by rw [List.length_zip, ← rvs.length, Nat.min_self]
  have hbound : (ds.zip vs).length ≤ sizeLine := by rw [hlz, sizeLine_eq]; omega
  have hres : ((isort (fun (a b : PR) => dLe a.1 b.1) (ds.zip vs)).map (·.2)).length ≤ sizeLine := by rw [List.length_map, isort_length]; exact hbound
  rcases hsrc with hs | ⟨l, ob, es, ep, ys, rd, e1, e2⟩
  · rw [← hK] at hs
    obtain ⟨its, rv, hl, _⟩ := I.list hs
    obtain ⟨p1, p2, p3⟩ := sort_prem hK I k1 rvs rv
    refine PySem.W.sorted_data (bs := ds.zip vs) (enc := encP) (R := fun u b => RelV b.2 u) hl.isList p1 p2 (prem_alike k2) (prem_sortable k1 k3) hbound (fun b hb => by have := enc_depth b hb; omega) fun out ho he => ?_
    obtain ⟨ep, he'⟩ := sortedAll_at s.heap its (List.toArray out)
    rw [sort_same] at he
    refine ⟨.ref _, L2.upd H (s.heap.objs.size + 1) (.lst ((isort (fun (a b : PR) => dLe a.1 b.1) (ds.zip vs)).map (·.2))), I.laid (t' := s.toks) (fun _ _ => sortedAll_old) (Nat.le_succ _) ⟨hres, out, ep, sort_post he, he'⟩, rfl, q _ (I.hok.fresh (Nat.le_succ _))⟩
  · have hr : ObjOk X.prog X.w H s.heap a (rawO a ob) := I.hok a _ rd.at_
    have hes : es.size = ys.length := by
      have := congrArg List.length rd.ents
      simpa using this
    have hyl : ys.length = ds.length := by
      rw [← rd.rel.length, ← e1, List.length_map]
    refine Calls.call_function_entry PyProof.Rows.kind_sorted PyProof.Rows.plain_sorted PyProof.Rows.entry_sorted (PyProof.Rows.args_sorted1 _) ?_
    unfold Builtin.«sorted»
    refine wpAny_bind (m := checkCount "sorted" 1 1 _) (wpAny_pure ?_)
    refine wpAny_bind (PySem.W.kdu_collect (A := X.A.in1) (KdlSrc.rawDict rd.sm) (I.ok.hd hc) ⟨ob, hr.1, rd.ex, rd.data⟩ (by rw [hes, hyl, sizeLine_eq]; omega) fun h' tk acc hk hacc => ?_)
    have hal : acc.toList = ys.map fun y => Value.ref y.2.1 := items_keys rd.ents hacc
    have hvals : Vals vs acc.toList := by rw [hal, ← e2]; exact vals_refs ys
    have I1 : Inv X pins σ H { s with heap := h', toks := tk } := I.kept hk
    refine wpAny_bind (wpAny_newList ?_ (by rw [hal, List.length_map, hyl, sizeLine_eq]; omega))
    have hoL : (h'.push (seqObj "list" acc.toList.toArray 0)).get? h'.objs.size = some (seqObj "list" acc.toList.toArray 0) := Heap.get?_push_size _ rfl
    show wpAny _ _ _ _ _ { s with heap := h'.push (seqObj "list" acc.toList.toArray 0), toks := tk }
    have I2 : Inv X pins σ H { s with heap := h'.push (seqObj "list" acc.toList.toArray 0), toks := tk } := I1.kept fun b o e => Heap.get?_push_of_some _ e
    obtain ⟨p1, p2, p3⟩ := sort_prem hK I1 k1 rvs hvals
    have p2' : EachIs (fun v b => ∃ as, Reads (h'.push (seqObj "list" acc.toList.toArray 0)) v (encP b) as ∧ h'.objs.size ∉ as) acc.toList (ds.zip vs) := p2.mono fun v b ⟨as, hr⟩ => by
      refine ⟨as, PyProof.Rows.Reads.keeps (fun b o e => Heap.get?_push_of_some _ e) hr, fun hm => ?_⟩
      have hlt := reads_lt hr _ hm
      exact Nat.lt_irrefl _ hlt
    refine wpAny_bind (wpAny_holding (PySem.W.list_sort_data (bs := ds.zip vs) (enc := encP) (R := fun u b => RelV b.2 u) (s := { s with heap := h'.push (seqObj "list" acc.toList.toArray 0), toks := tk }) hoL p1 p2' (prem_alike k2) (prem_sortable k1 k3) hbound (fun b hb => by
      have := enc_depth b hb
      show X.A.units + 1 + 1 + (encP b).depth < cLine
      omega) fun out ho he => ?_))
    rw [sort_same] at he
    obtain ⟨e', he'⟩ := sortedHeap_at (vs := acc.toList) (out := List.toArray out) hoL
    refine wpAny_pure ⟨_, rfl, .ref h'.objs.size, L2.upd H h'.objs.size (.lst ((isort (fun (a b : PR) => dLe a.1 b.1) (ds.zip vs)).map (·.2))), I1.laid (t' := tk) (fun b u e => ?_) (Nat.le_refl _)
      (show ObjOk X.prog X.w _ _ _ (.lst _) from ⟨hres, out, e', sort_post he, he'⟩), rfl, q _ (I1.hok.fresh (Nat.le_refl _))⟩
    have hb : b < h'.objs.size := Heap.lt_size e
    rw [sortedHeap_old (Nat.ne_of_lt hb) (by rw [size_push']; exact Nat.lt_succ_of_lt hb)]
    exact Heap.get?_push_of_some _ e

theorem rel_keys {l : List (D × D)} {xs : List (NestedKey × Addr × Value)} (h : REs u rho n H l xs) : RVs u rho n H (l.map (·.1)) (xs.map fun y => V.ref y.2.1) := by
  induction h with
  | nil => exact .nil
  | cons _ b _ _ _ ih => exact .cons b ih
/-- sorted(x) of a list or a dict -/
def fSorted : FN := fun ds w => match ds with
  | [.ref i] => (match wl w i with
    | some l => bif (bif Nat.ble l.length 100000 then sortOk l else false) then alloc (.lst (isort dLe l)) w else .bad
    | none => (match wd w i with
      | some l => bif (bif Nat.ble (l.map (·.1)).length 100000 then sortOk (l.map (·.1)) else false) then alloc (.lst (isort dLe (l.map (·.1)))) w else .bad
      | none => .bad))
  | _ => .bad
theorem isort_fst {ds : List D} {vs : List V} (rvs : RVs u rho n H ds vs) : (isort (fun (a b : PR) => dLe a.1 b.1) (ds.zip vs)).map (·.1) = isort dLe ds := by
  have z := isort_map (le := dLe) (fun b : PR => b.1) (ds.zip vs)
  rw [zip_fst rvs] at z
  exact z
theorem sorted_rvs {ds : List D} {vs : List V} (rvs : RVs u rho n H ds vs) : RVs u rho n H (isort dLe ds) ((isort (fun (a b : PR) => dLe a.1 b.1) (ds.zip vs)).map (·.2)) := by
  rw [← isort_fst rvs]
  exact RVs_of fun b hb => zip_RV rvs b (mem_isort.mp hb)
theorem fits_sorted : FitsN u E (rSortD u) fSorted := by
  intro rho w H ds vs Q r rv q
  unfold fSorted at q
  split at q
  · match vs, rv with
    | [_], .cons (.ref k hk ek) .nil =>
      subst ek
      split at q
      · rename_i l e0
        obtain ⟨xs, hs, hr⟩ := r.wl e0
        obtain ⟨hb, q⟩ := bbeq q
        obtain ⟨h1, h2⟩ := bif_and hb
        exact ⟨_, l, xs, rho, w.n, rfl, hr, Nat.le_of_ble_eq_true h1, h2, .inl hs, fits_new r (sorted_rvs hr) q⟩
      · split at q
        · rename_i l e0
          obtain ⟨ob, es, ep, ys, rd⟩ := r.wd e0
          obtain ⟨hb, q⟩ := bbeq q
          obtain ⟨h1, h2⟩ := bif_and hb
          have hr := rel_keys rd.rel
          exact ⟨_, l.map (·.1), _, rho, w.n, rfl, hr, Nat.le_of_ble_eq_true h1, h2, .inr ⟨l, ob, es, ep, ys, rd, rfl, rfl⟩, fits_new r (sorted_rvs hr) q⟩
        · exact q.elim
  · exact q.elim
/-! ### list(d) -/
def rListD (u : U) : List V → Hp → VK → Prop := fun xs H Q => ∃ (a : Addr) (rho : Nat → Addr) (n : Nat) (l : List (D × D)) (ob : Obj) (es : Array DictEntry) (ep : Nat) (ys : List (NestedKey × Addr × Value)), xs = [.ref a] ∧ RD u rho n H a l ob es ep ys ∧
  ∀ p, H p = none → Q (.ref p) (L2.upd H p (.lst (ys.map fun y => V.ref y.2.1)))
theorem cr_listD (hc : X.calm = true) : CallR X (.type "list") (rListD u) := by
  intro pins s σ H xs us Q I r q
  obtain ⟨a, rho, n, l, ob, es, ep, ys, rfl, rd, q⟩ := q
  obtain ⟨ux, rfl, rx⟩ := vals1 r
  cases rx
  have hr : ObjOk X.prog X.w H s.heap a (rawO a ob) := I.hok a _ rd.at_
  have hes : es.size = ys.length := by
    have := congrArg List.length rd.ents
    simpa using this
  have hyl : ys.length ≤ sizeLine := by rw [← rd.rel.length, sizeLine_eq]; have := rd.len; omega
  refine PySem.W.kdl_call (KdlSrc.rawDict rd.sm) (I.ok.hd hc) ⟨ob, hr.1, rd.ex, rd.data⟩ (by rw [hes]; exact hyl) fun h' tk acc c' hk hD hacc => ?_
  have hal := items_keys rd.ents hacc
  refine ⟨.ref s.heap.objs.size, L2.upd H s.heap.objs.size (.lst (ys.map fun y => V.ref y.2.1)), I.laid (t' := tk) hk (Nat.le_refl _)
    (show ObjOk X.prog X.w _ _ _ (.lst _) from ⟨by rw [List.length_map]; exact hyl, acc.toList, c', by rw [hal]; exact vals_refs ys, by rw [Array.toArray_toList]; exact hD⟩), rfl, q _ (I.hok.fresh (Nat.le_refl _))⟩
def fListA : FN := fun ds w => match ds with
  | [.ref i] => (match wd w i with
    | some l => alloc (.lst (l.map (·.1))) w
    | none => fListOf ds w)
  | _ => fListOf ds w
theorem fits_listA : FitsN u E (fun xs H Q => (∃ p ys, xs = [.ref p] ∧ (SqL u.K H p ys ∨ SqT u.K H p ys) ∧ ∀ l, H l = none → Q (.ref l) (upd H l (.lst ys))) ∨ rListD u xs H Q) fListA := by
  intro rho w H ds vs Q r rv q
  unfold fListA at q
  split at q
  · rename_i i
    split at q
    · rename_i l e0
      match vs, rv with
      | [_], .cons (.ref k hk ek) .nil =>
        subst ek
        obtain ⟨ob, es, ep, ys, rd⟩ := r.wd e0
        exact .inr ⟨_, rho, w.n, l, ob, es, ep, ys, rfl, rd, fits_new r (rel_keys rd.rel) q⟩
    · exact .inl (fits_listOf rho w H _ vs Q r rv q)
  · exact .inl (fits_listOf rho w H _ vs Q r rv q)
/-! ### len(d) -/
def rLenD0 (u : U) : List V → Hp → VK → Prop := fun xs H Q => ∃ (a : Addr) (rho : Nat → Addr) (n : Nat) (l : List (D × D)) (ob : Obj) (es : Array DictEntry) (ep : Nat) (ys : List (NestedKey × Addr × Value)), xs = [.ref a] ∧ RD u rho n H a l ob es ep ys ∧ Q (.int (Int.ofNat l.length)) H
def rLenI (u : U) : List V → Hp → VK → Prop := fun xs H Q => ∃ (a : Addr) (rho : Nat → Addr) (n : Nat) (l : List Int), xs = [.ref a] ∧ RO u rho n H a (.ik l) ∧ Q (.int (Int.ofNat l.length)) H
def rLenD (u : U) : List V → Hp → VK → Prop := fun xs H Q => rLenD0 u xs H Q ∨ rLenI u xs H Q
theorem cr_lenD0 (hK : X.K = u.K) (hP : X.prog = u.P) (hW : X.w = u.w) : CallR X (.builtin "len") (rLenD0 u) := by
  intro pins s σ H xs us Q I r q
  obtain ⟨a, rho, n, l, ob, es, ep, ys, rfl, rd, q⟩ := q
  obtain ⟨ux, rfl, rx⟩ := vals1 r
  cases rx
  have hm := RD.ofH I hK rd
  have hl := rd.rel.length
  have hz := rd.len
  have z : wpAny (model u.P u.w) X.A (call (.builtin "len") [.ref a]) (EP X pins σ Q) X.xe s :=
    call_len_dictH rd.sm hm (by omega) ⟨.int _, H, I.tok _, ⟨_, rfl⟩, by rw [hl] at q; exact q⟩
  rw [← hP, ← hW] at z
  exact z
theorem cr_lenI (hP : X.prog = u.P) (hW : X.w = u.w) : CallR X (.builtin "len") (rLenI u) := by
  intro pins s σ H xs us Q I r q
  obtain ⟨a, rho, n, l, rfl, ro, q⟩ := q
  obtain ⟨ux, rfl, rx⟩ := vals1 r
  cases rx
  obtain ⟨ob, es, ep, kvs, hat, hex, hdt, hko, hpr, hnd, hkl, hsm, hlen⟩ := ro
  have hr : ObjOk X.prog X.w H s.heap a (rawO a ob) := I.hok a _ hat
  have hm : s.heap.DictOf (mixKind u.P u.w) a kvs := ⟨ob, es, ep, hr.1, hex, hdt, hko, hpr, hnd⟩
  have hl : kvs.length = l.length := by
    have := congrArg List.length hkl
    simpa using this
  have z : wpAny (model u.P u.w) X.A (call (.builtin "len") [.ref a]) (EP X pins σ Q) X.xe s :=
    call_len_dict hsm hm (by omega) ⟨.int _, H, I.tok _, ⟨_, rfl⟩, by rw [← hl] at q; exact q⟩
  rw [← hP, ← hW] at z
  exact z
theorem cr_lenD (hK : X.K = u.K) (hP : X.prog = u.P) (hW : X.w = u.w) : CallR X (.builtin "len") (rLenD u) := (cr_lenD0 hK hP hW).or (cr_lenI hP hW)
def fLenA : FN := fun ds w => match ds with
  | [.ref i] => (match wd w i with
    | some l => .ok (.int (Int.ofNat l.length)) w
    | none => (match w.get i with
      | some (.ik l) => .ok (.int (Int.ofNat l.length)) w
      | _ => fLen ds w))
  | _ => fLen ds w
theorem fits_lenA : FitsN u E (fun xs H Q => (∃ p ys, xs = [.ref p] ∧ (SqL u.K H p ys ∨ SqT u.K H p ys) ∧ Q (.int ys.length) H) ∨ rLenD u xs H Q) fLenA := by
  intro rho w H ds vs Q r rv q
  unfold fLenA at q
  split at q
  · rename_i i
    split at q
    · rename_i l e0
      match vs, rv with
      | [_], .cons (.ref k hk ek) .nil =>
        subst ek
        obtain ⟨ob, es, ep, ys, rd⟩ := r.wd e0
        exact .inr (.inl ⟨_, rho, w.n, l, ob, es, ep, ys, rfl, rd, q rho H _ .refl r (.int _)⟩)
    · split at q
      · rename_i l eg
        match vs, rv with
        | [_], .cons (.ref k hk ek) .nil =>
          subst ek
          exact .inr (.inr ⟨_, rho, w.n, l, rfl, r.obj _ _ eg, q rho H _ .refl r (.int _)⟩)
      · exact .inl (fits_len rho w H _ vs Q r rv q)
  · exact .inl (fits_len rho w H _ vs Q r rv q)
end
/-! ### d.setdefault(k, v) -/
section
variable {X : Cx} {u : U} {o e f : Expr} {td ty tx : TE} {apos cpos : Pos} {E : XK}
def tSetd (u : U) (td ty tx : TE) : TE := fun σ H Q => td σ H fun x H1 => ∃ (b : Addr) (rho : Nat → Addr) (n : Nat) (l : List (D × D)) (ob : Obj) (es : Array DictEntry) (ep : Nat) (ys : List (NestedKey × Addr × Value)), x = .ref b ∧ RD u rho n H1 b l ob es ep ys ∧
  ty σ H1 fun y H2 => tx σ H2 fun z H3 => ∃ (a : Addr) (nk : NestedKey) (d : D) (rho : Nat → Addr) (n : Nat) (l : List (D × D)) (ob : Obj) (es : Array DictEntry) (ep : Nat) (ys : List (NestedKey × Addr × Value)), y = .ref a ∧ RD u rho n H3 b l ob es ep ys ∧ keyOf 8 d = some nk ∧ RV u rho n H3 d (.ref a) ∧
    (∀ p, atKey ys nk = some p → ∃ vv, RelV vv p.2 ∧ Q vv H3) ∧
    (atKey ys nk = none → ∀ ob' es' ep' val, RelV z val → ob'.ExactDict → ob'.data = .dict es' ep' → es'.toList = (storedH ys nk a val).map (entryOfKey (nestedKind u.P u.w)) → ((storedH ys nk a val).map (·.1)).Nodup → Q z (L2.upd H3 b (rawO b ob')))
theorem pe_setd (hK : X.K = u.K) (hP : X.prog = u.P) (hW : X.w = u.w) (hu : X.A.units + 64 < cLine) (ho : PE X o td) (he : PE X e ty) (hf : PE X f tx) (m : M2 X o "setdefault" apos e f cpos) : PE X (.Call (.Attribute o "setdefault" apos) [e, f] [] cpos) (tSetd u td ty tx) := by
  refine ⟨fun pins s σ H Q I h => ?_⟩
  refine wpAny_Call_method m.base m.few m.line PySem.F.plainAttrs_dict PySem.F.slot_dict_setdefault PySem.F.type_dict_setdefault (thn (ho.run pins s σ H _ I h) fun uo s1 ⟨x, H1, I1, rx, b, rho, n, l, ob, es, ep, ys, ex, rd, q1⟩ => ?_)
  subst ex
  obtain rfl : uo = Value.ref b := rx
  have hm1 := RD.ofH I1 hK rd
  refine ⟨hm1.typeIs, fun b' q => ?_, ?_⟩
  · cases q
    obtain ⟨ob, _, _, h1, h2, _⟩ := hm1
    exact ⟨ob, h1, h2.2.1⟩
  rw [m.trees]
  refine Calls.callWith_builtin rfl (Calls.evalArgs_plain (Calls.spliced_cons (thn (he.run pins s1 σ H1 _ I1 q1) fun iv s2 ⟨y, H2, I2, ry, q2⟩ =>
    Calls.spliced_cons (thn (hf.run pins s2 σ H2 _ I2 q2) fun fv s3 ⟨z, H3, I3, rz, a, nk, d, rho, n, l, ob, es, ep, ys, ey, rd, hk, rvk, q3, q4⟩ => Calls.spliced_nil ?_))))
  subst ey
  cases ry
  have hm := RD.ofH I3 hK rd
  have zz : wpAny (model u.P u.w) X.A (call (.builtin "dict.setdefault") [.ref b, .ref a, fv]) (EP X pins σ Q) X.xe s3 := by
    refine call_setdefault_heap (knd := nestedKind u.P u.w) (room8 hu) (keyed_of I3 hK hk rvk) rd.sm hm (fun p hp => ?_) (fun hn h' hm' hs => ?_) (hsz := by
      have := rd.rel.length
      have := rd.len
      rw [sizeLine_eq]; omega)
    · obtain ⟨vv, rl, q5⟩ := q3 p hp
      exact ⟨vv, H3, I3.tok _, rl, q5⟩
    · obtain ⟨ob', es', ep', ho', hex, hdt, hes, _, hnd⟩ := hm'
      exact ⟨z, _, Inv_dict I3 rd.at_ hs ho', rz, q4 hn ob' es' ep' fv rz hex hdt hes hnd⟩
  rw [← hP, ← hW] at zz
  exact zz
def mSetd (o k v : M) : M := fun s w => match o s w with
  | .ok (.ref r) w1 => (match wd w1 r with
    | some _ => (match k s w1 with
      | .ok dk w2 => (match v s w2 with
        | .ok dv w3 => (match w3.get r with
          | some (.dct lk l) => bif okKey dk then (match dLook dk l with
            | some d => .ok d w3
            | none => bif (bif lk then false else Nat.ble l.length 999999) then .ok dv (w3.set r (.dct false (dPut dk dv l))) else .bad) else .bad
          | _ => .bad)
        | .ex c p w => .ex c p w
        | .bad => .bad)
      | .ex c p w => .ex c p w
      | .bad => .bad)
    | none => .bad)
  | .ex c p w => .ex c p w
  | _ => .bad
theorem se_setd {mo mk mv : M} (h : PE X e (tSetd u (tM u E mo) (tM u E mk) (tM u E mv))) : PE X e (tM u E (mSetd mo mk mv)) := by
  refine h.imp fun σ H Q ⟨rho, s, w, r, Z, q⟩ => ?_
  refine tM_then r Z ?_
  unfold mSetd at q
  revert q
  cases mo s w with
  | bad => exact id
  | ex c p w1 => exact id
  | ok d0 w1 =>
    intro q rho1 H1 x e1 r1 Z1 rx
    cases d0 <;> try exact q.elim
    rename_i i
    dsimp only at q
    cases rx with
    | ref _ hi ha =>
    subst ha
    cases e0 : wd w1 i with
    | none => rw [e0] at q; exact q.elim
    | some l =>
      rw [e0] at q
      dsimp only at q
      obtain ⟨ob, es, ep, ys, rd⟩ := r1.wd e0
      refine ⟨_, rho1, w1.n, l, ob, es, ep, ys, rfl, rd, tM_then r1 Z1 ?_⟩
      revert q
      cases mk s w1 with
      | bad => exact id
      | ex c p w2 => exact fun q => PostX.to q r e1
      | ok dk w2 =>
        intro q rho2 H2 y e2 r2 Z2 ry
        dsimp only at q
        have e02 := e1.trans r e2
        refine tM_then r2 Z2 ?_
        revert q
        cases mv s w2 with
        | bad => exact id
        | ex c p w3 => exact fun q => PostX.to q r e02
        | ok dv w3 =>
          intro q rho3 H3 z e3 r3 Z3 rz
          dsimp only at q
          have e03 := e02.trans r e3
          have ry3 := e3.rv ry
          split at q
          · rename_i lk l3 eg
            obtain ⟨hb, q⟩ := bbeq q
            obtain ⟨nk, a, hk, rfl⟩ := okKey_ok hb ry3
            obtain ⟨ob, es, ep, ys, rd⟩ := r3.obj _ _ eg
            have hrho : rho3 i = rho1 i := (e2.trans r1 e3).rh i hi
            have hl := dLook_ok hk rd.rel
            rw [hrho] at rd
            refine ⟨a, nk, dk, rho3, w3.n, l3, ob, es, ep, ys, rfl, rd, hk, ry3, fun p hp => ?_, fun hn ob' es' ep' val rl hex hdt hes hnd => ?_⟩
            · revert hl q
              cases dLook dk l3 with
              | none => exact fun _ hl => by rw [hl] at hp; cases hp
              | some d =>
                intro q ⟨a', val', vv, hat, rl, rv⟩
                rw [hat] at hp
                cases hp
                exact ⟨vv, rl, q rho3 H3 vv e03 r3 rv⟩
            · revert hl q
              cases dLook dk l3 with
              | some d =>
                intro _ ⟨a', val', vv, hat, _, _⟩
                rw [hat] at hn
                cases hn
              | none =>
                intro q _
                dsimp only at q
                obtain ⟨hb2, q9⟩ := bbeq q
                clear q
                cases lk with
                | true => cases hb2
                | false =>
                  have hlen : (dPut dk dv l3).length ≤ 1000000 := by
                    have := dPut_len (k := dk) (v := dv) l3
                    have := Nat.le_of_ble_eq_true hb2
                    omega
                  rw [← hrho] at rd
                  obtain ⟨r', e'⟩ := r3.dput eg rd hk ry3 rl rz hex hdt hes hnd hlen
                  rw [← hrho]
                  exact q9 rho3 _ z (e03.trans r e') r' (e'.rv rz)
          · exact q.elim
end
end Ev

set_option Elab.async false
set_option linter.all false
set_option maxRecDepth 100000
set_option maxHeartbeats 4000000
/-! EvK: comprehensions that fill one object, whatever it is: sets of ints, dicts. -/
namespace Ev
open PySem PySem.Spec PyProof.Rows L2 PpSet
/-- what one turn does behind the tests: for an environment and the object's address -/
abbrev Fill := Around → Env → Addr → (Shared → Prop) → (Value → Shared → Prop) → Shared → Prop
/-- a comprehension that fills an object -/
structure AccNode (P : Program) (w : World) (node tg iter : Expr) (ifs : List Expr) (mk : Sem Value) (o0 : Obj) (fill : Fill) : Prop where
  cl : clausesOf node = [⟨tg, iter, ifs, 0⟩]
  make : ∀ (A : Around) (E : Value → Shared → Prop) (Q : Value → Shared → Prop) (s : Shared), Q (.ref s.heap.objs.size) { s with heap := s.heap.push o0 } → wpAny (model P w) A mk Q E s
  loop : ∀ (A : Around) (env : Env) (it : Value) (D : Addr) (R : Result → Shared → Prop) (I : Nat → Shared → Prop),
    (∀ n s, I n s → wpAny (model P w) A (pyNext it) (fun r s₁ => match r with
      | none => R (.ok .next) s₁
      | some v => wpAny (model P w) A (letOwnedTupleGo tg it v) (fun _ s₁' => wpAny (model P w) A (assign tg env v) (fun _ s₂ =>
          wpAny (model P w) A (forIn ifs true fun c r => if r = true then do let ok ← isTrue c env (eval c env); pure (ForInStep.yield ok) else pure (ForInStep.yield r)) (fun ok s₃ =>
            if ok = true then fill A env D (fun s₆ => ∃ m, m < n ∧ I m s₆) (notedBy (model P w) A env fun e s' => R (.error e) s') s₃
            else ∃ m, m < n ∧ I m s₃) (notedBy (model P w) A env fun e s' => R (.error e) s') s₂) (notedBy (model P w) A env fun e s' => R (.error e) s') s₁') (notedBy (model P w) A env fun e s' => R (.error e) s') s₁) (notedBy (model P w) A env fun e s' => R (.error e) s') s) →
    ∀ n s, I n s → codeAny (model P w) A (.compLoop node 0 it (.ref D) env) R s
  start : ∀ (A : Around) (env : Env) (it : Value) (D : Addr) (R : Result → Shared → Prop) (s : Shared), codeAny (model P w) A (.compLoop node 0 it (.ref D) env) R s →
    wpAny (model P w) A (pyIter it) (fun it' s' => codeAny (model P w) A (.compLoop node 0 it' (.ref D) env) R s') (notedBy (model P w) A env fun x s' => R (.error x) s') s →
    codeAny (model P w) A (.compStart node 0 it (.ref D) env) R s
abbrev TF := L2.St → Hp → Addr → (Hp → Prop) → Prop
section
variable {X : Cx}
/-- the reading; ho0: the new object -/
def tAcc (ho0 : Addr → HO) (wi : TI) (g : TG) (tt : TT) (tf : TF) (vs : List Nat) : TE := fun σ H Q => wi σ H fun J H1 => ∀ D, H1 D = none → (D == sysModules) = false → ∃ W : Nat → Nat → Hp → Prop, (∃ m, W 0 m (L2.upd H1 D (ho0 D))) ∧ ∀ i m H, W i m H →
  (J.stop i H ∧ Q (.ref D) H) ∨ (J.go i H ∧ ∃ Nx : Hp → Prop, (∀ H', Nx H' → ∃ m', m' < m ∧ W (i + 1) m' H') ∧ ∀ x H', J.yld i H x H' → g x (L2.wipe σ vs) H' fun σ2 H2 => L2.wipe σ2 vs = L2.wipe σ vs ∧ tt σ2 H2 fun b H3 =>
    if b = true then tf σ2 H3 D Nx else Nx H3)
/-- a turn's work keeps to its reading -/
def Fills (X' : Cx) (fill : Fill) (tf : TF) : Prop := ∀ (pins : List (Addr × Obj)) (σ : L2.St) (H : Hp) (s : Shared) (D : Addr) (Nx : Hp → Prop) (E : Value → Shared → Prop), Inv X' pins σ H s → tf σ H D Nx → fill X'.A X'.env D (fun s' => ∃ H', Inv X' pins σ H' s' ∧ Nx H') E s
theorem fill_mono_of {P : Program} {w : World} : True := True.intro
theorem acc_core {pins : List (Addr × Obj)} {s : Shared} {σ : L2.St} {H : Hp} {Q : VK} {node tg iter : Expr} {ifs : List Expr} {scope : Scope} {own : List (PySem.Str × Nat)} {pos' : Pos} {wi : TI} {g : TG} {tt : TT} {tf : TF} {mk : Sem Value} {o0 : Obj} {fill : Fill} {ho0 : Addr → HO} {Qf : Value → Shared → Prop}
    (N : AccNode X.prog X.w node tg iter ifs mk o0 fill) (hfm : ∀ A env D (Q Q' : Shared → Prop) E s, (∀ s, Q s → Q' s) → fill A env D Q E s → fill A env D Q' E s)
    (hlaid : ∀ (P : Program) (H : Hp) (h : Heap), sysModules < h.objs.size → ObjOk X.prog X.w H (h.push o0) h.objs.size (ho0 h.objs.size))
    (hc : X.calm = true) (hN : X.N.Nodup) (I : Inv X pins σ H s) (hi : PI X tg iter wi) (ok : BlkOk X.N X.env.scope scope own)
    (hg : ∀ (s : Shared) (H : Hp) (C : Addr) (cl : List (PySem.Str × Addr)) (fp : List Addr), PG (X.blk s H scope (compEnvC scope cl C X.env) fp) tg g)
    (ht : ∀ (s : Shared) (H : Hp) (C : Addr) (cl : List (PySem.Str × Addr)) (fp : List Addr), PTs (X.blk s H scope (compEnvC scope cl C X.env) fp) ifs tt)
    (hf : ∀ (s : Shared) (H : Hp) (C : Addr) (cl : List (PySem.Str × Addr)) (fp : List Addr), Fills (X.blk s H scope (compEnvC scope cl C X.env) fp) fill tf)
    (hs : ∀ x, foldedSetIterable iter X.env x = pure x) (h : tAcc ho0 wi g tt tf (own.map (·.2)) σ H Q)
    (hRR : ∀ D C s' m H', Inv X pins σ H' s' → Q (.ref D) H' → s'.heap.Ns C m → FpOk X pins H' C → compPost (model X.prog X.w) X.A X.xe none Qf (.ref D) C (.ok .next) s') :
    wpAny (model X.prog X.w) X.A (comprehension node scope X.env pos' mk false (eval iter X.env)) Qf X.xe s := by
  have hfree : ∀ y ∈ scope.names, y.2 = .free → ∃ c, X.env.cells.lookup y.1 = some c := fun y hy e => by
    rcases ok.free y hy e with k | k
    · exact I.ok.has _ (.inl k)
    · exact I.ok.has _ (.inr k)
  refine wpAny_comprehension_free (use := none) N.cl hs (closure_ok hfree) ok.kind (fun y hy e => by rw [ok.uniq y hy, e])
    (thn (hi.run pins s σ H _ I h) fun xv s1 hx => thn hx fun itv s2 h2 => ?_)
  obtain ⟨it, fp, tn, J, H2, e, I2, T, st2, f2, q⟩ := h2
  subst e
  refine N.make _ _ _ _ (newEnv_comp ?_)
  generalize hD : s2.heap.objs.size = D
  have hDn : H2 D = none := I2.hok.fresh (Nat.le_of_eq hD)
  have hDs : (D == sysModules) = false := by rw [← hD]; exact no_sys I2
  obtain ⟨W, ⟨m0, w0⟩, turn⟩ := q D hDn hDs
  generalize hs3 : ({ s2 with heap := s2.heap.push o0 } : Shared) = s3
  have I3 : Inv X pins σ (L2.upd H2 D (ho0 D)) s3 := by
    rw [← hs3]
    refine I2.laid (t' := s2.toks) (fun b o e => Heap.get?_push_of_some _ e) (Nat.le_of_eq hD) ?_
    rw [← hD]
    exact hlaid X.prog _ s2.heap I2.big
  have h3 : s3.heap = s2.heap.push o0 := by rw [← hs3]
  have below : ∀ b ∈ fp, b < s2.heap.objs.size := fun b hb => by
    obtain ⟨o, e, _⟩ := T.obj _ _ st2 b hb
    exact Heap.lt_size e
  have f3 : ∀ b ∈ fp, FpOk X pins (L2.upd H2 D (ho0 D)) b ∧ b < s3.heap.objs.size := fun b hb => by
    have hlt := below b hb
    refine ⟨⟨?_, (f2 b hb).2⟩, by rw [h3, Heap.size_push]; exact Nat.lt_succ_of_lt hlt⟩
    rw [upd_ne (by rw [← hD]; exact Nat.ne_of_lt hlt)]
    exact (f2 b hb).1
  have st3 : tn 0 s3.heap := T.keep _ _ _ st2 fun b _ o e => by rw [h3]; exact Heap.get?_push_of_some _ e
  have I4 := block_start I3 ok hN f3
  have pg := hg s3 (L2.upd H2 D (ho0 D)) s3.heap.objs.size (cellsFrom (s3.heap.objs.size + 1) scope.names (cloFrom X.env.cells scope.names [])) fp
  have pt := ht s3 (L2.upd H2 D (ho0 D)) s3.heap.objs.size (cellsFrom (s3.heap.objs.size + 1) scope.names (cloFrom X.env.cells scope.names [])) fp
  have pf := hf s3 (L2.upd H2 D (ho0 D)) s3.heap.objs.size (cellsFrom (s3.heap.objs.size + 1) scope.names (cloFrom X.env.cells scope.names [])) fp
  show codeAny _ _ (.compStart node 0 (.ref it) (.ref D) (compEnvC scope (cellsFrom (s3.heap.objs.size + 1) scope.names (cloFrom X.env.cells scope.names [])) s3.heap.objs.size X.env)) (compPost (model X.prog X.w) X.A X.xe none Qf (.ref D) s3.heap.objs.size) { s3 with heap := pushCells (s3.heap.push { cls := .type "dict", data := .dict #[] }) scope.names }
  generalize hce : compEnvC scope (cellsFrom (s3.heap.objs.size + 1) scope.names (cloFrom X.env.cells scope.names [])) s3.heap.objs.size X.env = ce at I4 pg pt pf ⊢
  have cL : ce.locals = s3.heap.objs.size := by subst hce; rfl
  generalize hH3 : L2.upd H2 D (ho0 D) = H3 at I3 I4 pg pt pf w0 f3
  have nfp : ∀ b ∈ fp, H3 b = none := fun b hb => (f3 b hb).1.1
  generalize hs4 : ({ s3 with heap := pushCells (s3.heap.push { cls := .type "dict", data := .dict #[] }) scope.names } : Shared) = s4 at I4 ⊢
  have st4 : tn 0 s4.heap := T.keep _ _ _ st3 fun b _ o e => by rw [← hs4]; exact pushCells_keeps _ _ _ _ (Heap.get?_push_of_some _ e)
  have stat : ∀ {σ' : L2.St} {H' : Hp} {s' : Shared}, Inv (X.blk s3 H3 scope ce fp) [] σ' H' s' → (∀ b ∈ fp, H' b = none) → ∀ b ∈ fp, FpOk (X.blk s3 H3 scope ce fp) [] H' b := fun {σ' H' s'} I' hn b hb =>
    ⟨hn b hb, (I'.ok.exf b hb).1, I'.ok.exfs b hb, .inl hb, fun x c e => (I'.ok.exf b hb).2 x c e, fun p hp => absurd (show p ∈ ([] : List (Addr × Obj)) ++ [] from hp) (by simp)⟩
  have loop : codeAny (model X.prog X.w) X.A (.compLoop node 0 (.ref it) (.ref D) ce) (compPost (model X.prog X.w) X.A X.xe none Qf (.ref D) s3.heap.objs.size) s4 := by
    refine N.loop _ _ _ _ _ (fun n s' => ∃ i H', Inv (X.blk s3 H3 scope ce fp) [] (L2.wipe σ (own.map (·.2))) H' s' ∧ tn i s'.heap ∧ (∀ b ∈ fp, H' b = none) ∧ W i n H') ?_ m0 _ ⟨0, H3, I4, st4, nfp, w0⟩
    rintro n s5 ⟨i, H5, I5, st5, n5, w5⟩
    rcases turn i n H5 w5 with ⟨stop, qq⟩ | ⟨go, Nx, hNx, step⟩
    · have td := T.done (X.blk s3 H3 scope ce fp) rfl rfl rfl hc i [] s5 _ H5 (fun _ _ => False) I5 (stat I5 n5) st5 stop
      refine thnF td fun r s6 ⟨hr, I6⟩ => ?_
      subst hr
      have I7 : Inv X pins σ H5 s6 := I3.call' (ch := fp) I6.os I6.base I6.hok I6.bare fun b hb => ⟨(f3 b hb).1.2.2.2.1, (f3 b hb).1.2.1, (f3 b hb).1.2.2.2.2.1, (f3 b hb).1.2.2.2.2.2⟩
      have nC : H5 s3.heap.objs.size = none := by
        have z : H5 ce.locals = none := I6.free
        rw [cL] at z
        exact z
      obtain ⟨m, hn, _⟩ := I6.loc
      have hn : s6.heap.Ns ce.locals m := hn
      rw [cL] at hn
      exact hRR D s3.heap.objs.size s6 m H5 I7 qq hn (I3.fpOk (Nat.le_refl _) nC)
    · have ti := T.item (X.blk s3 H3 scope ce fp) rfl rfl rfl hc i [] s5 _ H5 (fun _ _ => False) I5 (stat I5 n5) st5 go
      refine thnF ti fun r s6 ⟨u, hr, h6⟩ => ?_
      subst hr
      refine thnF h6 fun _ s7 ⟨x, H7, I7, r7, y7, st7, n7⟩ => ?_
      have I7' := I7.pinned (stat I7 n7) (T.obj _ _ st7)
      refine thnF (pg.run _ s7 _ H7 x u _ I7' r7 (step x H7 y7)) fun _ s8 ⟨σ8, H8, I8, hw8, q8⟩ => ?_
      refine thnF (pt.run _ s8 σ8 H8 _ I8 q8) fun b s9 ⟨H9, I9, q9⟩ => ?_
      have fin : ∀ {s' : Shared} {H' : Hp}, Inv (X.blk s3 H3 scope ce fp) ([] ++ pinsAt fp s7.heap) σ8 H' s' → Nx H' → ∃ m, m < n ∧ ∃ i H', Inv (X.blk s3 H3 scope ce fp) [] (L2.wipe σ (own.map (·.2))) H' s' ∧ tn i s'.heap ∧ (∀ b ∈ fp, H' b = none) ∧ W i m H' := fun {s' H'} I' nx => by
        obtain ⟨m', hm, w'⟩ := hNx H' nx
        have pin' : ∀ b ∈ fp, ∀ o, s7.heap.get? b = some o → s'.heap.get? b = some o ∧ H' b = none := fun b hb o e =>
          let z := I'.pin (b, o) (List.mem_append_right _ (List.mem_append_right _ (mem_pinsAt hb e)))
          ⟨z.1, z.2.1⟩
        have hl : (L2.wipe σ (own.map (·.2))).length = σ8.length := by rw [← hw8, wipe_length]
        refine ⟨m', hm, i + 1, H', (I'.unpinned (pins := [])).weak hl (fun j v e => ?_), T.keep _ _ _ st7 fun b hb o e => (pin' b hb o e).1, fun b hb => ?_, w'⟩
        · rw [← hw8] at e
          exact (wipe_some e).1
        · obtain ⟨o, e, _⟩ := T.obj _ _ st7 b hb
          exact (pin' b hb o e).2
      cases b with
      | false =>
        simp only [Bool.false_eq_true, if_false] at q9 ⊢
        exact fin I9 q9
      | true =>
        simp only [if_true] at q9 ⊢
        exact hfm _ _ _ _ _ _ _ (fun s12 ⟨H12, I12, q12⟩ => fin I12 q12) (pf _ σ8 H9 s9 D Nx _ I9 q9)
  exact N.start _ _ _ _ _ _ loop (T.self X.A 0 _ _ _ st4 loop)
/-- as a value -/
theorem acc_pe {node tg iter : Expr} {ifs : List Expr} {scope : Scope} {own : List (PySem.Str × Nat)} {pos' : Pos} {wi : TI} {g : TG} {tt : TT} {tf : TF} {mk : Sem Value} {o0 : Obj} {fill : Fill} {ho0 : Addr → HO}
    (he : eval node X.env = comprehension node scope X.env pos' mk false (eval iter X.env))
    (N : AccNode X.prog X.w node tg iter ifs mk o0 fill) (hfm : ∀ A env D (Q Q' : Shared → Prop) E s, (∀ s, Q s → Q' s) → fill A env D Q E s → fill A env D Q' E s)
    (hlaid : ∀ (P : Program) (H : Hp) (h : Heap), sysModules < h.objs.size → ObjOk X.prog X.w H (h.push o0) h.objs.size (ho0 h.objs.size))
    (hc : X.calm = true) (hN : X.N.Nodup) (hi : PI X tg iter wi) (ok : BlkOk X.N X.env.scope scope own)
    (hg : ∀ (s : Shared) (H : Hp) (C : Addr) (cl : List (PySem.Str × Addr)) (fp : List Addr), PG (X.blk s H scope (compEnvC scope cl C X.env) fp) tg g)
    (ht : ∀ (s : Shared) (H : Hp) (C : Addr) (cl : List (PySem.Str × Addr)) (fp : List Addr), PTs (X.blk s H scope (compEnvC scope cl C X.env) fp) ifs tt)
    (hf : ∀ (s : Shared) (H : Hp) (C : Addr) (cl : List (PySem.Str × Addr)) (fp : List Addr), Fills (X.blk s H scope (compEnvC scope cl C X.env) fp) fill tf)
    (hs : ∀ x, foldedSetIterable iter X.env x = pure x) : PE X node (tAcc ho0 wi g tt tf (own.map (·.2))) := by
  refine ⟨fun pins s σ H Q I h => ?_⟩
  rw [he]
  refine acc_core N hfm hlaid hc hN I hi ok hg ht hf hs h fun D C s' m H' I' q hn f => ⟨m, hn, fun h'' sb => ?_⟩
  obtain ⟨f0, f1, f2, f3, f4, f5⟩ := f
  exact ⟨.ref D, H', I'.turned (t' := s'.toks) (fun b o hb e => (sb.2 b hb).trans e) f0 f1 f3 f4 f5, rfl, q⟩
end
end Ev

set_option Elab.async false
set_option linter.all false
set_option maxRecDepth 100000
set_option maxHeartbeats 4000000
/-! EvM: the evaluator's side of comprehensions that fill one object. -/
namespace Ev
open PySem PySem.Spec PyProof.Rows L2 PpSet
/-- how what was gathered stands in the heap -/
structure AccOk (u : U) {A : Type} (ho0 : Addr → HO) (a0 : A) (RA : A → (Nat → Addr) → Nat → Hp → Addr → Prop) (fin : A → O) (step : S → A → W → RAc A) (tf : TF) : Prop where
  start : ∀ rho n H D, (D == sysModules) = false → RA a0 rho n (L2.upd H D (ho0 D)) D
  mono : ∀ {a rho n H D rho' n' H'}, RA a rho n H D → n ≤ n' → (∀ i, i < n → rho' i = rho i) → Tups H H' → H' D = H D → RA a rho' n' H' D
  at_ : ∀ {a rho n H D}, RA a rho n H D → H D ≠ none
  nt : ∀ {a rho n H D}, RA a rho n H D → ∀ ps, H D ≠ some (.tbl ps)
  fin : ∀ {a rho n H D}, RA a rho n H D → RO u rho n H D (fin a)
  step : ∀ {rho1 w1 H1 s σ rho w H a D} {Nx : Hp → Prop}, Ext u rho1 w1 H1 rho w H → RW u rho1 w1 H1 → RW u rho w H → SS u rho w.n H s σ → RA a rho w.n H D → H1 D = none → (∀ i, i < w.n → rho i ≠ D) →
    (match step s a w with
      | .ok a' w' => ∀ rho' H', Ext u rho1 w1 H1 rho' w' H' → RW u rho' w' H' → RA a' rho' w'.n H' D → (∀ i, i < w'.n → rho' i ≠ D) → Nx H'
      | .bad => False) → tf σ H D Nx
section
variable {X : Cx} {u : U} {E : XK} {rho : Nat → Addr} {w : W} {H : Hp} {s : S} {σ : L2.St} {e : Expr} {mi : MI} {g : GP} {t : TG} {vs : List Nat} {mt : M}
theorem se_acc {A : Type} {ho0 : Addr → HO} {a0 : A} {RA : A → (Nat → Addr) → Nat → Hp → Addr → Prop} {fin : A → O} {step : S → A → W → RAc A} {tf : TF} (O : AccOk u ho0 a0 RA fin step tf) (hK : u.K = X.K) (hg : GOk X.K vs t g)
    (h : PE X e (tAcc ho0 (tMI u E mi) t (tMT u E0 mt) tf vs)) : PE X e (tM u E (mAcc mi g mt step a0 fin vs)) := by
  refine h.imp fun σ H Q ⟨rho, s, w, r, Z, q⟩ => ?_
  refine ⟨rho, s, w, r, Z, ?_⟩
  unfold mAcc at q
  revert q
  cases mi s w with
  | bad => exact id
  | ex c p w1 => exact id
  | ok it w1 =>
    intro q rho1 H1 J e1 r1 hit hdn D hD hDs
    obtain ⟨rD, eD⟩ := r1.tup (o := ho0 D) hD
    have Z1 : SS u rho1 w1.n H1 (wipeD s vs) (L2.wipe σ vs) := (Z.wipe vs).mono e1.n (fun i hi => e1.rh i hi) e1.tups
    have ne1 : ∀ i, i < w1.n → rho1 i ≠ D := fun i hi z => r1.all i hi (by rw [z]; exact hD)
    dsimp only at q
    refine ⟨fun i m H' => ∃ rho2 w2 acc, Ext u rho1 w1 H1 rho2 w2 H' ∧ RW u rho2 w2 H' ∧ RA acc rho2 w2.n H' D ∧ (∀ i, i < w2.n → rho2 i ≠ D) ∧
      (match acFrom it g mt step (wipeD s vs) m i acc w2 with | .ok acc w3 => Post u E rho w H Q (alloc (fin acc) w3) | .bad => False),
      ⟨100000, rho1, w1, a0, eD, rD, O.start _ _ _ _ hDs, ne1, ?_⟩, ?_⟩
    · revert q
      cases acFrom it g mt step (wipeD s vs) 100000 0 a0 w1 with
      | ok acc w3 => exact id
      | bad => exact id
    · rintro i m H2 ⟨rho2, w2, acc, e12, r2, rA, ne2, q2⟩
      have Z2 : SS u rho2 w2.n H2 (wipeD s vs) (L2.wipe σ vs) := Z1.mono e12.n e12.rh e12.tups
      cases m with
      | zero => exact q2.elim
      | succ k =>
        have hi := hit rho2 w2 H2 i e12.to0 r2
        unfold acFrom at q2
        revert hi q2
        cases it.at w2 i with
        | bad => exact fun _ q2 => q2.elim
        | stop =>
          intro hi q2
          refine .inl ⟨hi, ?_⟩
          have eb0 : Ext u rho w H rho2 w2 H2 := e1.trans r e12
          obtain ⟨r2', eb, en⟩ := hdn rho2 w2 H2 eb0 e12 r2
          dsimp only at q2
          have ne2' : ∀ i, i < (it.done w2).n → rho2 i ≠ D := by rw [en]; exact ne2
          have rA' : RA acc rho2 (it.done w2).n H2 D := by rw [en]; exact rA
          generalize it.done w2 = w2' at q2 r2' eb ne2' rA'
          unfold alloc at q2
          cases hb : Nat.blt w2'.n 1000000000 with
          | false => rw [hb] at q2; exact q2.elim
          | true =>
            rw [hb] at q2
            have hH : ∀ a, H a ≠ none → (∀ ps, H a ≠ some (.tbl ps)) → (∀ i, i < w.n → rho i ≠ a) → a ≠ D := fun a ha h0 hn z => by
              subst z
              exact ha ((e1.oth _ ha h0 hn).1.symm.trans hD)
            obtain ⟨r3, e3⟩ := adopt_ok (o := fin acc) eb r2' hH (O.at_ rA') ne2' hb (O.fin (O.mono rA' (Nat.le_succ _) (fun i hi => rhoN_lt hi) (.refl _) rfl))
            exact q2 _ H2 _ e3 r3 (.ref _ (Nat.lt_succ_self _) rhoN_at.symm)
        | it d =>
          intro ⟨hgo, hy⟩ q2
          dsimp only at q2
          cases hgd : g d (wipeD s vs) with
          | none => rw [hgd] at q2; exact q2.elim
          | some s3 =>
            rw [hgd] at q2
            dsimp only at q2
            refine .inr ⟨hgo, fun H' => ∃ rho2 w2 acc, Ext u rho1 w1 H1 rho2 w2 H' ∧ RW u rho2 w2 H' ∧ RA acc rho2 w2.n H' D ∧ (∀ i, i < w2.n → rho2 i ≠ D) ∧
              (match acFrom it g mt step (wipeD s vs) k (i + 1) acc w2 with | .ok acc w3 => Post u E rho w H Q (alloc (fin acc) w3) | .bad => False), fun H' h' => ⟨k, Nat.lt_succ_self _, h'⟩, fun x H3 yl => ?_⟩
            obtain ⟨r3, e3, rv⟩ := hy x H3 yl
            have Z3 := Z2.mono e3.n e3.rh e3.tups
            refine hg u rho2 w2.n H3 d x (wipeD s vs) (L2.wipe σ vs) _ hK rv Z3 ?_
            rw [hgd]
            intro σ4 Z4 hw4
            have nD : H2 D ≠ none := O.at_ rA
            refine ⟨hw4.trans (wipe_wipe σ vs), ?_⟩
            refine tMT_then r3 Z4 ?_
            revert q2
            cases mt s3 w2 with
            | bad => exact id
            | ex c p w5 => exact fun q2 => q2.elim
            | ok dt w5 =>
              intro q2
              cases dt <;> try exact q2.elim
              rename_i b
              intro rho5 H5 e5 r5 Z5
              have e35 := e3.trans r2 e5
              obtain ⟨eD5, nD5⟩ := e35.oth D nD (O.nt rA) ne2
              have rA5 := O.mono rA e35.n e35.rh e35.tups eD5
              cases b with
              | false => exact ⟨rho5, w5, acc, e12.trans r1 e35, r5, rA5, nD5, q2⟩
              | true =>
                dsimp only at q2
                refine O.step (e12.trans r1 e35) r1 r5 Z5 rA5 hD nD5 ?_
                revert q2
                cases step s3 acc w5 with
                | bad => exact id
                | ok a2 w7 => exact fun q2 rho7 H7 e7 r7 rA7 n7 => ⟨rho7, w7, a2, e7, r7, rA7, n7, q2⟩
end
/-! ### the nodes -/
section
variable {P : Program} {w : World}
def fillD (P : Program) (w : World) (kx vx : Expr) : Fill := fun A env D Q E s => wpAny (model P w) A (eval kx env) (fun kv s4 => wpAny (model P w) A (eval vx env) (fun vv s5 => wpAny (model P w) A (dictSet D kv vv) (fun _ s6 => Q s6) E s5) E s4) E s
def fillS (P : Program) (w : World) (ex : Expr) : Fill := fun A env D Q E s => wpAny (model P w) A (eval ex env) (fun x s4 => wpAny (model P w) A (call (.builtin "set.add") [.ref D, x]) (fun _ s5 => Q s5) E s4) E s
theorem node_D {kx vx tg iter : Expr} {ifs : List Expr} {scope : Scope} {pos : Pos} : AccNode P w (.DictComp kx vx [⟨tg, iter, ifs, 0⟩] scope pos) tg iter ifs newDict obj0 (fillD P w kx vx) where
  cl := rfl
  make := fun A E Q s h => wpAny_newObj_type h
  loop := fun A env it D R I turn n s h => compLoop_anyD I turn n h
  start := fun A env it D R s h1 h2 => codeAny_compStart_dict h1 h2
def objS (w : World) : Obj := { cls := .type "set", dict := none, data := .set #[] 0 (.fresh 0 0 (!w.params.followText "set-order")) }
theorem node_S {ex tg iter : Expr} {ifs : List Expr} {scope : Scope} {pos : Pos} : AccNode P w (.SetComp ex [⟨tg, iter, ifs, 0⟩] scope pos) tg iter ifs (newSet (.type "set")) (objS w) (fillS P w ex) where
  cl := rfl
  make := fun A E Q s h => newSet_ok h
  loop := fun A env it D R I turn n s h => compLoopS_any I turn n h
  start := fun A env it D R s h1 h2 => codeAny_compStart_set h1 h2
theorem fillD_mono {kx vx : Expr} : ∀ A env D (Q Q' : Shared → Prop) E s, (∀ s, Q s → Q' s) → fillD P w kx vx A env D Q E s → fillD P w kx vx A env D Q' E s := fun A env D Q Q' E s hq h =>
  wpAny_mono h (fun _ _ h => wpAny_mono h (fun _ _ h => wpAny_mono h (fun _ _ h => hq _ h) fun _ _ z => z) fun _ _ z => z) fun _ _ z => z
theorem fillS_mono {ex : Expr} : ∀ A env D (Q Q' : Shared → Prop) E s, (∀ s, Q s → Q' s) → fillS P w ex A env D Q E s → fillS P w ex A env D Q' E s := fun A env D Q Q' E s hq h =>
  wpAny_mono h (fun _ _ h => wpAny_mono h (fun _ _ h => hq _ h) fun _ _ z => z) fun _ _ z => z
end
section
variable {X : Cx} {u : U}
/-! ### a dict whose keys are tuples -/
def tFD (u : U) (tk tv : TE) : TF := fun σ H B Nx => tk σ H fun x H1 => tv σ H1 fun y H2 => ∃ (a : Addr) (nk : NestedKey) (d : D) (rho : Nat → Addr) (n : Nat) (l : List (D × D)) (ob : Obj) (es : Array DictEntry) (ep : Nat) (ys : List (NestedKey × Addr × Value)), x = .ref a ∧ RD u rho n H2 B l ob es ep ys ∧ keyOf 8 d = some nk ∧ RV u rho n H2 d (.ref a) ∧
  ∀ ob' es' ep' val, RelV y val → ob'.ExactDict → ob'.data = .dict es' ep' → es'.toList = (storedH ys nk a val).map (entryOfKey (nestedKind u.P u.w)) → ((storedH ys nk a val).map (·.1)).Nodup → Nx (L2.upd H2 B (rawO B ob'))
theorem fills_D {kx vx : Expr} {tk tv : TE} (hK : X.K = u.K) (hP : X.prog = u.P) (hW : X.w = u.w) (hu : X.A.units + 64 < cLine) (hxe : X.xe = fun _ _ => False) (hk : PE X kx tk) (hv : PE X vx tv) : Fills X (fillD X.prog X.w kx vx) (tFD u tk tv) := by
  intro pins σ H s D Nx E I q
  have h1 := hk.run pins s σ H _ I q
  rw [hxe] at h1
  refine thnF h1 fun ux s1 ⟨x, H1, I1, rx, q1⟩ => ?_
  have h2 := hv.run pins s1 σ H1 _ I1 q1
  rw [hxe] at h2
  refine thnF h2 fun uy s2 ⟨y, H2, I2, ry, a, nk, d, rho, n, l, ob, es, ep, ys, ex, rd, hkey, rvk, q2⟩ => ?_
  subst ex
  cases rx
  have hm := RD.ofH I2 hK rd
  have z : wpAny (model u.P u.w) X.A (dictSet D (.ref a) uy) (fun _ s' => ∃ H', Inv X pins σ H' s' ∧ Nx H') E s2 := by
    refine wpAny_dictSet_heap (knd := nestedKind u.P u.w) (room8' hu) (keyed_of I2 hK hkey rvk) hm (fun h' hm' hs => ?_) (hsz := by
      have := rd.rel.length
      have := rd.len
      rw [sizeLine_eq]; omega)
    obtain ⟨ob', es', ep', ho', hex, hdt, hes, _, hnd⟩ := hm'
    exact ⟨_, Inv_dict I2 rd.at_ hs ho', q2 ob' es' ep' uy ry hex hdt hes hnd⟩
  rw [← hP, ← hW] at z
  exact z
def RAd (u : U) (l : List (D × D)) (rho : Nat → Addr) (n : Nat) (H : Hp) (D : Addr) : Prop := ∃ ob es ep xs, RD u rho n H D l ob es ep xs
def stD (mk mv : M) : S → List (D × D) → W → RAc (List (D × D)) := fun s l w => match mk s w with
  | .ok dk w1 => (match mv s w1 with
    | .ok dv w2 => bif (bif okKey dk then Nat.ble l.length 999999 else false) then .ok (dPut dk dv l) w2 else .bad
    | _ => .bad)
  | _ => .bad
theorem accD {mk mv : M} {E1 E2 : XK} : AccOk u (fun p => rawO p obj0) [] (RAd u) (.dct false) (stD mk mv) (tFD u (tM u E1 mk) (tM u E2 mv)) where
  start := fun rho n H D hs => ⟨_, _, _, _, RD.new upd_same hs⟩
  mono := fun ⟨ob, es, ep, xs, r⟩ hn hr ht ha => ⟨ob, es, ep, xs, ha.trans r.at_, r.ex, r.data, r.ents, r.nd, r.rel.mono hn hr ht, r.sm, r.len⟩
  at_ := fun ⟨ob, es, ep, xs, r⟩ => by rw [r.at_]; simp
  nt := fun ⟨ob, es, ep, xs, r⟩ ps z => by rw [r.at_] at z; unfold rawO at z; cases z
  fin := fun h => h
  step := by
    intro rho1 w1 H1 s σ rho w H l D Nx e1 r1 r Z ra hD nD q
    unfold stD at q
    refine tM_then r Z ?_
    revert q
    cases mk s w with
    | bad => exact id
    | ex c p w2 => exact fun q => q.elim
    | ok dk w2 =>
      intro q rho2 H2 x e2 r2 Z2 rx
      dsimp only at q
      refine tM_then r2 Z2 ?_
      revert q
      cases mv s w2 with
      | bad => exact id
      | ex c p w3 => exact fun q => q.elim
      | ok dv w3 =>
        intro q rho3 H3 y e3 r3 Z3 ry
        dsimp only at q
        cases hb : (bif okKey dk then Nat.ble l.length 999999 else false) with
        | false => rw [hb] at q; exact q.elim
        | true =>
          rw [hb] at q
          dsimp only [cond_true] at q
          obtain ⟨hb1, hb2⟩ := bif_and hb
          have rx3 := e3.rv rx
          obtain ⟨nk, a, hk, rfl⟩ := okKey_ok hb1 rx3
          obtain ⟨ob, es, ep, ys, rd0⟩ := ra
          have hDn : H D ≠ none := by rw [rd0.at_]; simp
          have e23 := e2.trans r e3
          obtain ⟨g1, g2⟩ := e23.oth D hDn (fun ps z => by rw [rd0.at_] at z; unfold rawO at z; cases z) nD
          have rd : RD u rho3 w3.n H3 D l ob es ep ys := ⟨g1.trans rd0.at_, rd0.ex, rd0.data, rd0.ents, rd0.nd, rd0.rel.mono e23.n e23.rh e23.tups, rd0.sm, rd0.len⟩
          refine ⟨a, nk, dk, rho3, w3.n, l, ob, es, ep, ys, rfl, rd, hk, rx3, fun ob' es' ep' val rl hex hdt hes hnd => ?_⟩
          obtain ⟨r4, e4, tp⟩ := side_wr (ho' := rawO D ob') (e1.trans r1 e23) r3 rd.at_ (wr_raw rd.data) g2 hD
          refine q rho3 _ e4 r4 ⟨ob', es', ep', storedH ys nk a val, upd_same, hex, hdt, hes, hnd, (dPut_ok hk rx3 rl ry rd.rel rd.nd).mono (Nat.le_refl _) (fun _ _ => rfl) tp, rd.sm, ?_⟩ g2
          have := dPut_len (k := dk) (v := dv) l
          have := Nat.le_of_ble_eq_true hb2
          omega
/-! ### a dict whose keys are texts -/
def tFS (tk tv : TE) : TF := fun σ H D Nx => tk σ H fun x H1 => tv σ H1 fun y H2 => ∃ (k : Key) (kvs : List (Key × V)), x = kV k ∧ H2 D = some (.dK kvs) ∧ kvs.length < sizeLine ∧ Nx (L2.upd H2 D (.dK (putK kvs k y)))
theorem fills_S {kx vx : Expr} {tk tv : TE} (hxe : X.xe = fun _ _ => False) (hk : PE X kx tk) (hv : PE X vx tv) : Fills X (fillD X.prog X.w kx vx) (tFS tk tv) := by
  intro pins σ H s D Nx E I q
  have h1 := hk.run pins s σ H _ I q
  rw [hxe] at h1
  refine thnF h1 fun ux s1 ⟨x, H1, I1, rx, q1⟩ => ?_
  have h2 := hv.run pins s1 σ H1 _ I1 q1
  rw [hxe] at h2
  refine thnF h2 fun uy s2 ⟨y, H2, I2, ry, k, kvs, ex, hD, hz, q2⟩ => ?_
  subst ex
  exact d_dictSet I2 hD hz rx ry fun s' I' => ⟨_, I', q2⟩
def lookS (k : List Nat) : List (List Nat × D) → Option D
  | [] => none
  | p :: r => bif lnEq p.1 k then some p.2 else lookS k r
def stS (mk mv : M) : S → List (List Nat × D) → W → RAc (List (List Nat × D)) := fun s l w => match mk s w with
  | .ok (.str k) w1 => (match mv s w1 with
    | .ok dv w2 => (match lookS k l with
      | none => bif Nat.ble l.length 900 then .ok (l ++ [(k, dv)]) w2 else .bad
      | some _ => .bad)
    | _ => .bad)
  | _ => .bad
theorem RKs.length {rho : Nat → Addr} {n : Nat} {H : Hp} {l : List (List Nat × D)} {kvs : List (Key × V)} (h : RKs u rho n H l kvs) : l.length = kvs.length := by
  induction h with
  | nil => rfl
  | cons _ _ _ ih => rw [List.length_cons, List.length_cons, ih]
theorem RKs.look {rho : Nat → Addr} {n : Nat} {H : Hp} {l : List (List Nat × D)} {kvs : List (Key × V)} (h : RKs u rho n H l kvs) {x : Str} {k : List Nat} (hx : x.cps.toList = k) :
    match lookS k l with
    | none => valV kvs (.inr x) = none
    | some d => ∃ v, valV kvs (.inr x) = some v ∧ RV u rho n H d v := by
  induction h with
  | nil => rfl
  | @cons s d l y v kvs a b _ ih =>
    unfold lookS
    rw [lnEq_iff]
    by_cases e : s = k
    · rw [decide_eq_true e]
      have : y = x := (decide_eq_true_eq.mp ((str_eq a hx).trans (decide_eq_true e)))
      subst this
      exact ⟨v, valV_pos rfl, b⟩
    · rw [decide_eq_false e]
      have : y ≠ x := fun z => by
        have := (str_eq a hx)
        rw [decide_eq_true z, decide_eq_false e] at this
        cases this
      show match lookS k l with | none => _ | some d => _
      rw [valV_neg (fun z => this (by injection z))]
      exact ih
theorem RKs.snoc {rho : Nat → Addr} {n : Nat} {H : Hp} {x : Str} {k : List Nat} (hx : x.cps.toList = k) {d : D} {v : V} (rv : RV u rho n H d v) {l : List (List Nat × D)} {kvs : List (Key × V)} (h : RKs u rho n H l kvs) : RKs u rho n H (l ++ [(k, d)]) (kvs ++ [(.inr x, v)]) := by
  induction h with
  | nil => exact .cons hx rv .nil
  | cons a b _ ih => exact .cons a b ih
def RAs (u : U) (l : List (List Nat × D)) (rho : Nat → Addr) (n : Nat) (H : Hp) (D : Addr) : Prop := ∃ kvs, H D = some (.dK kvs) ∧ RKs u rho n H l kvs ∧ l.length ≤ 1000
theorem accS {mk mv : M} {E1 E2 : XK} : AccOk u (fun _ => .dK []) [] (RAs u) .sd (stS mk mv) (tFS (tM u E1 mk) (tM u E2 mv)) where
  start := fun rho n H D hs => ⟨[], upd_same, .nil, Nat.zero_le _⟩
  mono := fun ⟨kvs, e, r, z⟩ hn hr ht ha => ⟨kvs, ha.trans e, r.mono hn hr ht, z⟩
  at_ := fun ⟨kvs, e, r, z⟩ => by rw [e]; simp
  nt := fun ⟨kvs, e, r, z⟩ ps z' => by rw [e] at z'; cases z'
  fin := fun h => h
  step := by
    intro rho1 w1 H1 s σ rho w H l D Nx e1 r1 r Z ra hD nD q
    unfold stS at q
    refine tM_then r Z ?_
    revert q
    cases mk s w with
    | bad => exact id
    | ex c p w2 => exact fun q => q.elim
    | ok dk w2 =>
      intro q rho2 H2 x e2 r2 Z2 rx
      cases dk <;> try exact q.elim
      rename_i ks
      dsimp only at q
      refine tM_then r2 Z2 ?_
      revert q
      cases mv s w2 with
      | bad => exact id
      | ex c p w3 => exact fun q => q.elim
      | ok dv w3 =>
        intro q rho3 H3 y e3 r3 Z3 ry
        dsimp only at q
        cases rx with
        | str x hx =>
        obtain ⟨kvs, hat, rel, hz⟩ := ra
        have hDn : H D ≠ none := by rw [hat]; simp
        have e23 := e2.trans r e3
        obtain ⟨g1, g2⟩ := e23.oth D hDn (fun ps z => by rw [hat] at z; cases z) nD
        have rel3 := rel.mono e23.n e23.rh e23.tups
        have hl := rel3.look hx
        revert q hl
        cases lookS ks l with
        | some d => exact fun q => q.elim
        | none =>
          intro q hl
          dsimp only at q
          cases hb : Nat.ble l.length 900 with
          | false => rw [hb] at q; exact q.elim
          | true =>
            rw [hb] at q
            dsimp only [cond_true] at q
            have hb' := Nat.le_of_ble_eq_true hb
            have hlen := rel3.length
            refine ⟨.inr x, kvs, rfl, g1.trans hat, by rw [sizeLine_eq]; omega, ?_⟩
            rw [putK_new y hl]
            obtain ⟨r4, e4, tp⟩ := side_wr (ho' := .dK (kvs ++ [(.inr x, y)])) (e1.trans r1 e23) r3 (g1.trans hat) (wr_dK _) g2 hD
            exact q rho3 _ e4 r4 ⟨_, upd_same, (rel3.snoc hx ry).mono (Nat.le_refl _) (fun _ _ => rfl) tp, by rw [List.length_append, List.length_singleton]; omega⟩ g2
/-! ### a set of ints -/
def tFI (w : World) (te : TE) : TF := fun σ H D Nx => te σ H fun x H1 => ∃ (k : Int) (S : Int → Bool) (n : Nat), x = .int k ∧ H1 D = some (SetO w D S n) ∧ n + 1 < scanBound ∧ Nx (L2.upd H1 D (SetO w D (fun j => S j || decide (j = k)) (if S k = true then n else n + 1)))
theorem fills_I {ex : Expr} {te : TE} (hxe : X.xe = fun _ _ => False) (he : PE X ex te) : Fills X (fillS X.prog X.w ex) (tFI X.w te) := by
  intro pins σ H s D Nx E I q
  have h1 := he.run pins s σ H _ I q
  rw [hxe] at h1
  refine thnF h1 fun ux s1 ⟨x, H1, I1, rx, k, S, n, ex, hD, hz, q1⟩ => ?_
  subst ex
  obtain ⟨tk, rfl⟩ := rx
  have R := setO_get I1 hD
  refine setR_add R hz fun h' sb new => ?_
  have he : ∃ u, h'.get? D = some u := by
    have ⟨o, _, _, _, ho, _⟩ := new
    exact ⟨o, ho⟩
  exact ⟨_, I1.write (e := D) (t' := s1.toks + 1) (by rw [hD]; trivial) (.inl rfl) (fun b u hb hu => (sb.2 b hb).trans hu) he (setO_new new), q1⟩
/-- a number into its place; none if it is there -/
def insI (k : Int) : List Int → List Int
  | [] => [k]
  | x :: r => bif PySem.W.Z.ltB k x then k :: x :: r else bif PySem.W.Z.eqB k x then x :: r else x :: insI k r
theorem insI_eq (k x : Int) (r : List Int) : insI k (x :: r) = if k < x then k :: x :: r else if k = x then x :: r else x :: insI k r := by
  show (bif PySem.W.Z.ltB k x then _ else bif PySem.W.Z.eqB k x then _ else _) = _
  rw [ltB_dec, eqB_dec]
  by_cases h1 : k < x
  · rw [decide_eq_true h1, if_pos h1]; rfl
  · rw [decide_eq_false h1, if_neg h1]
    by_cases h2 : k = x
    · rw [decide_eq_true h2, if_pos h2]; rfl
    · rw [decide_eq_false h2, if_neg h2]; rfl
theorem mem_insI {k j : Int} : ∀ {l : List Int}, j ∈ insI k l ↔ j = k ∨ j ∈ l
  | [] => by simp [insI]
  | x :: r => by
    rw [insI_eq]
    split
    · simp
    · split
      · rename_i h; subst h; simp
      · rw [List.mem_cons, mem_insI (l := r), List.mem_cons]
        constructor
        · rintro (h | h | h)
          · exact .inr (.inl h)
          · exact .inl h
          · exact .inr (.inr h)
        · rintro (h | h | h)
          · exact .inr (.inl h)
          · exact .inl h
          · exact .inr (.inr h)
theorem insI_sorted (k : Int) : ∀ {l : List Int}, l.Pairwise (· < ·) → (insI k l).Pairwise (· < ·)
  | [], _ => by simp [insI]
  | x :: r, p => by
    obtain ⟨p1, p2⟩ := List.pairwise_cons.mp p
    rw [insI_eq]
    split
    · rename_i h
      refine List.pairwise_cons.mpr ⟨fun z hz => ?_, p⟩
      rcases List.mem_cons.mp hz with rfl | hz
      · exact h
      · have := p1 z hz; omega
    · split
      · exact p
      · rename_i h1 h2
        refine List.pairwise_cons.mpr ⟨fun z hz => ?_, insI_sorted k p2⟩
        rcases mem_insI.mp hz with rfl | hz
        · omega
        · exact p1 z hz
theorem insI_length (k : Int) : ∀ {l : List Int}, l.Pairwise (· < ·) → (insI k l).length = if k ∈ l then l.length else l.length + 1
  | [], _ => by simp [insI]
  | x :: r, p => by
    obtain ⟨p1, p2⟩ := List.pairwise_cons.mp p
    rw [insI_eq]
    split
    · rename_i h
      have : ¬ k ∈ x :: r := fun z => by
        rcases List.mem_cons.mp z with z | z
        · omega
        · have := p1 k z; omega
      rw [if_neg this]; rfl
    · split
      · rename_i h1 h2
        rw [if_pos (by rw [h2]; exact List.mem_cons_self)]
      · rename_i h1 h2
        have : (k ∈ x :: r) ↔ k ∈ r := by
          rw [List.mem_cons]
          exact ⟨fun z => z.resolve_left h2, .inr⟩
        rw [List.length_cons, insI_length k p2]
        by_cases h3 : k ∈ r
        · rw [if_pos h3, if_pos (this.mpr h3)]; rfl
        · rw [if_neg h3, if_neg (fun z => h3 (this.mp z))]; rfl
def stI (me : M) : S → List Int → W → RAc (List Int) := fun s l w => match me s w with
  | .ok (.int k) w1 => bif Nat.ble l.length 1000 then .ok (insI k l) w1 else .bad
  | _ => .bad
def RAi (u : U) (l : List Int) (_ : Nat → Addr) (_ : Nat) (H : Hp) (D : Addr) : Prop := H D = some (SetO u.w D (fun k => decide (k ∈ l)) l.length) ∧ l.Pairwise (· < ·)
theorem accI {me : M} {E1 : XK} : AccOk u (fun p => SetO u.w p (fun _ => false) 0) [] (RAi u) .iset (stI me) (tFI u.w (tM u E1 me)) where
  start := fun rho n H D hs => ⟨by rw [upd_same]; simp, .nil⟩
  mono := fun ⟨e, p⟩ hn hr ht ha => ⟨ha.trans e, p⟩
  at_ := fun ⟨e, p⟩ => by rw [e]; simp
  nt := fun ⟨e, p⟩ ps z => by rw [e] at z; unfold SetO at z; cases z
  fin := fun h => h
  step := by
    intro rho1 w1 H1 s σ rho w H l D Nx e1 r1 r Z ra hD nD q
    unfold stI at q
    refine tM_then r Z ?_
    revert q
    cases me s w with
    | bad => exact id
    | ex c p w2 => exact fun q => q.elim
    | ok dk w2 =>
      intro q rho2 H2 x e2 r2 Z2 rx
      cases dk <;> try exact q.elim
      rename_i k
      dsimp only at q
      cases rx
      obtain ⟨hat, hp⟩ := ra
      have hDn : H D ≠ none := by rw [hat]; simp
      obtain ⟨g1, g2⟩ := e2.oth D hDn (fun ps z => by rw [hat] at z; unfold SetO at z; cases z) nD
      cases hb : Nat.ble l.length 1000 with
      | false => rw [hb] at q; exact q.elim
      | true =>
        rw [hb] at q
        dsimp only [cond_true] at q
        have hb' := Nat.le_of_ble_eq_true hb
        refine ⟨k, fun j => decide (j ∈ l), l.length, rfl, g1.trans hat, by show l.length + 1 < 4096; omega, ?_⟩
        have wr : Wr (SetO u.w D (fun k => decide (k ∈ l)) l.length) := wr_ext (a := D) fun h ⟨o, es, ep, t, ho, hex, hd, _⟩ => ⟨o, ho, fun vs z => by rw [hd] at z; cases z⟩
        obtain ⟨r4, e4, tp⟩ := side_wr (ho' := SetO u.w D (fun j => (decide (j ∈ l) || decide (j = k))) (if decide (k ∈ l) = true then l.length else l.length + 1)) (e1.trans r1 e2) r2 (g1.trans hat) wr g2 hD
        refine q rho2 _ e4 r4 ⟨?_, insI_sorted k hp⟩ g2
        rw [upd_same]
        have h1 : (fun j => (decide (j ∈ l) || decide (j = k))) = fun j => decide (j ∈ insI k l) := by
          funext j
          by_cases ha : j = k <;> by_cases hb : j ∈ l <;> simp [mem_insI, ha, hb]
        have h2 : (if decide (k ∈ l) = true then l.length else l.length + 1) = (insI k l).length := by
          rw [insI_length k hp]
          by_cases h : k ∈ l <;> simp [h]
        rw [h1, h2]
end
end Ev

set_option Elab.async false
set_option linter.all false
set_option maxRecDepth 100000
set_option maxHeartbeats 4000000
/-! EvN: enumerate over a tuple; more operations. -/
namespace PySem
open Sem (wp)
theorem meets_enumerate_new1 {v : Value} {o : Obj} {H : Heap → Prop} (B : Begins v o H) :
    Meets (Builtin.«enumerate.__new__» ⟨[.type "enumerate", v], []⟩) (fun _ R s => H s.heap ∧
      R (.ok (.ret (.ref (s.heap.push o).objs.size))) { s with heap := (s.heap.push o).push { cls := .type "enumerate", data := .fields #[.none, .bool false, .ref s.heap.objs.size, rawInt 0, .none, .none] } }) :=
  .of_wp fun prog w A R s h => by
    obtain ⟨hp, g, d, tk, os⟩ := s; obtain ⟨h1, h⟩ := h
    have hsub := sub_enumerate
    have q1 : ∀ {A' : Around} {E : Value → Shared → Prop} {Q : Value → Shared → Prop}, Q (.ref hp.objs.size) ⟨hp.push o, g, d, tk, os⟩ → wpAny (model prog w) A' (pyIter v) Q E ⟨hp, g, d, tk, os⟩ :=
      fun q => B.iter prog w _ _ ⟨hp, g, d, tk, os⟩ _ h1 q
    wp_walk using q1
    refine wpAny_stack_any fun st => wpAny_pure ?_
    split
    · rename_i c _ _ _ _ _
      cases (c == Value.type "enumerate")
      · wp_walk using q1
        exact ⟨_, rfl, h⟩
      · wp_walk using q1
        exact ⟨_, rfl, h⟩
    · wp_walk using q1
      exact ⟨_, rfl, h⟩
section
variable {prog : Program} {w : World} {A : Around} {E : Value → Shared → Prop} {s : Shared}
theorem enum_begins1 {v : Value} {o : Obj} {H : Heap → Prop} {Q : Value → Shared → Prop} (B : Begins v o H) (h1 : H s.heap)
    (h : ∀ h', IsEnum h' (s.heap.objs.size + 1) s.heap.objs.size 0 .none → h'.get? s.heap.objs.size = some o → h'.objs.size = s.heap.objs.size + 2 →
      (∀ b o, s.heap.get? b = some o → h'.get? b = some o) → Q (.ref (s.heap.objs.size + 1)) { s with heap := h' }) :
    wpAny (model prog w) A (call (.type "enumerate") [v]) Q E s := by
  refine callType_new F.called_enumerate (by decide) (F.typeCall_enumerate_1 _) (F.newCall_enumerate_1 _) (fun obj => F.args_object_init_2 obj _) F.entry_enumerate_new
    (meets_enumerate_new1 B) ⟨h1, ?_⟩
  have hz : (s.heap.push o).objs.size = s.heap.objs.size + 1 := Heap.size_push ..
  show _ ∧ _
  rw [hz]
  have he : IsEnum ((s.heap.push o).push { cls := .type "enumerate", data := .fields #[.none, .bool false, .ref s.heap.objs.size, rawInt 0, .none, .none] }) (s.heap.objs.size + 1) s.heap.objs.size 0 .none := by
    have := Heap.get?_push_size (s.heap.push o) (o := { cls := .type "enumerate", data := .fields #[.none, .bool false, .ref s.heap.objs.size, rawInt 0, .none, .none] }) rfl
    rw [hz] at this; exact this
  refine ⟨⟨_, he, rfl⟩, h _ he (Heap.get?_push_of_some _ (Heap.get?_push_size _ B.free)) (by rw [Heap.size_push, hz]) fun b o x => Heap.get?_push_of_some _ (Heap.get?_push_of_some _ x)⟩
theorem enum_endT {e it l : Addr} {i : Nat} {items : Array Value} {old : Value} {Q : Option Value → Shared → Prop} (hh : A.handled = none)
    (he : IsEnum s.heap e it i old) (hit : s.heap.IsTupleIter it l i) (hl : s.heap.IsTuple l items) (hx : items[i]? = none)
    (hQ : ∀ h', Heap.ExtBut it s.heap h' → Q none { s with heap := h' }) : wpAny (model prog w) A (pyNext (.ref e)) Q E s := by
  have hT : s.TypeIs (.ref e) "enumerate" := ⟨_, he, rfl⟩
  unfold pyNext
  refine wpAny_bind (wpAny_attempt (wpAny_callSpecial?_slot (name := Str.ofString "__next__") hT F.slot_enumerate_next
    (wpAny_call_entry F.slot_enumerate_next hT F.entry_enumerate_next ?_ (F.args_enumerate_next_1 _))))
  show wpAny _ _ (field (.ref e) 2 >>= _) _ _ _
  refine wpAny_bind (wpAny_field he rfl (x := .ref it) rfl ?_)
  refine wpAny_bind (wpAny_nextOf_tuple_end hh hit hl hx fun h' x he' hx' => ?_)
  obtain ⟨o, ho, hc⟩ := hx'
  refine wpAny_bind (wpAny_isInstance (T := "StopIteration") (b := true) ⟨o, ho, hc⟩ isSubtype_stop ?_)
  exact wpAny_pure (hQ _ he')
end
end PySem
namespace Ev
open PySem PySem.Spec PyProof.Rows L2
/-- the tuple at a, each item in a new pair -/
def IteT (K : PySem.W.Frag) (a : Addr) : It :=
  ⟨fun i H => ∃ (xs : List V) (x : V), SqT K H a xs ∧ xs[i]? = some x, fun i H v H' => ∃ T x, v = .ref T ∧ H T = none ∧ H' = L2.upd H T (.tup [.int (i : Nat), x]) ∧ ∀ xs, SqT K H a xs → xs[i]? = some x, fun i H => ∃ xs : List V, SqT K H a xs ∧ xs.length ≤ i⟩
theorem turn_enumT {P : Program} {w : World} {K : PySem.W.Frag} {elts : List Expr} {kk : Nat} {tpos : Pos} (a e it : Addr) :
    Turn P w K (.Tuple elts kk tpos) (IteT K a) [e, it] e (fun i h => (∃ old, IsEnum h e it ((i : Nat) : Int) old) ∧ h.IsTupleIter it a i ∧ e ≠ it ∧ a ≠ it ∧ a ≠ e) where
  mem := by simp
  obj := fun i h st b hb => by
    obtain ⟨⟨old, he⟩, ⟨o, ho, hc, hd⟩, _⟩ := st
    have e' : b = e ∨ b = it := by simpa using hb
    rcases e' with z | z
    · rw [z]; exact ⟨_, he, fun v q => nomatch q⟩
    · rw [z]; exact ⟨o, ho, fun v q => by rw [hd] at q; cases q⟩
  keep := fun i h h' st k => let ⟨⟨old, he⟩, hi, hne⟩ := st; ⟨⟨old, k e (by simp) _ he⟩, hi.at fun o q => k it (by simp) o q, hne⟩
  item := by
    intro X hP hw hK hc i pins s σ H E I hf st hg
    subst hP hw hK
    obtain ⟨⟨old, he⟩, hit, hne, hai, hae⟩ := st
    obtain ⟨xs, x, hq, hx⟩ := hg
    obtain ⟨its, rv, p, hz⟩ := I.tuple hq
    obtain ⟨u, hu, ru⟩ := rv.get hx
    have hel : e < s.heap.objs.size := Heap.lt_size he
    have hil : it < s.heap.objs.size := by obtain ⟨_, q, _⟩ := hit; exact Heap.lt_size q
    have hlt : i < its.toArray.size := by
      rcases List.getElem?_eq_some_iff.mp hu with ⟨h, _⟩
      simpa using h
    refine wpAny_pyNext_enum_itemD (Draws.tuple (show X.A.in1.handled = none from I.ok.hd hc) it a hai its.toArray) he ⟨hit, p⟩ hlt hne (by simp only [List.mem_cons, List.not_mem_nil, or_false, not_or]; exact ⟨hne, hae.symm⟩) fun y h' tk hy ho st' hT hsz hk => ?_
    have hyu : y = u := by
      have : its[i]? = some y := by simpa using hy
      rw [hu] at this
      exact (Option.some.inj this).symm
    subst hyu
    refine ⟨_, rfl, wpAny_letOwnedTupleGo_enum (s := { s with heap := h', toks := tk + 1 }) ho fun h'' he' sb => ?_⟩
    have hT2 : h''.get? s.heap.objs.size = some { cls := .type "tuple", data := .seq #[.int i tk, y] } := (sb.2 _ (Nat.ne_of_gt hel)).trans hT
    have new : ObjOk X.prog X.w (L2.upd H s.heap.objs.size (.tup [.int (i : Nat), x])) h'' s.heap.objs.size (.tup [.int (i : Nat), x]) :=
      ⟨by show 2 ≤ sizeLine; decide, [.int i tk, y], .cons ⟨_, rfl⟩ (.cons ru .nil), ⟨_, hT2, rfl, _, rfl⟩⟩
    have I1 : Inv X pins σ (L2.upd H s.heap.objs.size (.tup [.int (i : Nat), x])) { s with heap := h'', toks := tk + 1 } :=
      I.turnedNew (ch := [e, it]) (fun b ob hb q => (sb.2 b (fun z => hb (by simp [z]))).trans (hk b ob (fun z => hb (by simp [z])) (fun z => hb (by simp [z])) q)) hf (Nat.le_refl _) new
    refine ⟨.ref s.heap.objs.size, _, I1, rfl, ⟨_, x, rfl, I.hok.fresh (Nat.le_refl _), rfl, fun ys hy => by rw [I.tuple_inj hy hq]; exact hx⟩, ⟨⟨y, ?_⟩, st'.1.at fun o q => (sb.2 it (Ne.symm hne)).trans q, hne, hai, hae⟩, fun b hb => ?_⟩
    · have e1 : ((i + 1 : Nat) : Int) = (i : Int) + 1 := by omega
      rw [e1]; exact he'
    · have hb' : b < s.heap.objs.size := by
        have e' : b = e ∨ b = it := by simpa using hb
        rcases e' with z | z
        · rw [z]; exact hel
        · rw [z]; exact hil
      rw [upd_ne (Nat.ne_of_lt hb')]
      exact (hf b hb).1
  done := by
    intro X hP hw hK hc i pins s σ H E I hf st hg
    subst hP hw hK
    obtain ⟨⟨old, he⟩, hit, hne, hai, hae⟩ := st
    obtain ⟨xs, hq, hx⟩ := hg
    obtain ⟨its, rv, p, hz⟩ := I.tuple hq
    obtain ⟨f0, f1, f2, f3, f4, f5⟩ := hf it (by simp)
    have hl := rv.length
    exact enum_endT (I.ok.hd hc) he hit p (by simp; omega) fun h' eb => ⟨rfl, I.turned (t' := s.toks) (fun b o hb q => eb b o hb q) f0 f1 f3 f4 f5⟩
  self := fun A i s Q E st h => let ⟨⟨_, he⟩, _⟩ := st; wpAny_pyIter_enum he h
section
variable {X : Cx} {u : U} {E : XK} {rho : Nat → Addr} {w : W} {H : Hp} {s : S} {σ : L2.St} {tg e a b c : Expr} {es : List Expr} {ma mb mc : M} {mas : MA}
def iEnumT (K : PySem.W.Frag) (ta : TA) : TI := fun σ H R => ta σ H fun vs H1 => ∃ a xs, vs = [.ref a] ∧ SqT K H1 a xs ∧ R (IteT K a) H1
theorem pi_enumT {e : Expr} {ta : TA} {p pos tpos : Pos} {elts : List Expr} {kk : Nat} (hg : Gl X "enumerate") (hm : X.mg "enumerate" = none) (ha : PA X [e] ta) (hs : starEach [e] X.env = [(false, eval e X.env)] := by rfl) :
    PI X (.Tuple elts kk tpos) (.Call (.Name "enumerate" p) [e] [] pos) (iEnumT X.K ta) := by
  refine ⟨fun pins s σ H R I h => ?_⟩
  refine Call_ (ld_blt I hg hm boot_enumerate (PyProof.Rows.callWith_type1 (thn (ha.run pos pins s σ H _ I h) fun us s1 ⟨vs, H1, I1, r1, q1⟩ => ?_) hs rfl))
  obtain ⟨a, xs, ex, hq, q⟩ := q1
  subst ex
  cases r1 with
  | cons r rr =>
    cases rr
    cases r
    obtain ⟨its, rv, p', hz⟩ := I1.tuple hq
    have hal : a < s1.heap.objs.size := by obtain ⟨o, ho, _⟩ := p'; exact Heap.lt_size ho
    refine enum_begins1 (begins_tuple a its.toArray) p' fun h' he hit hsz hk => wpAny_pyIter_enum he ?_
    have I2 : Inv X pins σ H1 { s1 with heap := h' } := I1.kept (t' := s1.toks) hk
    refine ⟨s1.heap.objs.size + 1, [s1.heap.objs.size + 1, s1.heap.objs.size], _, _, H1, rfl, I2, turn_enumT a (s1.heap.objs.size + 1) s1.heap.objs.size, ⟨⟨.none, he⟩, ⟨_, hit, rfl, rfl⟩, Nat.succ_ne_self _, Nat.ne_of_lt hal, Nat.ne_of_lt (Nat.lt_succ_of_lt hal)⟩, fun b hb => ?_, q⟩
    have e' : b = s1.heap.objs.size + 1 ∨ b = s1.heap.objs.size := by simpa using hb
    have hle : s1.heap.objs.size ≤ b := by
      rcases e' with z | z
      · rw [z]; exact Nat.le_add_right _ _
      · rw [z]; exact Nat.le_refl _
    exact I1.fpOk hle (I1.hok.fresh hle)
theorem rit_enumT {l : List D} {a : Addr} {vs : List V} (hq : SqT u.K H a vs) (hr : RVs u rho w.n H l vs) : RIt u rho w H (.enum 0 (.tup l)) (IteT u.K a) := by
  intro rho' w' H' i e r'
  have hs := e.tups.sqT hq
  have hr := e.rvs hr
  show match (match lat l i with | .it x => IR.it (.tup [.int (Int.add 0 (Int.ofNat i)), x]) | .stop => .stop | .bad => .bad) with | .it d => _ | .stop => _ | .bad => _
  cases q : lat l i with
  | it d =>
    obtain ⟨v, h1, h2⟩ := hr.get (lat_it q)
    refine ⟨⟨vs, v, hs, h1⟩, fun x H2 ⟨T, y, ex, hT, eH, a1⟩ => ?_⟩
    subst ex eH
    have b1 := a1 vs hs
    rw [h1] at b1; cases b1
    obtain ⟨r2, e2⟩ := r'.tup (o := .tup [.int (i : Nat), v]) hT
    have e0 : Int.add 0 (Int.ofNat i) = ((i : Nat) : Int) := by show (0 : Int) + (i : Int) = _; omega
    rw [e0]
    exact ⟨r2, e2, .tup (.inl (.inl upd_same)) (.cons (.int _) (.cons (e2.rv h2) .nil))⟩
  | stop => exact ⟨vs, hs, by rw [← hr.length]; exact lat_stop q⟩
  | bad => exact True.intro
theorem si_enum (h1 : PI X tg e (iEnum u.K (tMA u E mas))) (h2 : PI X tg e (iEnumT u.K (tMA u E mas))) : PI X tg e (tMI u E (iEnumM mas)) := by
  refine PI_imp (PI_or h1 h2) fun σ H R ⟨rho, s, w, r, Z, q⟩ => ?_
  unfold iEnumM at q
  cases em : mas s w with
  | ok ds w1 =>
    rw [em] at q
    split at q
    · rename_i j w2 ez
      cases ez
      split at q
      · rename_i l f1
        refine .inl (tMA_then r Z ?_)
        rw [em]
        intro rho1 H1 vs e1 r1 Z1 rv
        obtain ⟨xs, hs, hr⟩ := r1.wl f1
        match vs, rv with
        | [_], .cons (.ref _ hj ej) .nil =>
          subst ej
          exact ⟨_, xs, rfl, hs, q rho1 H1 _ e1 r1 (rit_enumL r1 hj) rdone_id⟩
      · exact q.elim
    · rename_i l w2 ez
      cases ez
      refine .inr (tMA_then r Z ?_)
      rw [em]
      intro rho1 H1 vs e1 r1 Z1 rv
      match vs, rv with
      | [_], .cons (.tup hq hr) .nil => exact ⟨_, _, rfl, hq, q rho1 H1 _ e1 r1 (rit_enumT hq hr) rdone_id⟩
    · rename_i ez; cases ez
    · exact q.elim
  | ex c p w1 =>
    rw [em] at q
    refine .inl (tMA_then r Z ?_)
    rw [em]
    exact q
  | bad => rw [em] at q; exact q.elim
/-! ### // and % by a positive divisor -/
def okDiv (j : Int) : Bool := bif PySem.W.Z.ltB 0 j then PySem.W.Z.ltB j 1073741824 else false
def fMod : F2 := fun x y w => match x, y with
  | .int i, .int j => bif PySem.W.Z.ltB 0 j then .ok (.int (Int.emod i j)) w else .bad
  | _, _ => .bad
def fDiv : F2 := fun x y w => match x, y with
  | .int i, .int j => bif okDiv j then .ok (.int (Int.ediv i j)) w else .bad
  | _, _ => .bad
theorem fits_mod : Fits2 u E (rI (fun _ j => 0 < j) fun i j => .int (i % j)) fMod := by
  intro rho w H d v d' v' Q r rv rv' q
  cases d <;> try exact q.elim
  cases d' <;> try exact q.elim
  cases rv; cases rv'
  rename_i i j
  obtain ⟨h, q⟩ := bbeq q
  exact ⟨i, j, rfl, rfl, (PySem.W.Z.ltB_iff _ _).mp h, q rho H _ .refl r (.int _)⟩
theorem fits_div : Fits2 u E (rI CDiv fun i j => .int (i / j)) fDiv := by
  intro rho w H d v d' v' Q r rv rv' q
  cases d <;> try exact q.elim
  cases d' <;> try exact q.elim
  cases rv; cases rv'
  rename_i i j
  obtain ⟨h, q⟩ := bbeq q
  obtain ⟨h1, h2⟩ := bif_and h
  exact ⟨i, j, rfl, rfl, ⟨(PySem.W.Z.ltB_iff _ _).mp h1, (PySem.W.Z.ltB_iff _ _).mp h2⟩, q rho H _ .refl r (.int _)⟩
/-! ### a < b < c -/
def mChain (f g : F2) (a b c : M) : M := fun s w => match a s w with
  | .ok x w1 => (match b s w1 with
    | .ok y w2 => (match f x y w2 with
      | .ok (.bl true) w3 => (match c s w3 with
        | .ok z w4 => g y z w4
        | .ex c p w => .ex c p w
        | .bad => .bad)
      | .ok (.bl false) w3 => .ok (.bl false) w3
      | .ex c p w => .ex c p w
      | _ => .bad)
    | .ex c p w => .ex c p w
    | .bad => .bad)
  | .ex c p w => .ex c p w
  | .bad => .bad
theorem se_chain {r r' : R2} {f g : F2} (h : PE X e (tChain r r' (tM u E ma) (tM u E mb) (tM u E mc))) (hf : Fits2 u E r f) (hg : Fits2 u E r' g) : PE X e (tM u E (mChain f g ma mb mc)) := by
  refine h.imp fun σ H Q ⟨rho, s, w, R, Z, q⟩ => ?_
  refine tM_then R Z ?_
  unfold mChain at q
  revert q
  cases ma s w with
  | bad => exact id
  | ex c p w1 => exact id
  | ok x w1 =>
    intro q rho1 H1 v1 e1 R1 Z1 rv1
    refine tM_then R1 Z1 ?_
    dsimp only at q
    revert q
    cases mb s w1 with
    | bad => exact id
    | ex c p w2 => exact fun q => PostX.to q R e1
    | ok y w2 =>
      intro q rho2 H2 v2 e2 R2 Z2 rv2
      dsimp only at q
      have e02 := e1.trans R e2
      refine hf _ _ _ _ _ _ _ _ R2 (e2.rv rv1) rv2 ?_
      revert q
      cases f x y w2 with
      | bad => exact id
      | ex c p w3 => exact fun q => PostX.to q R e02
      | ok d w3 =>
        intro q
        cases d <;> try exact q.elim
        rename_i k
        intro rho3 H3 v3 e3 R3 rv3
        cases rv3
        have e03 := e02.trans R e3
        have Z3 := Z2.mono e3.n e3.rh e3.tups
        refine ⟨k, rfl, ?_⟩
        cases k with
        | false => exact q rho3 H3 _ e03 R3 (.bl _)
        | true =>
          rw [if_pos rfl]
          refine tM_then R3 Z3 ?_
          dsimp only at q
          revert q
          cases mc s w3 with
          | bad => exact id
          | ex c p w4 => exact fun q => PostX.to q R e03
          | ok z w4 => exact fun q rho4 H4 v4 e4 R4 Z4 rv4 => hg _ _ _ _ _ _ _ _ R4 (e4.rv (e3.rv rv2)) rv4 (q.to R (e03.trans R e4))
/-! ### sorted(a set of ints) -/
def fSortedA : FN := fun ds w => match ds with
  | [.ref i] => (match w.get i with
    | some (.iset l) => bif Nat.blt l.length 64 then alloc (.lst (l.map .int)) w else .bad
    | _ => fSorted ds w)
  | _ => fSorted ds w
theorem ints_RVs {n : Nat} : ∀ l : List Int, RVs u rho n H (l.map D.int) (l.map V.int)
  | [] => .nil
  | i :: r => .cons (.int i) (ints_RVs r)
theorem fits_sortedA : FitsN u E (fun xs H Q => rSortD u xs H Q ∨ rSortedSet u.w xs H Q) fSortedA := by
  intro rho w H ds vs Q r rv q
  unfold fSortedA at q
  split at q
  · rename_i i
    split at q
    · rename_i l e0
      match vs, rv with
      | [_], .cons (.ref k hk ek) .nil =>
        subst ek
        obtain ⟨hat, hp⟩ := r.obj _ _ e0
        obtain ⟨hb, q⟩ := bbeq q
        refine .inr ⟨_, _, _, rfl, hat, nat_blt hb, fun ns p hns hm hl hp' => ?_⟩
        have e : ns = l := by
          refine List.Perm.eq_of_pairwise (le := (· < ·)) (fun a b _ _ h1 h2 => absurd h1 (by omega)) hns hp ?_
          refine (List.perm_ext_iff_of_nodup (hns.imp fun h => by omega) (hp.imp fun h => by omega)).mpr fun a => ?_
          rw [hm a]; simp
        subst e
        exact fits_new r (ints_RVs ns) q p hp'
    · exact .inl (fits_sorted rho w H _ vs Q r rv q)
  · exact .inl (fits_sorted rho w H _ vs Q r rv q)
theorem cr_sortedI (hc : X.calm = true) (hW : X.w = u.w) : CallR X (.builtin "sorted") (rSortedSet u.w) := by
  have := cr_sortedSet (X := X) hc
  rw [hW] at this
  exact this
/-! ### list.insert, list.index, list.pop -/
def fInsert : D → List D → W → R := fun x ds w => match x, ds with
  | .ref i, [.int (.ofNat k), y] => (match w.get i with
    | some (.lst l) => bif (bif Nat.ble l.length 100000 then Nat.ble k 100000 else false) then .ok .non (w.set i (.lst (l.take k ++ [y] ++ l.drop k))) else .bad
    | _ => .bad)
  | _, _ => .bad
theorem fits_insert : FitsM u E (fun x vs H Q => ∃ (l : Addr) (xs : List V) (i : Int) (y : V), x = .ref l ∧ vs = [.int i, y] ∧ H l = some (.lst xs) ∧ xs.length < sizeLine ∧ 0 ≤ i ∧ i < 2 ^ 63 ∧
    Q .non (upd H l (.lst (xs.take i.toNat ++ [y] ++ xs.drop i.toNat)))) fInsert := by
  intro rho w H d v ds vs Q r rv rvs q
  unfold fInsert at q
  split at q
  · rename_i i k y
    match v, rv, vs, rvs with
    | _, .ref _ hi ha, [_, vy], .cons (.int _) (.cons ry .nil) =>
      subst ha
      split at q
      · rename_i l e0
        obtain ⟨xs, e1, hr⟩ := r.lst e0
        obtain ⟨hb, q⟩ := bbeq q
        obtain ⟨h1, h2⟩ := bif_and hb
        have h1' := Nat.le_of_ble_eq_true h1
        have h2' := Nat.le_of_ble_eq_true h2
        have hl := hr.length
        refine ⟨_, xs, _, vy, rfl, rfl, e1, by rw [sizeLine_eq]; omega, Int.natCast_nonneg k, ?_, fits_upd r e0 e1 (((hr.take k).append (.cons ry .nil)).append (hr.drop k)) .non q⟩
        show (k : Int) < 2 ^ 63
        omega
      · exact q.elim
  · exact q.elim
/-- the first place of an equal item, all of them flat -/
def ixF (x : D) : List D → Nat → Option Nat
  | [], _ => none
  | d :: r, i => bif flatD d then (bif feq d x then some i else ixF x r (Nat.succ i)) else none
def fIndex : D → List D → W → R := fun x ds w => match x, ds with
  | .ref i, [y] => (match wl w i with
    | some l => bif (bif flatD y then allB' flatD l else false) then (match ixF y l 0 with
      | some k => .ok (.int (Int.ofNat k)) w
      | none => .bad) else .bad
    | none => .bad)
  | _, _ => .bad
theorem ixF_ok {n : Nat} {y : D} {vy : V} (ry : RV u rho n H y vy) (fy : flatD y = true) : ∀ {l : List D} {vs : List V} {i k : Nat}, RVs u rho n H l vs → ixF y l i = some k → ∃ j, k = i + j ∧ ∃ z, vs[j]? = some z ∧ eqV z vy = true ∧ ∀ m z', m < j → vs[m]? = some z' → eqV z' vy = false
  | [], _, _, _, .nil, h => by cases h
  | d :: r, _, i, k, .cons (v := v) a t, h => by
    unfold ixF at h
    cases hf : flatD d with
    | false => rw [hf] at h; cases h
    | true =>
      rw [hf] at h
      dsimp only [cond_true] at h
      cases he : feq d y with
      | true =>
        rw [he] at h
        cases h
        exact ⟨0, rfl, v, rfl, (feq_ok a ry hf fy).trans he, fun m z' hm _ => absurd hm (Nat.not_lt_zero _)⟩
      | false =>
        rw [he] at h
        obtain ⟨j, e, z, h1, h2, h3⟩ := ixF_ok ry fy t h
        refine ⟨j + 1, by omega, z, h1, h2, fun m z' hm hz' => ?_⟩
        cases m with
        | zero =>
          cases hz'
          exact (feq_ok a ry hf fy).trans he
        | succ m => exact h3 m z' (by omega) hz'
theorem allflat_ok {n : Nat} : ∀ {l : List D} {vs : List V}, RVs u rho n H l vs → allB' flatD l = true → vs.all flatV = true
  | _, _, .nil, _ => rfl
  | d :: r, _, .cons a t, h => by
    have h' : (bif flatD d then allB' flatD r else false) = true := h
    obtain ⟨h1, h2⟩ := bif_and h'
    rw [List.all_cons, flat_ok a, h1, allflat_ok t h2]; rfl
theorem fits_index : FitsM u E (rIndex u.K) fIndex := by
  intro rho w H d v ds vs Q r rv rvs q
  unfold fIndex at q
  split at q
  · rename_i i y
    match v, rv, vs, rvs with
    | _, .ref _ hi ha, [vy], .cons ry .nil =>
      subst ha
      split at q
      · rename_i l e0
        obtain ⟨xs, hs, hr⟩ := r.wl e0
        obtain ⟨hb, q⟩ := bbeq q
        obtain ⟨h1, h2⟩ := bif_and hb
        split at q
        · rename_i k e1
          obtain ⟨j, ej, z, g1, g2, g3⟩ := ixF_ok ry h1 hr e1
          have ej' : k = j := by omega
          subst ej'
          exact ⟨_, xs, vy, k, z, rfl, rfl, hs, (flat_ok ry).trans h1, allflat_ok hr h2, g1, g2, g3, q rho H _ .refl r (.int _)⟩
        · exact q.elim
      · exact q.elim
  · exact q.elim
end
end Ev

set_option Elab.async false
set_option linter.all false
set_option maxRecDepth 100000
set_option maxHeartbeats 4000000
/-! EvX: a lambda of one parameter handed to a def as its second argument. -/
namespace Ev
open PySem PySem.Spec PyProof.Rows L2
open LamX (CodeO TabS Tabs TabB ExtN lamEnv lamCx lam_make2 Tabs.ext)
/-! ### the world while a lambda is made -/
theorem RO.there {u : U} {rho : Nat → Addr} {n : Nat} {H : Hp} {a : Addr} {o : O} (h : RO u rho n H a o) : ∃ ho, H a = some ho ∧ ∀ ps, ho ≠ .tbl ps := by
  cases o with
  | lst l => obtain ⟨vs, e, _⟩ := h; exact ⟨_, e, fun _ z => by cases z⟩
  | fl l => obtain ⟨ob, vs, e, _⟩ := h; exact ⟨_, e, fun _ z => by cases z⟩
  | dct k l => obtain ⟨ob, es, ep, xs, r⟩ := h; exact ⟨_, r.at_, fun _ z => by unfold rawO at z; cases z⟩
  | ins c fs => obtain ⟨dx, nvs, e, _⟩ := h; exact ⟨_, e, fun _ z => by cases z⟩
  | iset l => obtain ⟨e, _⟩ := h; exact ⟨_, e, fun _ z => by unfold SetO at z; cases z⟩
  | sd l => obtain ⟨kvs, e, _⟩ := h; exact ⟨_, e, fun _ z => by cases z⟩
  | ik l => obtain ⟨ob, es, ep, kvs, e, _⟩ := h; exact ⟨_, e, fun _ z => by unfold rawO at z; cases z⟩
section
variable {u : U} {rho : Nat → Addr} {w : W} {H H' : Hp}
theorem RW.extN (r : RW u rho w H) (e : ExtN H H') (t : Tabs u.T H') : RW u rho w H' ∧ Ext u rho w H rho w H' := by
  have at_ : ∀ i o, w.get i = some o → H' (rho i) = H (rho i) := fun i o h => by
    obtain ⟨ho, e1, e2⟩ := (r.obj i o h).there
    rw [e1]; exact e _ _ e1 e2
  have tp : Tups H H' := ⟨fun a xs h => by
    rcases h with h | ⟨ob, h⟩
    · exact .inl (e _ _ h (fun _ z => by cases z))
    · exact .inr ⟨ob, e _ _ h (fun _ z => by cases z)⟩, fun c q h => e _ _ h (fun _ z => by unfold CodeO at z; cases z)⟩
  refine ⟨⟨r.inj, r.dom, fun i hi => ?_, fun i o h => ?_, r.small, t, r.full, fun p hp' => e _ _ (r.code p hp') (fun _ z => by unfold CodeO at z; cases z), r.cl.mono (Nat.le_refl _) (fun _ _ => rfl) tp⟩, ⟨Nat.le_refl _, fun _ _ => rfl, tp, fun i l h _ => ⟨h, at_ i _ h⟩, fun a h1 h0 h2 => ⟨?_, h2⟩⟩⟩
  · obtain ⟨o, ho⟩ := r.full i hi
    rw [at_ i o ho]; exact r.all i hi
  · exact (r.obj i o h).mono (Nat.le_refl _) (fun _ _ => rfl) tp (at_ i o h) fun d ed => e _ _ ed (fun _ z => by cases z)
  · cases q : H a with
    | none => exact absurd q h1
    | some x => exact e _ _ q fun ps z => h0 ps (by rw [q, z])
end
/-! ### the lambda's names -/
structure LamP (N : List Str) (sc scope : Scope) (j : Nat) (x : Str) : Prop where
  kind : scope.kind = .function
  co : scope.isCoroutine = false
  gen : scope.isGenerator = false
  par : scope.names.lookup x = some .local
  own : ∀ y ∈ scope.names, (y.2 = .local → y.1 = x) ∧ y.2 ≠ .cell
  free : ∀ y ∈ scope.names, y.2 = .free → sc.names.lookup y.1 = some .cell ∨ sc.names.lookup y.1 = some .free
  ix : N[j]? = some x
section
variable {X : Cx} {pins : List (Addr × Obj)} {σ : L2.St} {H HZ : Hp} {s s1 : Shared} {scope : Scope} {j : Nat} {x : Str}
theorem LamP.has (L : LamP X.N X.env.scope scope j x) (ok : X.Ok) : ∀ y ∈ scope.names, y.2 = .free → ∃ c, X.env.cells.lookup y.1 = some c := fun y hy e => by
  rcases L.free y hy e with k | k
  · exact ok.has _ (.inl k)
  · exact ok.has _ (.inr k)
theorem lam_start1 {A : Around} {outer : List Env} {E : XK} {f c' : Addr} {h₁ : Heap} {tk : Nat} {vx : V} {ux : Value} (I : Inv X pins σ H s) (hN : X.N.Nodup) (L : LamP X.N X.env.scope scope j x) (e0 : Env0 X.prog X.w X.K X.mg X.base A outer s1 HZ) (hd : A.handled = none)
    (un : Un (frs X.stack) [] H HZ s.heap s1.heap) (rx : RelV vx ux) (hns : h₁.Ns s1.heap.objs.size fun y => ([(x, ux)] : List (Str × Value)).reverse.lookup y) (kp : ∀ b o, s1.heap.get? b = some o → h₁.get? b = some o) :
    Inv (lamCx X A outer s1 HZ E scope f c') [] (σ.set j (some vx)) HZ { s1 with heap := h₁, toks := tk } := by
  have hfree := L.has I.ok
  have cm : ∀ {y c}, (cloFrom X.env.cells scope.names []).lookup y = some c → X.env.cells.lookup y = some c := fun {y c} e => by
    rcases cloFrom_mem (PySem.mem_of_lookup e) with hm | ⟨h1, h2⟩
    · cases hm
    · obtain ⟨c1, hc⟩ := hfree _ h1 rfl
      have hc : X.env.cells.lookup y = some c1 := hc
      have e2 : c = c1 := by
        rw [h2, hc] <;> rfl
      rw [e2]
      exact hc
  have look : ∀ {y}, scope.names.lookup y = some .free → ∃ c, (cloFrom X.env.cells scope.names []).lookup y = some c := fun {y} hl => by
    have hy : (y, NameKind.free) ∈ scope.names := PySem.mem_of_lookup hl
    exact mem_lookup (cloFrom_has (cells := X.env.cells) (acc := []) hy)
  have cellK : ∀ {c : Addr} {v : Option Value}, H c = none → s.heap.IsCell c v → h₁.IsCell c v := fun {c v} n ⟨o, ho, hd⟩ => by
    obtain ⟨sl, q⟩ := un.any ho n (by simp)
    exact ⟨_, kp _ _ q, hd⟩
  have noA : ∀ b : Addr, b ∉ (lamCx X A outer s1 HZ E scope f c').ex := fun b z => absurd (show b ∈ ([] : List Addr) from z) (by simp)
  have hjl : j < σ.length := by
    rw [I.len]
    rcases List.getElem?_eq_some_iff.mp L.ix with ⟨h, _⟩
    exact h
  refine ⟨⟨e0.mod, L.kind, rfl, rfl, Nat.le_refl _, fun y z c e1 e2 => I.ok.inj y z c (cm e1) (cm e2), fun y hy => ?_, fun y c z _ => ?_, fun _ => hd, Around.frames_deeper e0.frames, .inr ⟨rfl, rfl⟩, fun b z => absurd z (noA b), e0.bs, e0.bsz, fun b _ _ => noA b,
      fun b z => absurd z (noA b), e0.funs, e0.frf⟩,
    rfl, e0.bare, Un.kept kp, ⟨_, hns, fun i y v e1 e2 e3 => ?_⟩, fun y c e => ?_, e0.hok.fresh (Nat.le_refl _), fun y c e => ?_, fun q hq => absurd (show q ∈ ([] : List (Addr × Obj)) ++ [] from hq) (by simp), e0.hok.kept kp, by rw [List.length_set]; exact I.len⟩
  · have hy : scope.names.lookup y = some .cell ∨ scope.names.lookup y = some .free := hy
    rcases hy with hy | hy
    · exact absurd rfl (L.own _ (PySem.mem_of_lookup hy)).2
    · exact look hy
  · have z : false = true := z
    cases z
  · have e3 : Vis scope y := e3
    have e1 : X.N[i]? = some y := e1
    by_cases hij : i = j
    · subst hij
      have hx : y = x := Option.some.inj (e1.symm.trans L.ix)
      subst hx
      rw [List.getElem?_set_self hjl] at e2
      cases e2
      exact ⟨ux, rx, .inl ⟨L.par, by simp⟩⟩
    · rw [List.getElem?_set_ne (Ne.symm hij)] at e2
      rcases e3 with k | k | k
      · exfalso
        have hy : y = x := (L.own _ (PySem.mem_of_lookup k)).1 rfl
        rw [hy] at e1
        rcases List.getElem?_eq_some_iff.mp e1 with ⟨h1, g1⟩
        rcases List.getElem?_eq_some_iff.mp L.ix with ⟨h2, g2⟩
        exact hij ((List.getElem_inj hN).mp (g1.trans g2.symm))
      · exact absurd rfl (L.own _ (PySem.mem_of_lookup k)).2
      · obtain ⟨m, hn, hl⟩ := I.loc
        have hvis : Vis X.env.scope y := (L.free _ (PySem.mem_of_lookup k) rfl).elim (fun k => .inr (.inl k)) (fun k => .inr (.inr k))
        obtain ⟨w', r, q⟩ := hl i y v e1 e2 hvis
        obtain ⟨c2, h2⟩ := look k
        refine ⟨w', r, .inr ⟨.inr k, c2, h2, ?_⟩⟩
        have c1 := cm h2
        rcases q with ⟨k', _⟩ | ⟨_, c3, e', z⟩
        · have k' : X.env.scope.names.lookup y = some .local := k'
          rcases L.free _ (PySem.mem_of_lookup k) rfl with k2 | k2 <;> rw [show X.env.scope.names.lookup y = _ from k2] at k' <;> cases k'
        · rw [c1] at e'
          cases e'
          exact cellK (I.freeC y _ c1) z
  · obtain ⟨w', z⟩ := I.cell y c (cm e)
    exact ⟨w', cellK (I.freeC y c (cm e)) z⟩
  · obtain ⟨v, o, ho, hd⟩ := I.cell y c (cm e)
    exact un.free c o ho (I.freeC y c (cm e)) (by simp)
/-- a(e), in the def that got the lambda as a: that def's context was entered at s -/
theorem pe_act1 {Ng : List Str} {qg : Str} {sg : Scope} {g f c' : Addr} {cdg pm ctv : Value} {params : Arguments} {body : Expr} {k i : Nat} {a : Str} {pn : List (Addr × Obj)} {xe : Value → Shared → Prop} {W : WX} {tb te : TE} {p1 p2 : Pos} {ea : Expr}
    (I : Inv X pins σ H s) (hNd : X.N.Nodup) (L : LamP X.N X.env.scope scope j x) (hf : s.heap.get? f = some (PySem.W.kla_obj "<lambda>" (X.env.qual ++ "<lambda>") params body scope (cloFrom X.env.cells scope.names []) pm c' ctv)) (hfn : H f = none) (hfr : f ∉ frs X.stack)
    (hbind : ∀ u, bindArgs (PySem.W.kla_fn "<lambda>" (X.env.qual ++ "<lambda>") params body scope (cloFrom X.env.cells scope.names []) pm (.ref c') ctv) ⟨[u], []⟩ = pure [(x, u)])
    (tk : Takes ((cxOf C8.CX0 X.prog X.w X.K X.mg X.base Ng qg sg g cdg X.A X.stack s H C8.E0).tr pn xe) W) (hr : Room (k + 1) (X.A.deeper (envOfC qg sg s.heap.objs.size g cdg)))
    (hbody : ∀ (A : Around) (outer : List Env) (s : Shared) (H : Hp), Room k (A.deeper (lamEnv X scope s.heap.objs.size f c')) → PE (lamCx X A outer s H C8.E0 scope f c') body tb)
    (hN : Ng[i]? = some a) (hv : Vis sg a) (he : PE ((cxOf C8.CX0 X.prog X.w X.K X.mg X.base Ng qg sg g cdg X.A X.stack s H C8.E0).tr pn xe) ea te)
    (hs : starEach [ea] ((cxOf C8.CX0 X.prog X.w X.K X.mg X.base Ng qg sg g cdg X.A X.stack s H C8.E0).tr pn xe).env = (false, eval ea ((cxOf C8.CX0 X.prog X.w X.K X.mg X.base Ng qg sg g cdg X.A X.stack s H C8.E0).tr pn xe).env) :: starEach [] ((cxOf C8.CX0 X.prog X.w X.K X.mg X.base Ng qg sg g cdg X.A X.stack s H C8.E0).tr pn xe).env)
    (hd : (a == ("__debug__" : Str)) = false := by decide) (hcd : (a == ("__classdict__" : Str)) = false := by decide) :
    PE ((cxOf C8.CX0 X.prog X.w X.K X.mg X.base Ng qg sg g cdg X.A X.stack s H C8.E0).tr pn xe) (.Call (.Name a p1) [ea] [] p2)
      (fun σZ HZ Q => σZ[i]? = some (some (.ref f)) ∧ te σZ HZ fun y HZ1 => HZ1 c' = some (CodeO c' (X.env.qual ++ "<lambda>")) ∧ tb (σ.set j (some y)) HZ1 Q) := by
  refine ⟨fun pinsZ sZ σZ HZ0 Q IZ h => ?_⟩
  obtain ⟨hsl, ht⟩ := h
  refine wpAny_Call_Name_kw (thn ((pe_var (pos := p1) (i := i) hN hv hd hcd).run pinsZ sZ σZ HZ0 (fun v H1 => v = .ref f ∧ H1 = HZ0) IZ ⟨.ref f, hsl, rfl, rfl⟩) fun u s0 ⟨v, H1, I0, r1, q1⟩ => ?_)
  obtain ⟨ev, eH⟩ := q1
  subst ev
  rw [eH] at I0
  obtain rfl : u = Value.ref f := r1
  have of0 : s0.heap.get? f = some (PySem.W.kla_obj "<lambda>" (X.env.qual ++ "<lambda>") params body scope (cloFrom X.env.cells scope.names []) pm c' ctv) := I0.base.keep f _ hf hfn hfr (fun z => nomatch (show f ∈ ([] : List Addr) from z))
  refine PySem.W.callWith_F ⟨_, _, _, _, of0⟩ ?_ hs rfl
  rw [hs]
  refine Calls.spliced_cons (thn (he.run pinsZ s0 σZ HZ0 _ I0 ht) fun uy s1 ⟨vy, HZ, I1, ry, hc, qt⟩ => Calls.spliced_nil ?_)
  have of1 : s1.heap.get? f = some (PySem.W.kla_obj "<lambda>" (X.env.qual ++ "<lambda>") params body scope (cloFrom X.env.cells scope.names []) pm c' ctv) := I1.base.keep f _ hf hfn hfr (fun z => nomatch (show f ∈ ([] : List Addr) from z))
  refine ⟨⟨_, _, _, _, of1⟩, ?_⟩
  have un : Un (frs X.stack) [] H HZ s.heap s1.heap := I1.base
  obtain ⟨⟨oc, vs, t, hoc, hdc, hvc⟩, _, _⟩ := I1.hok c' _ hc
  have rc : codeAny (model X.prog X.w) (X.A.deeper (envOfC qg sg s.heap.objs.size g cdg)) (.call (.ref f) ⟨[uy], []⟩) (CR (L2.CX X.prog X.w) (envOfC qg sg s.heap.objs.size g cdg :: X.stack) X.prog X.w HZ s1 Q C8.E0) s1 := by
    refine PySem.W.kla_callFunE hr.depth of1 rfl L.co L.gen rfl ⟨c', oc, vs, t, rfl, hoc, hdc, hvc⟩ ?_
    rw [hbind]
    refine wpAny_pure (wpAny_newFunctionEnv (fun y hy => (L.own y hy).2) (fun y hy => ?_) (fun h₁ hns hsb => ⟨I1.nolimit.fresh _ hsb, ?_⟩) L.kind)
    · have e : y = (x, uy) := List.mem_singleton.mp hy
      rw [e]; exact L.par
    show codeAny _ _ (.expr body (lamEnv X scope s1.heap.objs.size f c')) _ _
    have kp : ∀ b o, s1.heap.get? b = some o → h₁.get? b = some o := fun b o e => hsb.extBut b o (Nat.ne_of_lt (Heap.lt_size e)) (Heap.get?_push_of_some _ e)
    have J : Inv (lamCx X (X.A.deeper (envOfC qg sg s.heap.objs.size g cdg)) (envOfC qg sg s.heap.objs.size g cdg :: X.stack) s1 HZ C8.E0 scope f c') [] (σ.set j (some vy)) HZ { s1 with heap := h₁, toks := s1.toks + ([(x, uy)] : List (Str × Value)).length } :=
      lam_start1 I hNd L I1.env0 hr.hd un ry hns kp
    refine PySem.W.kla_codeExpr (wpAny_mono ((hbody _ _ s1 HZ (hr.deeper _)).run [] _ _ HZ Q J qt) (fun v s' hq => ?_) fun e s' hq => hq)
    obtain ⟨w', H', J', rv, q⟩ := hq
    exact ⟨w', H', J'.os, J'.bare, J'.base, J'.hok, rv, q⟩
  have hx : Passes (L2.CX X.prog X.w) ((cxOf C8.CX0 X.prog X.w X.K X.mg X.base Ng qg sg g cdg X.A X.stack s H C8.E0).tr pn xe) C8.E0 := passes_call tk (fun cls d σ' H' z => z.elim)
  refine wpAny_call (codeAny_mono rc fun r s' hq => ?_)
  cases r with
  | error e => exact hx pinsZ σZ HZ s1 e s' I1 hq
  | ok fl =>
    cases fl with
    | ret u => exact I1.after hq
    | next => exact False.elim hq
    | brk => exact False.elim hq
    | cont => exact False.elim hq
/-- the def that calls what it got: its second argument, by one argument of its own -/
def Gives2 (X : Cx) (Ng : List Str) (x : Str) (sg : Scope) (g : Addr) (cdg : Value) (bg : List Stmt) (a : Str) (q : Str) (TT : (V → Hp → VK → Prop) → V → Hp → VK → Prop) : Prop :=
  ∀ (f c' : Addr) (s : Shared) (H : Hp) (Q : VK) (y : V) (tl : V → Hp → VK → Prop),
    (∀ (p1 p2 : Pos) (ea : Expr) (te : TE), PE (cxOf C8.CX0 X.prog X.w X.K X.mg X.base Ng x sg g cdg X.A X.stack s H C8.E0).nox ea te →
      starEach [ea] (cxOf C8.CX0 X.prog X.w X.K X.mg X.base Ng x sg g cdg X.A X.stack s H C8.E0).nox.env = (false, eval ea (cxOf C8.CX0 X.prog X.w X.K X.mg X.base Ng x sg g cdg X.A X.stack s H C8.E0).nox.env) :: starEach [] (cxOf C8.CX0 X.prog X.w X.K X.mg X.base Ng x sg g cdg X.A X.stack s H C8.E0).nox.env →
      PE (cxOf C8.CX0 X.prog X.w X.K X.mg X.base Ng x sg g cdg X.A X.stack s H C8.E0).nox (.Call (.Name a p1) [ea] [] p2) (fun σZ HZ Q => σZ[1]? = some (some (.ref f)) ∧ te σZ HZ fun y HZ1 => HZ1 c' = some (CodeO c' q) ∧ tl y HZ1 Q)) →
    H c' = some (CodeO c' q) → TT tl y H Q →
    ∃ t, PSs (cxOf C8.CX0 X.prog X.w X.K X.mg X.base Ng x sg g cdg X.A X.stack s H C8.E0).nox bg t ∧ t { nx := fun _ H' => Q .non H', rt := Q } (L2.start Ng [y, .ref f]) H
def tLam1 (T : List (Addr × Str)) (TT : (V → Hp → VK → Prop) → V → Hp → VK → Prop) (te tb : TE) (j : Nat) : TE := fun σ H Q => te σ H fun y H1 => Tabs T H1 ∧ ∀ H2, ExtN H1 H2 → Tabs T H2 → TT (fun v H' Q' => tb (σ.set j (some v)) H' Q') y H2 Q
/-- x(e, lambda p: body) -/
theorem pe_lamcall1 {T : List (Addr × Str)} {TT : (V → Hp → VK → Prop) → V → Hp → VK → Prop} {xg a0 a : Str} {g c P : Addr} {k : Nat} {pg : Arguments} {bg : List Stmt} {sg : Scope} {dV kV doc pm cdv ct oc : Value} {an od : Option Addr} {osl : Array (Option Value)} {Ng : List Str}
    {params : Arguments} {body ea : Expr} {te tb : TE} {p lpos pos : Pos} (hNd : X.N.Nodup) (hg : Gl X xg) (hm : X.mg xg = some (.ref g)) (hk : PySem.W.keepIn X.K (.ref g) = true)
    (lk : X.K.lookup g = some ⟨oc, od, .func (PySem.W.fnOf xg xg pg bg sg dV kV doc pm an cdv ct), osl⟩) (hcg : PySem.W.codeIn X.K cdv xg = true) (hb : L2.Binds X.K (PySem.W.fnOf xg xg pg bg sg dV kV doc pm an cdv ct) [a0, a] []) (Sg : FnScope Ng [a0, a] sg) (hNg : Ng[1]? = some a) (hva : Vis sg a)
    (hG : Gives2 X Ng xg sg g cdv bg a (X.env.qual ++ "<lambda>") TT)
    (TB : TabB X.base X.mg c P) (hcode : X.env.code = .ref c) (hmT : (P, X.env.qual ++ "<lambda>") ∈ T) (hu : ∀ p ∈ T, p.1 = P → p.2 = X.env.qual ++ "<lambda>") (hr : Room (k + 2) X.A) (L : LamP X.N X.env.scope scope j x) (hdef : defaultsOf params X.env = ([], []))
    (hbind : ∀ (q : Str) (cl : List (Str × Addr)) (pm cv ctv : Value) (u : Value), bindArgs (PySem.W.kla_fn "<lambda>" q params body scope cl pm cv ctv) ⟨[u], []⟩ = pure [(x, u)])
    (he : PE X ea te)
    (hbody : ∀ (A : Around) (outer : List Env) (s : Shared) (H : Hp) (f c' : Addr), Room k (A.deeper (lamEnv X scope s.heap.objs.size f c')) → PE (lamCx X A outer s H C8.E0 scope f c') body tb)
    (hs : starEach [ea, .Lambda params body scope lpos] X.env = (false, eval ea X.env) :: starEach [.Lambda params body scope lpos] X.env := by rfl)
    (htr : backTo pos (starEach [ea, .Lambda params body scope lpos] X.env) = [(false, eval ea X.env), (false, eval (.Lambda params body scope lpos) X.env)] := by rfl) (hpl : (backTo pos (starEach [.Lambda params body scope lpos] X.env)).any (·.1) = false := by rfl)
    (hdb : (xg == ("__debug__" : Str)) = false := by decide) (hd : (a == ("__debug__" : Str)) = false := by decide) (hcd : (a == ("__classdict__" : Str)) = false := by decide) :
    PE X (.Call (.Name xg p) [ea, .Lambda params body scope lpos] [] pos) (tLam1 T TT te tb j) := by
  refine ⟨fun pins s σ H Q I h => ?_⟩
  refine wpAny_Call_Name_kw (ld_glob I hg hm ?_ hdb)
  refine PySem.W.callWith_K (h₀ := X.base) I.ok.mod.kin hk ?_ hs hpl
  rw [htr]
  refine Calls.spliced_cons (thn (he.run pins s σ H _ I h) fun uy s0 ⟨y, H0, I0, ry, hT, h0⟩ => ?_)
  refine Calls.spliced_cons (lam_make2 I0 TB hcode hmT hu hT hdef (L.has I.ok) fun f c' pm' ctv H1 s' I1 eN T1 hf hfn hfr hco => ?_)
  refine Calls.spliced_nil ⟨I1.kIn, ?_⟩
  have rc : codeAny (model X.prog X.w) X.A (.call (.ref g) ⟨[uy, .ref f], []⟩) (CR C8.CX0 X.stack X.prog X.w H1 s' Q C8.E0) s' := by
    refine LamX.run_ofS (N := Ng) (ps := [a0, a]) (us := [uy, .ref f]) (vs := [y, .ref f]) lk hcg Sg hr I1.env0 (hb s' [uy, .ref f] I1.kIn rfl) (.cons ry (.cons rfl .nil)) rfl fun hr' => ?_
    obtain ⟨t', ht', hq'⟩ := hG f c' s' H1 Q y (fun v H' Q' => tb (σ.set j (some v)) H' Q') (fun p1 p2 ea' te' he' hs' => pe_act1 (i := 1) (pn := []) (xe := fun _ _ => False) I1 hNd L hf hfn hfr (hbind _ _ _ _ _) LamX.takes0 hr' (fun A outer s H hr2 => hbody A outer s H f c' hr2) hNg hva he' hs' hd hcd) hco (h0 H1 eN T1)
    exact ⟨t', ht'.nox, hq'⟩
  refine wpAny_call (codeAny_mono rc fun r s2 hq => ?_)
  cases r with
  | error e => exact (show False from hq).elim
  | ok fl =>
    cases fl with
    | ret u => exact I1.after hq
    | next => exact False.elim hq
    | brk => exact False.elim hq
    | cont => exact False.elim hq
end
end Ev

set_option Elab.async false
set_option linter.all false
set_option maxRecDepth 100000
set_option maxHeartbeats 4000000
/-! EvY: the evaluator's side of a lambda handed to a def. -/
namespace Ev
open PySem PySem.Spec PyProof.Rows L2
open LamX (CodeO TabS Tabs TabB ExtN lamEnv lamCx)
/-- the same but for what concerns a lambda -/
structure UEq (u u' : U) : Prop where
  P : u'.P = u.P
  w : u'.w = u.w
  K : u'.K = u.K
  kd : u'.kd = u.kd
  cl : u'.cl = u.cl
  fld : u'.fld = u.fld
  T : u'.T = u.T
theorem UEq.symm {u u' : U} (e : UEq u u') : UEq u' u := ⟨e.P.symm, e.w.symm, e.K.symm, e.kd.symm, e.cl.symm, e.fld.symm, e.T.symm⟩
section
variable {u u' : U} {rho : Nat → Addr} {n : Nat} {H : Hp} {w : W}
mutual
theorem RV.to (e : UEq u u') : ∀ {d : D} {v : V}, RV u rho n H d v → RV u' rho n H d v
  | _, _, .non => .non
  | _, _, .bl b => .bl b
  | _, _, .int i => .int i
  | _, _, .str x h => .str x h
  | _, _, .ref i h e1 => .ref i h e1
  | _, _, .tup h r => .tup (by rw [e.K]; exact h) (RVs.to e r)
  | _, _, .kd k e1 => .kd k (by rw [e.kd]; exact e1)
  | _, _, .ty k => .ty k
  | _, _, .cls c e1 => .cls c (by rw [e.cl]; exact e1)
theorem RVs.to (e : UEq u u') : ∀ {d : List D} {v : List V}, RVs u rho n H d v → RVs u' rho n H d v
  | _, _, .nil => .nil
  | _, _, .cons h r => .cons (RV.to e h) (RVs.to e r)
end
theorem REs.to (e : UEq u u') {l : List (D × D)} {xs : List (NestedKey × Addr × Value)} (h : REs u rho n H l xs) : REs u' rho n H l xs := by
  induction h with
  | nil => exact .nil
  | cons a b c d _ ih => exact .cons a (b.to e) c (d.to e) ih
theorem RKs.to (e : UEq u u') {l : List (List Nat × D)} {kvs : List (Key × V)} (h : RKs u rho n H l kvs) : RKs u' rho n H l kvs := by
  induction h with
  | nil => exact .nil
  | cons a b _ ih => exact .cons a (b.to e) ih
theorem RO.to (e : UEq u u') {a : Addr} {o : O} (h : RO u rho n H a o) : RO u' rho n H a o := by
  cases o with
  | lst l => obtain ⟨vs, e1, r⟩ := h; exact ⟨vs, e1, r.to e⟩
  | fl l => obtain ⟨ob, vs, e1, r⟩ := h; exact ⟨ob, vs, e1, r.to e⟩
  | dct k l => obtain ⟨ob, es, ep, xs, r⟩ := h; exact ⟨ob, es, ep, xs, r.at_, r.ex, r.data, by rw [e.P, e.w]; exact r.ents, r.nd, r.rel.to e, r.sm, r.len⟩
  | ins c fs => obtain ⟨dx, nvs, e1, e2, e3, r⟩ := h; exact ⟨dx, nvs, by rw [e.cl]; exact e1, e2, by rw [e.fld]; exact e3, r.to e⟩
  | iset l => obtain ⟨e1, p⟩ := h; exact ⟨by rw [e.w]; exact e1, p⟩
  | sd l => obtain ⟨kvs, e1, r, z⟩ := h; exact ⟨kvs, e1, r.to e, z⟩
  | ik l => obtain ⟨ob, es, ep, kvs, e1, z⟩ := h; exact ⟨ob, es, ep, kvs, e1, by rw [e.P, e.w]; exact z⟩
def notFn : D → Bool
  | .fn => false
  | _ => true
theorem SS.to (e : UEq u u') {s : S} {σ : L2.St} (h : SS u rho n H s σ) : allB' notFn s = true → SS u' rho n H s σ := by
  induction h with
  | nil => exact fun _ => .nil
  | no _ ih => exact fun q => .no (ih (bif_and (show (bif notFn D.no then _ else false) = true from q)).2)
  | cons a _ ih => exact fun q => .cons (a.to e) (ih (bif_and (show (bif notFn _ then _ else false) = true from q)).2)
  | fn _ _ => exact fun q => by cases q
theorem RW.to (e : UEq u u') (r : RW u rho w H) (hc : ∀ p ∈ u'.C, H p.1 = some (CodeO p.1 p.2)) (hs : SS u' rho w.n H u'.cs u'.cσ) : RW u' rho w H :=
  ⟨r.inj, r.dom, r.all, fun i o h => (r.obj i o h).to e, r.small, by rw [e.T]; exact r.tabs, r.full, hc, hs⟩
theorem Ext.to {rho' : Nat → Addr} {w' : W} {H' : Hp} (e : Ext u rho w H rho' w' H') : Ext u' rho w H rho' w' H' := ⟨e.n, e.rh, e.tups, e.lock, e.oth⟩
theorem PayOk.to (e : UEq u u') {p : D} {oe : Option Addr} (h : PayOk u rho n H p oe) : PayOk u' rho n H p oe := by
  rcases h with h | ⟨d, v, h1, h2, h3⟩
  · exact .inl h
  · exact .inr ⟨d, v, h1, h2, h3.to e⟩
/-- what is promised under u holds under u' -/
theorem Post.conv {E : XK} {Q : VK} {r : R} (e : UEq u u') (h0 : u.cs = [] ∧ u.cσ = []) (r0 : RW u rho w H) (h : Post u E rho w H Q r) : Post u' E rho w H Q r := by
  have back : ∀ {rho' : Nat → Addr} {w' : W} {H' : Hp}, Ext u rho w H rho' w' H' → RW u' rho' w' H' → RW u rho' w' H' := fun {rho' w' H'} ex r' =>
    r'.to e.symm (fun p hp => ex.tups.code _ _ (r0.code p hp)) (by rw [h0.1, h0.2]; exact .nil)
  cases r with
  | ok d w' => exact fun rho' H' v ex r' rv => h rho' H' v ex.to (back ex.to r') (rv.to e.symm)
  | ex c p w' =>
    intro rho' H' oe ex r' pk
    rw [e.cl]
    exact h rho' H' oe ex.to (back ex.to r') (pk.to e.symm)
  | bad => exact h
end
/-! ### the lambda -/
/-- c(e), c the closure in slot i -/
def mCl (i : Nat) (st : FN) (a : M) : M := fun s w => match nth s i with
  | .fn => (match a s w with
    | .ok d w1 => st [d] w1
    | .ex c p w => .ex c p w
    | .bad => .bad)
  | _ => .bad
def closE (s : S) (j : Nat) (body : M) : FN := fun ds w => match ds with
  | [x] => body (sset s j x) w
  | _ => .bad
/-- x(e, lambda p: body) -/
def mLam1 (G : FN → FN) (a : M) (j : Nat) (body : M) : M := fun s w => match a s w with
  | .ok d w1 => bif allB' notFn s then G (closE s j body) [d] w1 else .bad
  | .ex c p w => .ex c p w
  | .bad => .bad
def fDef2 (kx : Nat) (B : FN → MS) : FN → FN := fun st ds w => match ds with
  | [d] => (match B st (d :: .fn :: List.replicate kx .no) w with
    | .rt d w1 => .ok d w1
    | .nx _ w1 => .ok .non w1
    | .ex c p w => .ex c p w
    | _ => .bad)
  | _ => .bad
/-- what a closure's reading tl has from st -/
def ClosOk (u : U) (cs : S) (cσ : L2.St) (st : FN) (tl : V → Hp → VK → Prop) : Prop := ∀ rho w H d v Q, RW u rho w H → SS u rho w.n H cs cσ → RV u rho w.n H d v → Post u E0 rho w H Q (st [d] w) → tl v H Q
def TTm (u : U) (G : FN → FN) : (V → Hp → VK → Prop) → V → Hp → VK → Prop := fun tl y H Q => ∃ rho w d st cs cσ, RW u rho w H ∧ RV u rho w.n H d y ∧ SS u rho w.n H cs cσ ∧ allB' notFn cs = true ∧ ClosOk u cs cσ st tl ∧ Post u E0 rho w H Q (G st [d] w)
section
variable {X : Cx} {u : U} {e : Expr} {ma mb : M} {G : FN → FN} {j : Nat}
theorem se_lamcall (h : PE X e (tLam1 u.T (TTm u G) (tM u E0 ma) (tM u E0 mb) j)) : PE X e (tM u E0 (mLam1 G ma j mb)) := by
  refine h.imp fun σ H Q ⟨rho, s, w, r, Z, q⟩ => ?_
  refine tM_then r Z ?_
  unfold mLam1 at q
  revert q
  cases ma s w with
  | bad => exact id
  | ex c p w1 => exact id
  | ok d w1 =>
    intro q rho1 H1 y e1 r1 Z1 rv
    dsimp only at q
    obtain ⟨hb, q⟩ := bbeq q
    refine ⟨r1.tabs, fun H2 eN T2 => ?_⟩
    obtain ⟨r2, e2⟩ := r1.extN eN T2
    refine ⟨rho1, w1, d, _, s, σ, r2, e2.rv rv, Z1.mono (Nat.le_refl _) (fun _ _ => rfl) e2.tups, hb, ?_, q.to r (e1.trans r e2)⟩
    intro rho' w' H' d' v' Q' r' Z' rv' q'
    exact ⟨rho', sset s j d', w', r', Z'.set rv' j, q'⟩
/-- the def that gets the closure -/
theorem gives2_of {Ng : List Str} {x : Str} {sg : Scope} {g : Addr} {cdg : Value} {bg : List Stmt} {a q : Str} {kx : Nat} {B : FN → MS} (hP : X.prog = u.P) (hW : X.w = u.w) (hK : X.K = u.K) (h0 : u.cs = [] ∧ u.cσ = []) (hNl : Ng.length = 2 + kx)
    (hB : ∀ (s : Shared) (H : Hp) (u' : U) (st : FN), UEq u u' →
      (∀ (p1 p2 : Pos) (ea : Expr) (m : M), PE (cxOf C8.CX0 X.prog X.w X.K X.mg X.base Ng x sg g cdg X.A X.stack s H C8.E0).nox ea (tM u' E0 m) →
        starEach [ea] (cxOf C8.CX0 X.prog X.w X.K X.mg X.base Ng x sg g cdg X.A X.stack s H C8.E0).nox.env = (false, eval ea (cxOf C8.CX0 X.prog X.w X.K X.mg X.base Ng x sg g cdg X.A X.stack s H C8.E0).nox.env) :: starEach [] (cxOf C8.CX0 X.prog X.w X.K X.mg X.base Ng x sg g cdg X.A X.stack s H C8.E0).nox.env →
        PE (cxOf C8.CX0 X.prog X.w X.K X.mg X.base Ng x sg g cdg X.A X.stack s H C8.E0).nox (.Call (.Name a p1) [ea] [] p2) (tM u' E0 (mCl 1 st m))) →
      PSs (cxOf C8.CX0 X.prog X.w X.K X.mg X.base Ng x sg g cdg X.A X.stack s H C8.E0).nox bg (tMS u' E0 (B st))) :
    Gives2 X Ng x sg g cdg bg a q (TTm u (fDef2 kx B)) := by
  intro f c' s H Q y tl act hco ⟨rho, w, d, st, cs, cσ, r, rv, Zc, hcs, hcl, hq⟩
  have eU : UEq u { u with fnA := f, C := (c', q) :: u.C, cs := cs, cσ := cσ } := ⟨rfl, rfl, rfl, rfl, rfl, rfl, rfl⟩
  generalize hu' : ({ u with fnA := f, C := (c', q) :: u.C, cs := cs, cσ := cσ } : U) = u' at eU
  have uf : u'.fnA = f := by subst hu'; rfl
  have uC : u'.C = (c', q) :: u.C := by subst hu'; rfl
  have us : u'.cs = cs := by subst hu'; rfl
  have uσ : u'.cσ = cσ := by subst hu'; rfl
  have r' : RW u' rho w H := r.to eU (fun p hp => by
    rw [uC] at hp
    rcases List.mem_cons.mp hp with rfl | hp
    · exact hco
    · exact r.code p hp) (by rw [us, uσ]; exact Zc.to eU hcs)
  refine ⟨_, hB s H u' st eU fun p1 p2 ea m he hs => ?_, ?_⟩
  · refine (act p1 p2 ea _ he hs).imp fun σZ HZ Q' ⟨rz, sz, wz, Rz, Zz, qz⟩ => ?_
    unfold mCl at qz
    rcases Zz.get 1 with (h1 | ⟨h1, h2⟩) | ⟨v, h1, h2⟩
    · rw [h1] at qz; exact qz.elim
    · rw [h1] at qz
      dsimp only at qz
      refine ⟨by rw [h2, uf], tM_then Rz Zz ?_⟩
      revert qz
      cases m sz wz with
      | bad => exact id
      | ex c p w1 => exact id
      | ok d1 w1 =>
        intro qz rho1 H1 v1 e1 R1 Z1 rv1
        have qz' : Post u' E0 rho1 w1 H1 Q' (st [d1] w1) := Post.to qz Rz e1
        refine ⟨R1.code (c', q) (by rw [uC]; exact List.mem_cons_self), ?_⟩
        have back : ∀ {rho' : Nat → Addr} {w' : W} {H' : Hp}, RW u' rho' w' H' → RW u rho' w' H' := fun {rho' w' H'} rr =>
          rr.to eU.symm (fun p hp => rr.code p (by rw [uC]; exact List.mem_cons_of_mem _ hp)) (by rw [h0.1, h0.2]; exact .nil)
        have Zs : SS u rho1 w1.n H1 cs cσ := by
          have := R1.cl
          rw [us, uσ] at this
          exact this.to eU.symm hcs
        refine hcl rho1 w1 H1 d1 v1 Q' (back R1) Zs (rv1.to eU.symm) ?_
        -- the promise under u
        revert qz'
        cases st [d1] w1 with
        | bad => exact id
        | ok d2 w2 =>
          exact fun qz' rho2 H2 v2 e2 R2 rv2 => qz' rho2 H2 v2 e2.to (R2.to eU (fun p hp => by
            exact e2.tups.code _ _ (R1.code p hp)) (R1.cl.mono e2.n e2.rh e2.tups)) (rv2.to eU)
        | ex c p w2 =>
          intro qz' rho2 H2 oe e2 R2 pk
          have := qz' rho2 H2 oe e2.to (R2.to eU (fun p hp => by
            exact e2.tups.code _ _ (R1.code p hp)) (R1.cl.mono e2.n e2.rh e2.tups)) (pk.to eU)
          exact this
    · revert qz h2
      cases nth sz 1 <;> intro qz h2 <;> first | exact qz.elim | cases h2
  · have hq' := hq
    unfold fDef2 at hq'
    dsimp only at hq'
    refine ⟨rho, d :: .fn :: List.replicate kx .no, w, r', ?_, ?_⟩
    · have hl : Ng.length - [y, V.ref f].length = kx := by
        show Ng.length - 2 = kx
        omega
      unfold L2.start
      rw [hl]
      refine .cons (rv.to eU) ?_
      have z : SS u' rho w.n H (.fn :: ([] ++ List.replicate kx .no)) (some (.ref u'.fnA) :: (([] : List V).map some ++ List.replicate kx none)) := .fn (SS.start .nil kx)
      rw [uf] at z
      exact z
    · revert hq'
      have backE : ∀ {rho' : Nat → Addr} {w' : W} {H' : Hp}, RW u' rho' w' H' → RW u rho' w' H' := fun {rho' w' H'} rr =>
        rr.to eU.symm (fun p hp => rr.code p (by rw [uC]; exact List.mem_cons_of_mem _ hp)) (by rw [h0.1, h0.2]; exact .nil)
      cases B st (d :: .fn :: List.replicate kx .no) w with
      | rt d1 w1 => exact fun hq' rho1 H1 v1 e1 R1 rv1 => hq' rho1 H1 v1 e1.to (backE R1) (rv1.to eU.symm)
      | nx s1 w1 => exact fun hq' rho1 H1 σ1 e1 R1 _ => hq' rho1 H1 .non e1.to (backE R1) .non
      | ex c p w1 => exact fun hq' rho1 H1 oe e1 R1 pk => (hq' rho1 H1 oe e1.to (backE R1) (pk.to eU.symm)).elim
      | bk s1 w1 => exact fun hq' => hq'.elim
      | ct s1 w1 => exact fun hq' => hq'.elim
      | bad => exact fun hq' => hq'.elim
end
end Ev

set_option Elab.async false
set_option linter.all false
set_option maxRecDepth 100000
set_option maxHeartbeats 4000000
/-! EvZ: dicts by texts, constant dicts, join, list(range(..)), comprehensions of two clauses. -/
namespace Ev
open PySem PySem.Spec PyProof.Rows L2
section
variable {X : Cx} {u : U} {E : XK} {rho : Nat → Addr} {w : W} {H : Hp} {s : S} {σ : L2.St} {e a b c : Expr} {ma mb mc : M} {mas : MA}
/-! ### d[k], k a text -/
def rIxS : R2 := fun x y H Q => ∃ (b : Addr) (z : Str) (kvs : List (Key × V)) (v : V), x = .ref b ∧ y = .str z ∧ H b = some (.dK kvs) ∧ valV kvs (.inr z) = some v ∧ Q v H
theorem ix_dictS (hu : X.A.units + 64 < cLine) : IxR X rIxS := by
  intro value slice pins s σ H x y v uv Q I rx ry h hs
  obtain ⟨b, z, kvs, vv, rfl, rfl, hb, hv, q⟩ := h
  obtain rfl : v = Value.ref b := rx
  obtain ⟨_, _, vs, _, dd⟩ := dk_of I.hok hb
  have g : DGet H b (.str z) (some vv) := by rw [← hv]; exact DGet.k (k := .inr z) hb
  exact tail_any dd.typeIs slot_dict_getitem.lookup (d_getItem (by omega) I g ry fun w' s' I' rw' => ⟨vv, H, I', rw', q⟩) hs
def fIxB : F2 := fun x y w => match y with
  | .str k => (match x with
    | .ref i => (match w.get i with
      | some (.sd l) => (match lookS k l with
        | some d => .ok d w
        | none => .bad)
      | _ => .bad)
    | _ => .bad)
  | _ => fIxA x y w
theorem fits_ixB : Fits2 u E (fun x y H Q => ((rIxL u.K x y H Q ∨ rIxT u.K x y H Q) ∨ rIxK u x y H Q) ∨ rIxS x y H Q) fIxB := by
  intro rho w H d v d' v' Q r rv rv' q
  unfold fIxB at q
  split at q
  · rename_i k
    cases rv' with
    | str z hz =>
    split at q
    · rename_i i
      split at q
      · rename_i l e0
        cases rv with
        | ref _ hi ha =>
          subst ha
          obtain ⟨kvs, hat, rel, _⟩ := r.obj _ _ e0
          have hl := rel.look hz
          revert hl q
          cases lookS k l with
          | none => exact fun q _ => q.elim
          | some d => exact fun q ⟨vv, h1, h2⟩ => .inr ⟨_, z, kvs, vv, rfl, rfl, hat, h1, q rho H _ .refl r h2⟩
      · exact q.elim
    · exact q.elim
  · exact .inl (fits_ixA rho w H _ _ _ _ Q r rv rv' q)
/-! ### constant dicts by texts -/
structure KDOk (u : U) (nk : Nat) (kdT : Nat → List (List Nat × D)) (kdN : Nat → List (List Nat)) : Prop where
  lay : ∀ k, k < nk → ∃ es n, u.K.lookup (u.kd k) = some ⟨.type "dict", none, .dict es n, #[]⟩ ∧ PySem.W.KeysLit u.w.params es.toList ∧ (u.kd k == sysModules) = false
  hit : ∀ k, k < nk → ∀ p ∈ kdT k, ∃ uu v, PySem.W.nsIn u.K (u.kd k) ⟨p.1.toArray⟩ = some (some uu) ∧ RelV v uu ∧ ∀ rho n H, RV u rho n H p.2 v
  miss : ∀ k, k < nk → ∀ s ∈ kdN k, PySem.W.nsIn u.K (u.kd k) ⟨s.toArray⟩ = some none
def rInKD (K : PySem.W.Frag) (w : World) (g : Bool → Bool) : R2 := fun x y H Q => ∃ (z : Str) (p : Addr) (es : Array DictEntry) (n : Nat) (r : Option Value), x = .str z ∧ y = .ref p ∧ K.lookup p = some ⟨.type "dict", none, .dict es n, #[]⟩ ∧ PySem.W.KeysLit w.params es.toList ∧ (p == sysModules) = false ∧
  PySem.W.nsIn K p z = some r ∧ Q (.bl (g r.isSome)) H
theorem op_inKD : OpR X (compareOp .In) (rInKD X.K X.w fun b => b) := by
  intro pins s σ H x y v uv Q I rx ry h
  obtain ⟨z, p, es, n, r, rfl, rfl, hl, hk, hs, hn, q⟩ := h
  obtain rfl : uv = Value.ref p := ry
  obtain ⟨t, rfl⟩ := rx
  have hm := PySem.W.mapOf_K (prog := X.prog) (w := X.w) I.kIn hl hk
  refine wpAny_in_of (strKind_is X.prog X.w z t) hs hm ?_
  rw [PySem.W.find_K hl hn]
  exact ⟨.bl _, H, I.tok _, rfl, q⟩
theorem op_notInKD : OpR X (compareOp .NotIn) (rInKD X.K X.w fun b => !b) := by
  intro pins s σ H x y v uv Q I rx ry h
  obtain ⟨z, p, es, n, r, rfl, rfl, hl, hk, hs, hn, q⟩ := h
  obtain rfl : uv = Value.ref p := ry
  obtain ⟨t, rfl⟩ := rx
  have hm := PySem.W.mapOf_K (prog := X.prog) (w := X.w) I.kIn hl hk
  refine wpAny_notIn_of (strKind_is X.prog X.w z t) hs hm ?_
  rw [PySem.W.find_K hl hn]
  exact ⟨.bl _, H, I.tok _, rfl, q⟩
def memS (s : List Nat) : List (List Nat) → Bool
  | [] => false
  | t :: r => bif lnEq t s then true else memS s r
theorem memS_ok {s : List Nat} : ∀ {l : List (List Nat)}, memS s l = true → s ∈ l
  | [], h => by cases h
  | t :: r, h => by
    have h' : (bif lnEq t s then true else memS s r) = true := h
    rw [lnEq_iff] at h'
    by_cases e : t = s
    · rw [e]; exact List.mem_cons_self
    · rw [decide_eq_false e] at h'
      exact List.mem_cons_of_mem _ (memS_ok h')
theorem lookS_mem {k : List Nat} : ∀ {l : List (List Nat × D)} {d : D}, lookS k l = some d → (k, d) ∈ l
  | [], _, h => by cases h
  | p :: r, d, h => by
    have h' : (bif lnEq p.1 k then some p.2 else lookS k r) = some d := h
    rw [lnEq_iff] at h'
    by_cases e : p.1 = k
    · rw [decide_eq_true e] at h'
      cases h'
      rw [← e]; exact List.mem_cons_self
    · rw [decide_eq_false e] at h'
      exact List.mem_cons_of_mem _ (lookS_mem h')
def fInKB (nk : Nat) (kdT : Nat → List (List Nat × D)) (kdN : Nat → List (List Nat)) (g : Bool → Bool) : F2 := fun x y w => match y with
  | .kd k => (match x with
    | .str z => bif Nat.blt k nk then (match lookS z (kdT k) with
      | some _ => .ok (.bl (g true)) w
      | none => bif memS z (kdN k) then .ok (.bl (g false)) w else .bad) else .bad
    | _ => .bad)
  | _ => fInAB g x y w
theorem fits_inKB {nk : Nat} {kdT : Nat → List (List Nat × D)} {kdN : Nat → List (List Nat)} (O : KDOk u nk kdT kdN) {g g' : Bool → Bool} {neg : Bool} (hg : ∀ b, (if neg then !b else b) = g b) (hg' : ∀ b, g' b = g b) :
    Fits2 u E (fun x y H Q => (rIn u.K neg x y H Q ∨ rInK u g' x y H Q) ∨ rInKD u.K u.w g' x y H Q) (fInKB nk kdT kdN g) := by
  intro rho w H d v d' v' Q r rv rv' q
  unfold fInKB at q
  split at q
  · rename_i k
    cases rv' with
    | kd _ ek =>
    split at q
    · rename_i z
      cases rv with
      | str x hx =>
      obtain ⟨hb, q⟩ := bbeq q
      have hk := nat_blt hb
      obtain ⟨es, n, l1, l2, l3⟩ := O.lay k hk
      have hxe : x = ⟨z.toArray⟩ := str_of hx
      split at q
      · rename_i d0 e0
        obtain ⟨uu, v, h1, h2, h3⟩ := O.hit k hk _ (lookS_mem e0)
        refine .inr ⟨x, _, es, n, some uu, rfl, rfl, by rw [ek]; exact l1, l2, by rw [ek]; exact l3, by rw [ek, hxe]; exact h1, ?_⟩
        rw [hg']
        exact q rho H _ .refl r (.bl _)
      · obtain ⟨hb2, q⟩ := bbeq q
        refine .inr ⟨x, _, es, n, none, rfl, rfl, by rw [ek]; exact l1, l2, by rw [ek]; exact l3, by rw [ek, hxe]; exact O.miss k hk _ (memS_ok hb2), ?_⟩
        rw [hg']
        exact q rho H _ .refl r (.bl _)
    · exact q.elim
  · exact .inl (fits_inA_core hg hg' rho w H _ _ _ _ Q r rv rv' q)
def fIxC (nk : Nat) (kdT : Nat → List (List Nat × D)) : F2 := fun x y w => match x with
  | .kd k => (match y with
    | .str z => bif Nat.blt k nk then (match lookS z (kdT k) with
      | some d => .ok d w
      | none => .bad) else .bad
    | _ => .bad)
  | _ => fIxB x y w
theorem fits_ixC {nk : Nat} {kdT : Nat → List (List Nat × D)} {kdN : Nat → List (List Nat)} (O : KDOk u nk kdT kdN) :
    Fits2 u E (fun x y H Q => (((rIxL u.K x y H Q ∨ rIxT u.K x y H Q) ∨ rIxK u x y H Q) ∨ rIxS x y H Q) ∨ rIxD u.K u.w x y H Q) (fIxC nk kdT) := by
  intro rho w H d v d' v' Q r rv rv' q
  unfold fIxC at q
  split at q
  · rename_i k
    cases rv with
    | kd _ ek =>
    split at q
    · rename_i z
      cases rv' with
      | str x hx =>
      obtain ⟨hb, q⟩ := bbeq q
      have hk := nat_blt hb
      obtain ⟨es, n, l1, l2, l3⟩ := O.lay k hk
      have hxe : x = ⟨z.toArray⟩ := str_of hx
      split at q
      · rename_i d0 e0
        obtain ⟨uu, v, h1, h2, h3⟩ := O.hit k hk _ (lookS_mem e0)
        exact .inr ⟨_, x, v, rfl, rfl, ⟨es, n, uu, by rw [ek]; exact l1, l2, by rw [ek, hxe]; exact h1, h2⟩, q rho H _ .refl r (h3 _ _ _)⟩
      · exact q.elim
    · exact q.elim
  · exact .inl (fits_ixB rho w H _ _ _ _ Q r rv rv' q)
theorem ix_all (hK : X.K = u.K) (hP : X.prog = u.P) (hW : X.w = u.w) (hu : X.A.units + 64 < cLine) (h1 : IxR X fun x y H Q => rIxL u.K x y H Q ∨ rIxT u.K x y H Q) :
    IxR X (fun x y H Q => (((rIxL u.K x y H Q ∨ rIxT u.K x y H Q) ∨ rIxK u x y H Q) ∨ rIxS x y H Q) ∨ rIxD u.K u.w x y H Q) := by
  intro value slice pins s σ H x y v uv Q I rx ry h hs
  rcases h with ((h | h) | h) | h
  · exact h1 value slice pins s σ H x y v uv Q I rx ry h hs
  · exact ix_dictK hK hP hW hu value slice pins s σ H x y v uv Q I rx ry h hs
  · exact ix_dictS hu value slice pins s σ H x y v uv Q I rx ry h hs
  · rw [← hK, ← hW] at h
    exact ix_kdict value slice pins s σ H x y v uv Q I rx ry h hs
/-! ### list(range(a, b)) -/
def rgD (lo : Int) : Nat → List D
  | 0 => []
  | k + 1 => .int lo :: rgD (Int.add lo 1) k
theorem rgD_ok {n : Nat} : ∀ (k : Nat) (lo : Int), RVs u rho n H (rgD lo k) ((List.range k).map fun i => V.int (lo + (i : Nat)))
  | 0, lo => .nil
  | k + 1, lo => by
    rw [List.range_succ_eq_map, List.map_cons, List.map_map]
    have h0 : lo + ((0 : Nat) : Int) = lo := by omega
    rw [h0]
    refine .cons (.int _) ?_
    have : ((fun i => V.int (lo + (i : Nat))) ∘ Nat.succ) = fun i : Nat => V.int (Int.add lo 1 + (i : Nat)) := by
      funext i
      show V.int (lo + ((i + 1 : Nat) : Int)) = V.int (lo + 1 + (i : Int))
      congr 1
      omega
    rw [this]
    exact rgD_ok k _
def mListRg (a b : M) : M := fun s w => match a s w with
  | .ok (.int i) w1 => (match b s w1 with
    | .ok (.int j) w2 => bif (bif okR i then okR j else false) then bif Nat.ble (Int.toNat (Int.sub j i)) 100000 then alloc (.lst (rgD i (Int.toNat (Int.sub j i)))) w2 else .bad else .bad
    | .ex c p w => .ex c p w
    | _ => .bad)
  | .ex c p w => .ex c p w
  | _ => .bad
theorem se_listRg (h : PE X e (tLstRg (tRg2 (tM u E ma) (tM u E mb)))) : PE X e (tM u E (mListRg ma mb)) := by
  refine h.imp fun σ H Q ⟨rho, s, w, r, Z, q⟩ => ?_
  refine tM_then r Z ?_
  unfold mListRg at q
  revert q
  cases ma s w with
  | bad => exact id
  | ex c p w1 => exact id
  | ok d w1 =>
    intro q rho1 H1 x e1 r1 Z1 rx
    cases d <;> try exact q.elim
    rename_i i
    dsimp only at q
    cases rx
    refine tM_then r1 Z1 ?_
    revert q
    cases mb s w1 with
    | bad => exact id
    | ex c p w2 => exact fun q => PostX.to q r e1
    | ok d2 w2 =>
      intro q rho2 H2 y e2 r2 Z2 ry
      cases d2 <;> try exact q.elim
      rename_i j
      dsimp only at q
      cases ry
      obtain ⟨hb, q⟩ := bbeq q
      obtain ⟨g1, g2⟩ := bif_and hb
      obtain ⟨h1, h2⟩ := okR_ok g1
      obtain ⟨h3, h4⟩ := okR_ok g2
      obtain ⟨hb2, q⟩ := bbeq q
      have hb3 : (j - i).toNat ≤ 100000 := Nat.le_of_ble_eq_true hb2
      exact ⟨i, j, rfl, rfl, ⟨h1, h2, h3, h4, by omega⟩, fits_new r2 (rgD_ok _ _) (q.to r (e1.trans r e2))⟩
end
theorem plain_done {it : I} (h : it.plain = true) (w : W) : it.done w = w := by
  cases it with
  | dks r own l =>
    cases own with
    | true => cases h
    | false => rfl
  | _ => rfl
section
variable {X : Cx} {u : U} {E : XK} {e : Expr} {mi mi1 : MI} {g g1 : GP} {t t1 : TG} {vs vs1 : List Nat} {mt mt1 me : M}
theorem se_lc2 (hK : u.K = X.K) (hg : GOk X.K vs t g) (hg1 : GOk X.K vs1 t1 g1) (h : PE X e (tLc2 (tMI u E mi) t (tMT u E0 mt) (tMI u E0 mi1) t1 (tMT u E0 mt1) (tM u E0 me) vs vs1)) : PE X e (tM u E (mLc2 mi g mt mi1 g1 mt1 me vs vs1)) := by
  refine h.imp fun σ H Q ⟨rho, s, w, r, Z, q⟩ => ?_
  refine ⟨rho, s, w, r, Z, ?_⟩
  unfold mLc2 at q
  revert q
  cases mi s w with
  | bad => exact id
  | ex c p w1 => exact id
  | ok it w1 =>
    intro q rho1 H1 J e1 r1 hit hdn D hD
    obtain ⟨rD, eD⟩ := r1.tup (o := .lst []) hD
    have Z1 : SS u rho1 w1.n H1 (wipeD s vs) (L2.wipe σ vs) := (Z.wipe vs).mono e1.n (fun i hi => e1.rh i hi) e1.tups
    have ne1 : ∀ i, i < w1.n → rho1 i ≠ D := fun i hi z => r1.all i hi (by rw [z]; exact hD)
    dsimp only at q
    refine ⟨fun i m H' => ∃ rho2 w2 acc accV, Ext u rho1 w1 H1 rho2 w2 H' ∧ RW u rho2 w2 H' ∧ H' D = some (.lst accV) ∧ RVs u rho2 w2.n H' acc.reverse accV ∧ (∀ i, i < w2.n → rho2 i ≠ D) ∧
      (match lc2From it g mt mi1 g1 mt1 me vs1 (wipeD s vs) m i acc w2 with | .ok acc w3 => Post u E rho w H Q (alloc (.lst acc.reverse) w3) | .bad => False),
      ⟨10000, rho1, w1, [], [], eD, rD, upd_same, .nil, ne1, ?_⟩, ?_⟩
    · revert q
      cases lc2From it g mt mi1 g1 mt1 me vs1 (wipeD s vs) 10000 0 [] w1 with
      | ok acc w3 => exact id
      | bad => exact id
    · rintro i m H2 ⟨rho2, w2, acc, accV, e12, r2, hA, rA, ne2, q2⟩
      have Z2 : SS u rho2 w2.n H2 (wipeD s vs) (L2.wipe σ vs) := Z1.mono e12.n e12.rh e12.tups
      cases m with
      | zero => exact q2.elim
      | succ k =>
        have hi := hit rho2 w2 H2 i e12.to0 r2
        unfold lc2From at q2
        revert hi q2
        cases it.at w2 i with
        | bad => exact fun _ q2 => q2.elim
        | stop =>
          intro hi q2
          refine .inl ⟨hi, ?_⟩
          have eb0 : Ext u rho w H rho2 w2 H2 := e1.trans r e12
          obtain ⟨r2', eb, en⟩ := hdn rho2 w2 H2 eb0 e12 r2
          dsimp only at q2
          have ne2' : ∀ i, i < (it.done w2).n → rho2 i ≠ D := by rw [en]; exact ne2
          have rA' : RVs u rho2 (it.done w2).n H2 acc.reverse accV := by rw [en]; exact rA
          generalize it.done w2 = w2' at q2 r2' eb ne2' rA'
          unfold alloc at q2
          obtain ⟨hb, q2⟩ := bbeq q2
          have hH : ∀ a, H a ≠ none → (∀ ps, H a ≠ some (.tbl ps)) → (∀ i, i < w.n → rho i ≠ a) → a ≠ D := fun a ha h0 hn z => by
            subst z
            exact ha ((e1.oth _ ha h0 hn).1.symm.trans hD)
          obtain ⟨r3, e3⟩ := adopt_ok (o := .lst acc.reverse) eb r2' hH (by rw [hA]; simp) ne2' hb ⟨accV, hA, rA'.mono (Nat.le_succ _) (fun i hi => rhoN_lt hi) (.refl _)⟩
          exact q2 _ H2 _ e3 r3 (.ref _ (Nat.lt_succ_self _) rhoN_at.symm)
        | it d =>
          intro ⟨hgo, hy⟩ q2
          dsimp only at q2
          cases hgd : g d (wipeD s vs) with
          | none => rw [hgd] at q2; exact q2.elim
          | some s3 =>
            rw [hgd] at q2
            dsimp only at q2
            refine .inr ⟨hgo, fun H' => ∃ rho2 w2 acc accV, Ext u rho1 w1 H1 rho2 w2 H' ∧ RW u rho2 w2 H' ∧ H' D = some (.lst accV) ∧ RVs u rho2 w2.n H' acc.reverse accV ∧ (∀ i, i < w2.n → rho2 i ≠ D) ∧
              (match lc2From it g mt mi1 g1 mt1 me vs1 (wipeD s vs) k (i + 1) acc w2 with | .ok acc w3 => Post u E rho w H Q (alloc (.lst acc.reverse) w3) | .bad => False), fun H' h' => ⟨k, Nat.lt_succ_self _, h'⟩, fun x H3 yl => ?_⟩
            obtain ⟨r3, e3, rv⟩ := hy x H3 yl
            have Z3 := Z2.mono e3.n e3.rh e3.tups
            refine hg u rho2 w2.n H3 d x (wipeD s vs) (L2.wipe σ vs) _ hK rv Z3 ?_
            rw [hgd]
            intro σ4 Z4 hw4
            have nD : H2 D ≠ none := by rw [hA]; simp
            have nT : ∀ ps, H2 D ≠ some (.tbl ps) := fun ps z => by rw [hA] at z; cases z
            refine ⟨hw4.trans (wipe_wipe σ vs), ?_⟩
            refine tMT_then r3 Z4 ?_
            revert q2
            cases mt s3 w2 with
            | bad => exact id
            | ex c p w5 => exact fun q2 => q2.elim
            | ok dt w5 =>
              intro q2
              cases dt <;> try exact q2.elim
              rename_i b
              intro rho5 H5 e5 r5 Z5
              have e35 := e3.trans r2 e5
              obtain ⟨eD5, nD5⟩ := e35.oth D nD nT ne2
              cases b with
              | false => exact ⟨rho5, w5, acc, accV, e12.trans r1 e35, r5, eD5.trans hA, e35.rvs rA, nD5, q2⟩
              | true =>
                dsimp only at q2
                show tMI u E0 mi1 σ4 H5 _
                refine ⟨rho5, s3, w5, r5, Z5, ?_⟩
                revert q2
                cases mi1 s3 w5 with
                | bad => exact id
                | ex c p w6 => exact fun q2 => q2.elim
                | ok it1 w6 =>
                  intro q2 rho6 H6 J1 e6 r6 hit1 hdn1
                  dsimp only at q2
                  have e36 := e35.trans r2 e6
                  obtain ⟨eD6, nD6⟩ := e36.oth D nD nT ne2
                  cases hpl : (bif it1.plain then Nat.ble acc.length 100000 else false) with
                  | false => rw [hpl] at q2; exact q2.elim
                  | true =>
                    rw [hpl] at q2
                    dsimp only [cond_true] at q2
                    obtain ⟨pl1, pl2⟩ := bif_and hpl
                    have pl2' := Nat.le_of_ble_eq_true pl2
                    have Z6 : SS u rho6 w6.n H6 s3 σ4 := Z5.mono e6.n e6.rh e6.tups
                    have Z6w : SS u rho6 w6.n H6 (wipeD s3 vs1) (L2.wipe σ4 vs1) := Z6.wipe vs1
                    refine ⟨fun j k' H' => ∃ rho7 w7 acc accV, Ext u rho1 w1 H1 rho7 w7 H' ∧ Ext0 u rho6 w6 H6 rho7 w7 H' ∧ RW u rho7 w7 H' ∧ H' D = some (.lst accV) ∧ RVs u rho7 w7.n H' acc.reverse accV ∧ (∀ i, i < w7.n → rho7 i ≠ D) ∧ acc.length + k' ≤ 110000 ∧
                      (match lcFrom it1 g1 mt1 me (wipeD s3 vs1) k' j acc w7 with
                        | .ok acc2 w3 => (match lc2From it g mt mi1 g1 mt1 me vs1 (wipeD s vs) k (i + 1) acc2 w3 with | .ok acc w3 => Post u E rho w H Q (alloc (.lst acc.reverse) w3) | .bad => False)
                        | .bad => False),
                      ⟨10000, rho6, w6, acc, accV, e12.trans r1 e36, ⟨Nat.le_refl _, fun _ _ => rfl, .refl _, fun _ _ h _ => ⟨h, rfl⟩⟩, r6, eD6.trans hA, e36.rvs rA, nD6, by omega, ?_⟩, ?_⟩
                    · revert q2
                      cases lcFrom it1 g1 mt1 me (wipeD s3 vs1) 10000 0 acc w6 with
                      | ok acc2 w3 =>
                        intro q2
                        dsimp only at q2 ⊢
                        revert q2
                        cases lc2From it g mt mi1 g1 mt1 me vs1 (wipeD s vs) k (Nat.succ i) acc2 w3 with
                        | ok a w => exact id
                        | bad => exact id
                      | bad => exact id
                    · rintro j k' H7 ⟨rho7, w7, acc, accV, e17, e67, r7, hA7, rA7, ne7, hm7, q7⟩
                      have Z7 : SS u rho7 w7.n H7 (wipeD s3 vs1) (L2.wipe σ4 vs1) := Z6w.mono e67.n e67.rh e67.tups
                      cases k' with
                      | zero => exact q7.elim
                      | succ k2 =>
                        have hi1 := hit1 rho7 w7 H7 j e67 r7
                        unfold lcFrom at q7
                        revert hi1 q7
                        cases it1.at w7 j with
                        | bad => exact fun _ q7 => q7.elim
                        | stop =>
                          intro hi1 q7
                          dsimp only at q7
                          rw [plain_done pl1] at q7
                          exact .inl ⟨hi1, rho7, w7, acc, accV, e17, r7, hA7, rA7, ne7, q7⟩
                        | it d7 =>
                          intro ⟨hgo7, hy7⟩ q7
                          dsimp only at q7
                          cases hgd7 : g1 d7 (wipeD s3 vs1) with
                          | none => rw [hgd7] at q7; exact q7.elim
                          | some s8 =>
                            rw [hgd7] at q7
                            dsimp only at q7
                            refine .inr ⟨hgo7, fun H' => ∃ rho7 w7 acc accV, Ext u rho1 w1 H1 rho7 w7 H' ∧ Ext0 u rho6 w6 H6 rho7 w7 H' ∧ RW u rho7 w7 H' ∧ H' D = some (.lst accV) ∧ RVs u rho7 w7.n H' acc.reverse accV ∧ (∀ i, i < w7.n → rho7 i ≠ D) ∧ acc.length + k2 ≤ 110000 ∧
                              (match lcFrom it1 g1 mt1 me (wipeD s3 vs1) k2 (j + 1) acc w7 with
                                | .ok acc2 w3 => (match lc2From it g mt mi1 g1 mt1 me vs1 (wipeD s vs) k (i + 1) acc2 w3 with | .ok acc w3 => Post u E rho w H Q (alloc (.lst acc.reverse) w3) | .bad => False)
                                | .bad => False), fun H' h' => ⟨k2, Nat.lt_succ_self _, h'⟩, fun x8 H8 yl8 => ?_⟩
                            obtain ⟨r8, e8, rv8⟩ := hy7 x8 H8 yl8
                            have Z8 := Z7.mono e8.n e8.rh e8.tups
                            refine hg1 u rho7 w7.n H8 d7 x8 (wipeD s3 vs1) (L2.wipe σ4 vs1) _ hK rv8 Z8 ?_
                            rw [hgd7]
                            intro σ9 Z9 hw9
                            have nD7 : H7 D ≠ none := by rw [hA7]; simp
                            have nT7 : ∀ ps, H7 D ≠ some (.tbl ps) := fun ps z => by rw [hA7] at z; cases z
                            refine ⟨hw9.trans (wipe_wipe σ4 vs1), ?_⟩
                            refine tMT_then r8 Z9 ?_
                            revert q7
                            cases mt1 s8 w7 with
                            | bad => exact id
                            | ex c p w9 => exact fun q7 => q7.elim
                            | ok dt9 w9 =>
                              intro q7
                              cases dt9 <;> try exact q7.elim
                              rename_i b9
                              intro rho9 H9 e9 r9 Z9'
                              have e89 := e8.trans r7 e9
                              obtain ⟨eD9, nD9⟩ := e89.oth D nD7 nT7 ne7
                              cases b9 with
                              | false => exact ⟨rho9, w9, acc, accV, e17.trans r1 e89, e67.trans r6 e89.to0, r9, eD9.trans hA7, e89.rvs rA7, nD9, by omega, q7⟩
                              | true =>
                                dsimp only at q7
                                refine tM_then r9 Z9' ?_
                                revert q7
                                cases me s8 w9 with
                                | bad => exact id
                                | ex c p w10 => exact fun q7 => q7.elim
                                | ok y w10 =>
                                  intro q7 rho10 H10 v10 e10 r10 Z10 rv10
                                  have e8x := e89.trans r7 e10
                                  obtain ⟨eD10, nD10⟩ := e8x.oth D nD7 nT7 ne7
                                  have hA10 : H10 D = some (.lst accV) := eD10.trans hA7
                                  have rA10 := e8x.rvs rA7
                                  obtain ⟨r11, e11, tp⟩ := side_upd (l := accV ++ [v10]) (e17.trans r1 e8x) r10 hA10 nD10 hD
                                  have hz : accV.length < sizeLine := by
                                    have := rA10.length
                                    rw [List.length_reverse] at this
                                    rw [sizeLine_eq]
                                    omega
                                  have ex0 : Ext0 u rho6 w6 H6 rho10 w10 (L2.upd H10 D (.lst (accV ++ [v10]))) := by
                                    have a := e67.trans r6 e8x.to0
                                    refine ⟨a.n, a.rh, a.tups.trans tp, fun i l hl hk => ⟨(a.lock i l hl hk).1, ?_⟩⟩
                                    rw [upd_ne (nD6 i (r6.dom i _ hl))]
                                    exact (a.lock i l hl hk).2
                                  refine ⟨accV, hA10, hz, rho10, w10, y :: acc, accV ++ [v10], e11, ex0, r11, upd_same, ?_, nD10, by rw [List.length_cons]; omega, q7⟩
                                  rw [List.reverse_cons]
                                  exact (rA10.mono (Nat.le_refl _) (fun _ _ => rfl) tp).append (.cons (rv10.mono (Nat.le_refl _) (fun _ _ => rfl) tp) .nil)
end
/-! ### sep.join(..) -/
def strsOf : List D → Option (List (List Nat))
  | [] => some []
  | .str s :: r => (match strsOf r with
    | some l => some (s :: l)
    | none => none)
  | _ => none
def glueN (sep : List Nat) : List (List Nat) → List Nat → List Nat
  | [], acc => acc
  | p :: r, acc => glueN sep r (acc ++ sep ++ p)
def joinN (sep : List Nat) : List (List Nat) → List Nat
  | [] => []
  | x :: r => glueN sep r x
def lenS : List (List Nat) → Nat
  | [] => 0
  | x :: r => Nat.add x.length (lenS r)
def mJoin (a b : M) : M := fun s w => match a s w with
  | .ok (.str sep) w1 => (match b s w1 with
    | .ok (.ref i) w2 => (match wl w2 i with
      | some l => (match strsOf l with
        | some ss => bif Nat.ble (Nat.add (lenS ss) (Nat.mul ss.length sep.length)) 100000 then .ok (.str (joinN sep ss)) w2 else .bad
        | none => .bad)
      | none => .bad)
    | .ex c p w => .ex c p w
    | _ => .bad)
  | .ex c p w => .ex c p w
  | _ => .bad
section
variable {X : Cx} {u : U} {E : XK} {rho : Nat → Addr} {w : W} {H : Hp} {e : Expr} {ma mb : M}
theorem strsOf_ok {n : Nat} : ∀ {l : List D} {vs : List V} {ss : List (List Nat)}, RVs u rho n H l vs → strsOf l = some ss → ∃ ys : List Str, vs = ys.map V.str ∧ ys.map (·.cps.toList) = ss
  | [], _, _, .nil, h => by cases h; exact ⟨[], rfl, rfl⟩
  | d :: r, _, ss, .cons a t, h => by
    unfold strsOf at h
    split at h
    · rename_i hh; cases hh
    · rename_i s r' hh
      cases hh
      cases a with
      | str x hx =>
      cases e1 : strsOf r with
      | none => rw [e1] at h; cases h
      | some l' =>
        rw [e1] at h
        cases h
        obtain ⟨ys, h1, h2⟩ := strsOf_ok t e1
        exact ⟨x :: ys, by rw [h1]; rfl, by rw [List.map_cons, h2, hx]⟩
    · cases h
theorem glueN_ok (sep : Str) : ∀ (ys : List Str) (acc : Array Nat), (ys.foldl (fun acc p => acc ++ sep.cps ++ p.cps) acc).toList = glueN sep.cps.toList (ys.map (·.cps.toList)) acc.toList
  | [], acc => rfl
  | y :: r, acc => by
    rw [List.foldl_cons, glueN_ok sep r, List.map_cons]
    show glueN _ _ _ = glueN _ _ (acc.toList ++ sep.cps.toList ++ y.cps.toList)
    rw [Array.toList_append, Array.toList_append]
theorem joinN_ok (sep : Str) (ys : List Str) : (Txt.join sep ys).cps.toList = joinN sep.cps.toList (ys.map (·.cps.toList)) := by
  unfold Txt.join Builtin.Str.glued
  cases ys with
  | nil => rfl
  | cons y r => exact glueN_ok sep r y.cps
theorem lenS_ok : ∀ ys : List Str, lenS (ys.map (·.cps.toList)) = (ys.map (·.length)).sum
  | [] => rfl
  | y :: r => by
    rw [List.map_cons, List.map_cons, List.sum_cons, ← lenS_ok r]
    show Nat.add _ _ = _
    rw [Array.length_toList]; rfl
theorem se_join (hK : X.K = u.K) (h : PE X e (tM1 (fun x xs H Q => ∃ a p, ∃ ys : List Str, x = .str a ∧ xs = [.ref p] ∧ (SqL X.K H p (ys.map V.str) ∨ SqT X.K H p (ys.map V.str)) ∧
      (ys.map (·.length)).sum + ys.length * a.length ≤ 16777216 ∧ Q (.str (Txt.join a ys)) H) (tM u E ma) (tM u E mb))) : PE X e (tM u E (mJoin ma mb)) := by
  refine h.imp fun σ H Q ⟨rho, s, w, r, Z, q⟩ => ?_
  refine tM_then r Z ?_
  unfold mJoin at q
  revert q
  cases ma s w with
  | bad => exact id
  | ex c p w1 => exact id
  | ok d w1 =>
    intro q rho1 H1 x e1 r1 Z1 rx
    cases d <;> try exact q.elim
    rename_i sep
    dsimp only at q
    cases rx with
    | str x hx =>
    refine ⟨⟨_, rfl⟩, tM_then r1 Z1 ?_⟩
    revert q
    cases mb s w1 with
    | bad => exact id
    | ex c p w2 => exact fun q => PostX.to q r e1
    | ok d2 w2 =>
      intro q rho2 H2 y e2 r2 Z2 ry
      cases d2 <;> try exact q.elim
      rename_i i
      dsimp only at q
      cases ry with
      | ref _ hi ha =>
      subst ha
      cases e0 : wl w2 i with
      | none => rw [e0] at q; exact q.elim
      | some l =>
        rw [e0] at q
        dsimp only at q
        cases e9 : strsOf l with
        | none => rw [e9] at q; exact q.elim
        | some ss =>
          rw [e9] at q
          dsimp only at q
          obtain ⟨hb, q⟩ := bbeq q
          obtain ⟨vs, hs, hr⟩ := r2.wl e0
          obtain ⟨ys, h1, h2⟩ := strsOf_ok hr e9
          subst h1 h2
          have hb' : lenS (ys.map (·.cps.toList)) + (ys.map (·.cps.toList)).length * sep.length ≤ 100000 := Nat.le_of_ble_eq_true hb
          rw [lenS_ok, List.length_map, ← hx, show x.cps.toList.length = x.cps.size from Array.length_toList] at hb'
          refine ⟨x, _, ys, rfl, rfl, .inl (by rw [hK]; exact hs), ?_, q.to r (e1.trans r e2) rho2 H2 _ .refl r2 (.str _ (by rw [joinN_ok, hx]))⟩
          have : x.length = x.cps.size := rfl
          rw [this]
          omega
end
end Ev

set_option Elab.async false
set_option linter.all false
set_option maxRecDepth 100000
set_option maxHeartbeats 4000000
/-! EvB: all, any, tuple of a comprehension, the list without a number. -/
namespace Ev
open PySem PySem.Spec PyProof.Rows L2
/-- a comprehension whose list is used at once -/
def mFuse (fin : List D → W → R) (mi : MI) (g : GP) (t : M) (e : M) (vs : List Nat) : M := fun s w => match mi s w with
  | .ok it w1 => (match lcFrom it g t e (wipeD s vs) 100000 0 [] w1 with
    | .ok acc w3 => fin acc.reverse w3
    | .bad => .bad)
  | .ex c p w => .ex c p w
  | .bad => .bad
def finBools (f : List Bool → Bool) (l : List D) (w : W) : R := match boolsOf l with
  | some bs => .ok (.bl (f bs)) w
  | none => .bad
def finTup (l : List D) (w : W) : R := .ok (.tup l) w
section
variable {X : Cx} {u : U} {E : XK} {rho : Nat → Addr} {w : W} {H : Hp} {s : S} {σ : L2.St} {tg e a b : Expr} {mi : MI} {g : GP} {t : TG} {vs : List Nat} {mt me : M}
theorem se_fuse {rr : List V → Hp → VK → Prop} {fin : List D → W → R} (hfin : ∀ rho w H D l vs Q, RW u rho w H → H D = some (.lst vs) → RVs u rho w.n H l vs → Post u E rho w H Q (fin l w) → rr [.ref D] H Q)
    (hK : u.K = X.K) (hg : GOk X.K vs t g) (h : PE X e (tCB rr (tCons (tLc (tMI u E mi) t (tMT u E0 mt) (tM u E0 me) vs) tNil))) : PE X e (tM u E (mFuse fin mi g mt me vs)) := by
  refine h.imp fun σ H Q ⟨rho, s, w, r, Z, q⟩ => ?_
  show tLc (tMI u E mi) t (tMT u E0 mt) (tM u E0 me) vs σ H fun x H1 => rr [x] H1 Q
  refine ⟨rho, s, w, r, Z, ?_⟩
  unfold mFuse at q
  revert q
  cases mi s w with
  | bad => exact id
  | ex c p w1 => exact id
  | ok it w1 =>
    intro q rho1 H1 J e1 r1 hit hdn D hD
    obtain ⟨rD, eD⟩ := r1.tup (o := .lst []) hD
    have Z1 : SS u rho1 w1.n (L2.upd H1 D (.lst [])) (wipeD s vs) (L2.wipe σ vs) := (Z.wipe vs).mono (Nat.le_trans e1.n eD.n) (fun i hi => e1.rh i hi) (e1.tups.trans eD.tups)
    have ne1 : ∀ i, i < w1.n → rho1 i ≠ D := fun i hi z => r1.all i hi (by rw [z]; exact hD)
    dsimp only at q
    refine ⟨fun i m H' => ∃ rho2 w2 acc accV, Ext u rho1 w1 H1 rho2 w2 H' ∧ RW u rho2 w2 H' ∧ SS u rho2 w2.n H' (wipeD s vs) (L2.wipe σ vs) ∧ H' D = some (.lst accV) ∧ RVs u rho2 w2.n H' acc.reverse accV ∧ (∀ i, i < w2.n → rho2 i ≠ D) ∧ acc.length + m ≤ 100000 ∧
      (match lcFrom it g mt me (wipeD s vs) m i acc w2 with | .ok acc w3 => Post u E rho w H Q (fin acc.reverse w3) | .bad => False),
      ⟨100000, rho1, w1, [], [], eD, rD, Z1, upd_same, .nil, ne1, Nat.le_refl _, ?_⟩, ?_⟩
    · revert q
      cases lcFrom it g mt me (wipeD s vs) 100000 0 [] w1 with
      | ok acc w3 => exact id
      | bad => exact id
    · rintro i m H2 ⟨rho2, w2, acc, accV, e12, r2, Z2, hA, rA, ne2, hm, q2⟩
      cases m with
      | zero => exact q2.elim
      | succ k =>
        have hi := hit rho2 w2 H2 i e12.to0 r2
        unfold lcFrom at q2
        revert hi q2
        cases it.at w2 i with
        | bad => exact fun _ q2 => q2.elim
        | stop =>
          intro hi q2
          refine .inl ⟨hi, ?_⟩
          have eb0 : Ext u rho w H rho2 w2 H2 := e1.trans r e12
          obtain ⟨r2', eb, en⟩ := hdn rho2 w2 H2 eb0 e12 r2
          dsimp only at q2
          have ne2' : ∀ i, i < (it.done w2).n → rho2 i ≠ D := by rw [en]; exact ne2
          have rA' : RVs u rho2 (it.done w2).n H2 acc.reverse accV := by rw [en]; exact rA
          generalize it.done w2 = w2' at q2 r2' eb ne2' rA'
          exact hfin rho2 w2' H2 D _ accV Q r2' hA rA' (Post.to q2 r eb)
        | it d =>
          intro ⟨hgo, hy⟩ q2
          dsimp only at q2
          cases hgd : g d (wipeD s vs) with
          | none => rw [hgd] at q2; exact q2.elim
          | some s3 =>
            rw [hgd] at q2
            dsimp only at q2
            refine .inr ⟨hgo, fun H' => ∃ rho2 w2 acc accV, Ext u rho1 w1 H1 rho2 w2 H' ∧ RW u rho2 w2 H' ∧ SS u rho2 w2.n H' (wipeD s vs) (L2.wipe σ vs) ∧ H' D = some (.lst accV) ∧ RVs u rho2 w2.n H' acc.reverse accV ∧ (∀ i, i < w2.n → rho2 i ≠ D) ∧ acc.length + k ≤ 100000 ∧
              (match lcFrom it g mt me (wipeD s vs) k (i + 1) acc w2 with | .ok acc w3 => Post u E rho w H Q (fin acc.reverse w3) | .bad => False), fun H' h' => ⟨k, Nat.lt_succ_self _, h'⟩, fun x H3 yl => ?_⟩
            obtain ⟨r3, e3, rv⟩ := hy x H3 yl
            have Z3 := Z2.mono e3.n e3.rh e3.tups
            refine hg u rho2 w2.n H3 d x (wipeD s vs) (L2.wipe σ vs) _ hK rv Z3 ?_
            rw [hgd]
            intro σ4 Z4 hw4
            have nD : H2 D ≠ none := by rw [hA]; simp
            have nT : ∀ ps, H2 D ≠ some (.tbl ps) := fun ps z => by rw [hA] at z; cases z
            obtain ⟨eD3, nD3⟩ := e3.oth D nD nT ne2
            -- the slots that stand aside stay as they were
            refine ⟨hw4.trans (wipe_wipe σ vs), ?_⟩
            refine tMT_then r3 Z4 ?_
            revert q2
            cases mt s3 w2 with
            | bad => exact id
            | ex c p w5 => exact fun q2 => q2.elim
            | ok dt w5 =>
              intro q2
              cases dt <;> try exact q2.elim
              rename_i b
              intro rho5 H5 e5 r5 Z5
              have e35 := e3.trans r2 e5
              obtain ⟨eD5, nD5⟩ := e35.oth D nD nT ne2
              cases b with
              | false =>
                exact ⟨rho5, w5, acc, accV, e12.trans r1 e35, r5, Z2.mono e35.n e35.rh e35.tups, eD5.trans hA, e35.rvs rA, nD5, by omega, q2⟩
              | true =>
                refine tM_then r5 Z5 ?_
                dsimp only at q2
                revert q2
                cases me s3 w5 with
                | bad => exact id
                | ex c p w7 => exact fun q2 => q2.elim
                | ok y w7 =>
                  intro q2 rho7 H7 v7 e7 r7 Z7 rv7
                  have e37 := e35.trans r2 e7
                  obtain ⟨eD7, nD7⟩ := e37.oth D nD nT ne2
                  have hA7 : H7 D = some (.lst accV) := eD7.trans hA
                  have rA7 := e37.rvs rA
                  obtain ⟨r8, e8, tp⟩ := side_upd (l := accV ++ [v7]) (e12.trans r1 e37) r7 hA7 nD7 hD
                  have hz : accV.length < sizeLine := by
                    have := (e37.rvs rA).length
                    rw [List.length_reverse] at this
                    rw [sizeLine_eq]
                    omega
                  refine ⟨accV, hA7, hz, rho7, w7, y :: acc, accV ++ [v7], e8, r8, (Z2.mono e37.n e37.rh e37.tups).mono (Nat.le_refl _) (fun _ _ => rfl) tp, upd_same, ?_, nD7, by rw [List.length_cons]; omega, q2⟩
                  rw [List.reverse_cons]
                  exact (rA7.mono (Nat.le_refl _) (fun _ _ => rfl) tp).append (.cons (rv7.mono (Nat.le_refl _) (fun _ _ => rfl) tp) .nil)
theorem fin_all {rho : Nat → Addr} {w : W} {H : Hp} {D : Addr} {l : List Ev.D} {vs : List V} {Q : VK} (r : RW u rho w H) (hD : H D = some (.lst vs)) (hr : RVs u rho w.n H l vs) (q : Post u E rho w H Q (finBools allB l w)) : rAll u.K [.ref D] H Q := by
  unfold finBools at q
  split at q
  · rename_i bs e1
    have e2 := boolsOf_ok hr e1
    subst e2
    exact ⟨D, bs, rfl, .inl (.inl hD), q rho H _ .refl r (by rw [allB_eq]; exact .bl _)⟩
  · exact q.elim
theorem fin_any {rho : Nat → Addr} {w : W} {H : Hp} {D : Addr} {l : List Ev.D} {vs : List V} {Q : VK} (r : RW u rho w H) (hD : H D = some (.lst vs)) (hr : RVs u rho w.n H l vs) (q : Post u E rho w H Q (finBools anyB l w)) : rAny u.K [.ref D] H Q := by
  unfold finBools at q
  split at q
  · rename_i bs e1
    have e2 := boolsOf_ok hr e1
    subst e2
    exact ⟨D, bs, rfl, .inl (.inl hD), q rho H _ .refl r (by rw [anyB_eq]; exact .bl _)⟩
  · exact q.elim
theorem fin_tup {rho : Nat → Addr} {w : W} {H : Hp} {D : Addr} {l : List Ev.D} {vs : List V} {Q : VK} (r : RW u rho w H) (hD : H D = some (.lst vs)) (hr : RVs u rho w.n H l vs) (q : Post u E rho w H Q (finTup l w)) :
    ∃ p ys, ([V.ref D] : List V) = [.ref p] ∧ ((SqL u.K H p ys ∧ ∀ l, H l = none → Q (.ref l) (upd H l (.tup ys))) ∨ (SqT u.K H p ys ∧ Q (.ref p) H)) := by
  refine ⟨D, vs, rfl, .inl ⟨.inl (.inl hD), fun p hp => ?_⟩⟩
  obtain ⟨r', e⟩ := r.tup (o := .tup vs) hp
  exact q rho _ _ e r' (.tup (.inl (.inl upd_same)) (e.rvs hr))
end
end Ev

set_option Elab.async false
set_option linter.all false
set_option maxRecDepth 100000
set_option maxHeartbeats 4000000
/-! EvW: one rule a construct, for derivations written by program. -/
namespace Ev
open PySem PySem.Spec PyProof.Rows L2
/-- where one stands, as all rules ask it -/
structure CO (X : Cx) (u : U) (E : XK) : Prop where
  hK : X.K = u.K
  hP : X.prog = u.P
  hW : X.w = u.w
  calm : X.calm = true
  hu : X.A.units + 64 < cLine
  tk : L2N.Takes X (fun cls d _ H => E cls d H)
  po : PassesOwn (model X.prog X.w) X.A X.env X.xe
  nd : X.N.Nodup
theorem takesN {X : Cx} : L2N.Takes X (fun _ _ _ _ => False) := fun _ _ x => by
  obtain ⟨_, _, _, _, _, _, _, _, _, _, _, _, _, _, _, _, z⟩ := x
  exact z.elim
theorem CO.blk {X : Cx} {u : U} {E : XK} (C : CO X u E) (s : Shared) (H : Hp) (scope : Scope) (cenv : Env) (fp : List Addr) : CO (X.blk s H scope cenv fp) u E0 :=
  ⟨C.hK, C.hP, C.hW, C.calm, C.hu, takesN, PassesOwn.never, C.nd⟩
/-- targets and the like: nothing is raised there -/
theorem CO.e0 {X : Cx} {u : U} {E : XK} (C : CO X u E) : CO X u E0 := ⟨C.hK, C.hP, C.hW, C.calm, C.hu, takesN, C.po, C.nd⟩
section
variable {X : Cx} {u : U} {E : XK} {a b c e : Expr} {pos p2 p3 p4 : Pos} {ma mb mc mt me : M} {es ifs : List Expr} {mas : MA} {lo hi : Option Expr} {ml mh : Option M} {j k : Nat} {st : Stmt} {sts sts2 : List Stmt} {m1 m2 : MS}
/-! ### values -/
theorem dv (i : Nat) {x : Str} {pos : Pos} (hN : X.N[i]? = some x := by rfl) (hv : Vis X.env.scope x := by first | exact Or.inl rfl | exact Or.inr (Or.inl rfl) | exact Or.inr (Or.inr rfl)) (hd : (x == ("__debug__" : Str)) = false := by decide) (hcd : (x == ("__classdict__" : Str)) = false := by decide) : PE X (.Name x pos) (tM u E (mVar i)) := se_var (pe_var hN hv hd hcd)
theorem d_int {i : Int} : PE X (.Constant (.int i) j pos) (tM u E (mC (.int i))) := se_c pe_int fun _ _ _ => .int _
theorem d_neg1 {n : Int} : PE X (.UnaryOp .USub (.Constant (.int n) j p2) pos) (tM u E (mC (.int (-n)))) := (pe_un un_neg pe_int).imp fun σ H Q ⟨rho, s, w, R, Z, q⟩ => ⟨n, rfl, q rho H _ .refl R (.int _)⟩
theorem d_non : PE X (.Constant .none j pos) (tM u E (mC .non)) := se_c pe_non fun _ _ _ => .non
theorem d_bl {q : Bool} : PE X (.Constant (.bool q) j pos) (tM u E (mC (.bl q))) := se_c pe_bl fun _ _ _ => .bl _
theorem d_str {x : Str} {s : List Nat} (h : x.cps.toList = s := by rfl) : PE X (.Constant (.str x) j pos) (tM u E (mC (.str s))) := se_c pe_str fun _ _ _ => .str _ h
/-- a module's constant -/
structure ConOk (u : U) (mg : Str → Option Value) (x : Str) (d : D) : Prop where
  ok : ∃ v uu, mg x = some uu ∧ RelV v uu ∧ ∀ rho n H, RV u rho n H d v
theorem d_con {x : Str} {d : D} (T : ConOk u X.mg x d) (hg : Gl X x := by rfl) (hd : (x == ("__debug__" : Str)) = false := by decide) : PE X (.Name x pos) (tM u E (mC d)) := by
  obtain ⟨v, uu, h1, h2, h3⟩ := T.ok
  exact se_c (pe_glob hg h1 h2 hd) h3
/-- a built-in's name, not bound anew -/
theorem d_ty {x : Str} (t : Nat) (hm : X.mg x = none) (hv : bootBuiltins x = some (.type (tyName t))) (hg : Gl X x := by rfl) (hn : x ≠ "__name__" := by decide) (hd : (x == ("__debug__" : Str)) = false := by decide) : PE X (.Name x pos) (tM u E (mC (.ty t))) :=
  se_c (pe_bltn (v := .ty (tyName t)) hg hm hv rfl hn hd) fun _ _ _ => .ty t
theorem d_tup (h : PA X es (tMA u E mas)) : PE X (.Tuple es j pos) (tM u E (mN fTup mas)) := se_n (pe_tup h) fits_tup
theorem d_lst (h : PA X es (tMA u E mas)) : PE X (.List es pos) (tM u E (mN fLst mas)) := se_n (pe_lst h) fits_lst
/-! ### operators -/
theorem bin_imp {r : V → V → Hp → VK → Prop} {f : F2} (hf : Fits2 u E r f) {σ : L2.St} {H : Hp} {Q : VK} (h : tM u E (mBin f ma mb) σ H Q) : tOp r (tM u E ma) (tM u E mb) σ H Q := by
  obtain ⟨rho, s, w, R, Z, q⟩ := h
  refine tM_then R Z ?_
  unfold mBin at q
  revert q
  cases ma s w with
  | ok d w1 =>
    intro q rho1 H1 v e R1 Z1 rv
    refine tM_then R1 Z1 ?_
    dsimp only at q
    revert q
    cases mb s w1 with
    | ok d2 w2 => exact fun q rho2 H2 v2 e2 R2 Z2 rv2 => hf _ _ _ _ _ _ _ _ R2 (e2.rv rv) rv2 (q.to R (e.trans R e2))
    | ex c p w2 => exact fun q => PostX.to q R e
    | bad => exact id
  | ex c p w1 => exact id
  | bad => exact id
theorem un_imp {r : V → Hp → VK → Prop} {f : F1} (hf : Fits1 u E r f) {σ : L2.St} {H : Hp} {Q : VK} (h : tM u E (mUn f ma) σ H Q) : tUn r (tM u E ma) σ H Q := by
  obtain ⟨rho, s, w, R, Z, q⟩ := h
  refine tM_then R Z ?_
  unfold mUn Ev.R.bind at q
  revert q
  cases ma s w with
  | ok d w1 => exact fun q rho1 H1 v e R1 _ rv => hf _ _ _ _ _ _ R1 rv (q.to R e)
  | ex c p w1 => exact id
  | bad => exact id
/-- an operator that fits: a rule of the layer with it -/
def Op2 (X : Cx) (u : U) (E : XK) (op : Operator) (f : F2) : Prop := ∃ r, OpR X (binaryOp op) r ∧ Fits2 u E r f
theorem o_add (C : CO X u E) : Op2 X u E .Add fAdd := ⟨_, op_addA, by rw [C.hK]; exact fits_add⟩
theorem o_sub (C : CO X u E) : Op2 X u E .Sub fSub := ⟨_, op_sub, fits_sub⟩
theorem o_mod (C : CO X u E) : Op2 X u E .Mod fMod := ⟨_, op_mod, fits_mod⟩
theorem o_div (C : CO X u E) : Op2 X u E .FloorDiv fDiv := ⟨_, op_fdiv, fits_div⟩
theorem d_op {op : Operator} {f : F2} (o : Op2 X u E op f) (ha : PE X a (tM u E ma)) (hb : PE X b (tM u E mb)) : PE X (.BinOp a op b pos) (tM u E (mBin f ma mb)) := by
  obtain ⟨r, h1, h2⟩ := o
  exact se_bin (pe_op h1 ha hb) h2
def Cmp2 (X : Cx) (u : U) (E : XK) (op : CmpOp) (f : F2) : Prop := ∃ r, OpR X (compareOp op) r ∧ Fits2 u E r f
theorem c_eq (C : CO X u E) : Cmp2 X u E .Eq fEq := by
  obtain ⟨r, h1, h2⟩ := fits_eq (u := u) (E := E) C.hu
  exact ⟨r, h1, h2 C.hK⟩
theorem c_ne (C : CO X u E) : Cmp2 X u E .NotEq fNe := by
  obtain ⟨r, h1, h2⟩ := fits_ne (u := u) (E := E) C.hu
  exact ⟨r, h1, h2 C.hK⟩
theorem c_lt (C : CO X u E) : Cmp2 X u E .Lt fLt := ⟨_, op_lt, fits_lt⟩
theorem c_le (C : CO X u E) : Cmp2 X u E .LtE fLe := ⟨_, op_le, fits_le⟩
theorem c_gt (C : CO X u E) : Cmp2 X u E .Gt fGt := ⟨_, op_gt, fits_gt⟩
theorem c_ge (C : CO X u E) : Cmp2 X u E .GtE fGe := ⟨_, op_ge, fits_ge⟩
theorem d_cmp {op : CmpOp} {f : F2} (o : Cmp2 X u E op f) (ha : PE X a (tM u E ma)) (hb : PE X b (tM u E mb)) (hm : behindInMarks op b = false := by with_unfolding_all rfl) : PE X (.Compare a [op] [b] pos) (tM u E (mBin f ma mb)) := by
  obtain ⟨r, h1, h2⟩ := o
  exact se_bin (pe_cmpR h1 ha hb hm) h2
theorem t_cmp {op : CmpOp} {f : F2} (o : Cmp2 X u E op f) (ha : PE X a (tM u E ma)) (hb : PE X b (tM u E mb)) (hm : behindInMarks op b = false := by with_unfolding_all rfl) : PT X (.Compare a [op] [b] pos) (tMT u E (mBin f ma mb)) := by
  obtain ⟨r, h1, h2⟩ := o
  exact (pt_cmpR h1 ha hb hm).imp fun σ H Q q => bin_imp h2 q
theorem chain_imp {r r' : R2} {f g : F2} (hf : Fits2 u E r f) (hg : Fits2 u E r' g) {σ : L2.St} {H : Hp} {Q : VK} (h : tM u E (mChain f g ma mb mc) σ H Q) : tChain r r' (tM u E ma) (tM u E mb) (tM u E mc) σ H Q := by
  obtain ⟨rho, s, w, R, Z, q⟩ := h
  refine tM_then R Z ?_
  unfold mChain at q
  revert q
  cases ma s w with
  | bad => exact id
  | ex c p w1 => exact id
  | ok x w1 =>
    intro q rho1 H1 v1 e1 R1 Z1 rv1
    refine tM_then R1 Z1 ?_
    dsimp only at q
    revert q
    cases mb s w1 with
    | bad => exact id
    | ex c p w2 => exact fun q => PostX.to q R e1
    | ok y w2 =>
      intro q rho2 H2 v2 e2 R2 Z2 rv2
      dsimp only at q
      have e02 := e1.trans R e2
      refine hf _ _ _ _ _ _ _ _ R2 (e2.rv rv1) rv2 ?_
      revert q
      cases f x y w2 with
      | bad => exact id
      | ex c p w3 => exact fun q => PostX.to q R e02
      | ok d w3 =>
        intro q
        cases d <;> try exact q.elim
        rename_i k
        intro rho3 H3 v3 e3 R3 rv3
        cases rv3
        have e03 := e02.trans R e3
        have Z3 := Z2.mono e3.n e3.rh e3.tups
        refine ⟨k, rfl, ?_⟩
        cases k with
        | false => exact q rho3 H3 _ e03 R3 (.bl _)
        | true =>
          rw [if_pos rfl]
          refine tM_then R3 Z3 ?_
          dsimp only at q
          revert q
          cases mc s w3 with
          | bad => exact id
          | ex c p w4 => exact fun q => PostX.to q R e03
          | ok z w4 => exact fun q rho4 H4 v4 e4 R4 Z4 rv4 => hg _ _ _ _ _ _ _ _ R4 (e4.rv (e3.rv rv2)) rv4 (q.to R (e03.trans R e4))
theorem d_chain {op op' : CmpOp} {f g : F2} (o : Cmp2 X u E op f) (o' : Cmp2 X u E op' g) (ha : PE X a (tM u E ma)) (hb : PE X b (tM u E mb)) (hc : PE X c (tM u E mc)) (hm : lastMarks [op, op'] [b, c] = false := by with_unfolding_all rfl) : PE X (.Compare a [op, op'] [b, c] pos) (tM u E (mChain f g ma mb mc)) := by
  obtain ⟨r, h1, h2⟩ := o
  obtain ⟨r', h3, h4⟩ := o'
  exact (pe_chain h1 h3 ha hb hc hm).imp fun σ H Q q => chain_imp h2 h4 q
theorem t_chain {op op' : CmpOp} {f g : F2} (o : Cmp2 X u E op f) (o' : Cmp2 X u E op' g) (ha : PE X a (tM u E ma)) (hb : PE X b (tM u E mb)) (hc : PE X c (tM u E mc)) (hm : lastMarks [op, op'] [b, c] = false := by with_unfolding_all rfl) : PT X (.Compare a [op, op'] [b, c] pos) (tMT u E (mChain f g ma mb mc)) := by
  obtain ⟨r, h1, h2⟩ := o
  obtain ⟨r', h3, h4⟩ := o'
  exact (pt_chain h1 h3 ha hb hc hm).imp fun σ H Q q => chain_imp h2 h4 q

/-! ### is None, in -/
theorem d_isN (ha : PE X a (tM u E ma)) : PE X (.Compare a [.Is] [.Constant .none j p2] pos) (tM u E (mUn fIsN ma)) := (pe_cmp (pc_isN ha)).imp fun σ H Q q => un_imp fits_isN q
theorem d_notN (ha : PE X a (tM u E ma)) : PE X (.Compare a [.IsNot] [.Constant .none j p2] pos) (tM u E (mUn fNotN ma)) := (pe_cmp (pc_notN ha)).imp fun σ H Q q => un_imp fits_notN q
theorem t_isN (ha : PE X a (tM u E ma)) : PT X (.Compare a [.Is] [.Constant .none j p2] pos) (tMT u E (mUn fIsN ma)) := (pt_cmp (pc_isN ha)).imp fun σ H Q q => un_imp fits_isN q
theorem t_notN (ha : PE X a (tM u E ma)) : PT X (.Compare a [.IsNot] [.Constant .none j p2] pos) (tMT u E (mUn fNotN ma)) := (pt_cmp (pc_notN ha)).imp fun σ H Q q => un_imp fits_notN q
theorem c_in {nk : Nat} {kdT : Nat → List (List Nat × D)} {kdN : Nat → List (List Nat)} (C : CO X u E) (O : KDOk u nk kdT kdN) : Cmp2 X u E .In (fInKB nk kdT kdN fun b => b) := by
  refine ⟨_, (op_in_seq.or (op_inK C.hK C.hP C.hW C.hu)).or op_inKD, ?_⟩
  rw [C.hK, C.hW]
  exact fits_inKB O (fun _ => rfl) fun _ => rfl
theorem c_notIn {nk : Nat} {kdT : Nat → List (List Nat × D)} {kdN : Nat → List (List Nat)} (C : CO X u E) (O : KDOk u nk kdT kdN) : Cmp2 X u E .NotIn (fInKB nk kdT kdN fun b => bif b then false else true) := by
  refine ⟨_, (op_notIn_seq.or (op_notInK C.hK C.hP C.hW C.hu)).or op_notInKD, ?_⟩
  rw [C.hK, C.hW]
  exact fits_inKB O (fun b => by cases b <;> rfl) (fun b => by cases b <;> rfl)
/-! ### not, and, or, if -/
theorem d_not (ha : PE X a (tM u E ma)) : PE X (.UnaryOp .Not a pos) (tM u E (mUn fNot ma)) := (pe_not ha).imp fun σ H Q q => by
  obtain ⟨rho, s, w, R, Z, q⟩ := q
  refine tM_then R Z ?_
  unfold mUn Ev.R.bind at q
  revert q
  cases ma s w with
  | ok d w1 =>
    intro q rho1 H1 v e1 R1 _ rv
    cases d <;> try exact q.elim
    cases rv
    rename_i b
    refine ⟨_, rfl, ?_⟩
    have q' := (q : Post u E rho w H Q (.ok (.bl (bif b then false else true)) w1)) rho1 H1 (.bl (!b)) e1 R1 (by cases b <;> exact .bl _)
    exact q'
  | ex c p w1 => exact id
  | bad => exact id
theorem t_val (h : PE X e (tM u E me)) (he : ∀ whole, isTrue e X.env whole = (do let v ← whole; standAt e.pos; holding [v] (truthy v)) := by intro _; rfl) : PT X e (tMT u E me) := pt_val h he
theorem t_tru (C : CO X u E) (h : PE X e (tM u E me)) (he : ∀ whole, isTrue e X.env whole = (do let v ← whole; standAt e.pos; holding [v] (truthy v)) := by intro _; rfl) : PT X e (tMT u E (mUn fTruth me)) := st_truth C.hK (pt_truth h he)
theorem t_not (ha : PT X a (tMT u E ma)) : PT X (.UnaryOp .Not a pos) (tMT u E (mUn fNot ma)) := (pt_not ha).imp fun σ H Q q => by
  obtain ⟨rho, s, w, R, Z, q⟩ := q
  refine tM_then R Z ?_
  unfold mUn Ev.R.bind at q
  revert q
  cases ma s w with
  | ok d w1 =>
    intro q rho1 H1 v e1 R1 _ rv
    cases d <;> try exact q.elim
    cases rv
    rename_i b
    refine ⟨_, rfl, ?_⟩
    obtain ⟨k, e2, q'⟩ := (q : Post u E rho w H _ (.ok (.bl (bif b then false else true)) w1)) rho1 H1 (.bl (!b)) e1 R1 (by cases b <;> exact .bl _)
    cases e2
    exact q'
  | ex c p w1 => exact id
  | bad => exact id
theorem d_one {op : BoolOp} (ha : PE X a (tM u E ma)) : PE X (.BoolOp op [a] pos) (tM u E ma) := pe_one ha
theorem d_and {rest : List Expr} (ha : PE X a (tM u E ma)) (hb : PE X (.BoolOp .And (b :: rest) pos) (tM u E mb)) : PE X (.BoolOp .And (a :: b :: rest) pos) (tM u E (mAnd ma mb)) := se_and (pe_and ha hb)
theorem d_or {rest : List Expr} (ha : PE X a (tM u E ma)) (hb : PE X (.BoolOp .Or (b :: rest) pos) (tM u E mb)) : PE X (.BoolOp .Or (a :: b :: rest) pos) (tM u E (mOr ma mb)) := se_or (pe_or ha hb)
theorem and_imp {σ : L2.St} {H : Hp} {Q : Bool → Hp → Prop} (h : tMT u E (mAnd ma mb) σ H Q) : tAnd (tMT u E ma) (tMT u E mb) σ H Q := by
  obtain ⟨rho, s, w, R, Z, q⟩ := h
  refine tMT_then R Z ?_
  unfold mAnd at q
  revert q
  cases ma s w with
  | ok d w1 =>
    intro q
    cases d <;> try exact q.elim
    rename_i k
    intro rho1 H1 e R1 Z1
    cases k with
    | true => exact ⟨rho1, s, w1, R1, Z1, Post.to q R e⟩
    | false =>
      obtain ⟨k, e2, q'⟩ := q rho1 H1 _ e R1 (.bl _)
      cases e2
      exact q'
  | ex c p w1 => exact id
  | bad => exact id
theorem or_imp {σ : L2.St} {H : Hp} {Q : Bool → Hp → Prop} (h : tMT u E (mOr ma mb) σ H Q) : tOr (tMT u E ma) (tMT u E mb) σ H Q := by
  obtain ⟨rho, s, w, R, Z, q⟩ := h
  refine tMT_then R Z ?_
  unfold mOr at q
  revert q
  cases ma s w with
  | ok d w1 =>
    intro q
    cases d <;> try exact q.elim
    rename_i k
    intro rho1 H1 e R1 Z1
    cases k with
    | false => exact ⟨rho1, s, w1, R1, Z1, Post.to q R e⟩
    | true =>
      obtain ⟨k, e2, q'⟩ := q rho1 H1 _ e R1 (.bl _)
      cases e2
      exact q'
  | ex c p w1 => exact id
  | bad => exact id
theorem _root_.L2.PW.imp {X : Cx} {e : Expr} {t t' : TT} (h : PW X e t) (hi : ∀ σ H Q, t' σ H Q → t σ H Q) : PW X e t' := ⟨fun wh pins s σ H Q I q => h.run wh pins s σ H Q I (hi σ H Q q)⟩
theorem w_and1 (ha : PT X a (tMT u E ma)) : PW X (.BoolOp .And [a] pos) (tMT u E ma) := pw_and1 ha
theorem w_or1 (ha : PT X a (tMT u E ma)) : PW X (.BoolOp .Or [a] pos) (tMT u E ma) := pw_or1 ha
theorem w_and {rest : List Expr} (ha : PT X a (tMT u E ma)) (hb : PW X (.BoolOp .And (b :: rest) pos) (tMT u E mb)) : PW X (.BoolOp .And (a :: b :: rest) pos) (tMT u E (mAnd ma mb)) := (pw_and ha hb).imp fun _ _ _ q => and_imp q
theorem w_or {rest : List Expr} (ha : PT X a (tMT u E ma)) (hb : PW X (.BoolOp .Or (b :: rest) pos) (tMT u E mb)) : PW X (.BoolOp .Or (a :: b :: rest) pos) (tMT u E (mOr ma mb)) := (pw_or ha hb).imp fun _ _ _ q => or_imp q
theorem t_w {op : BoolOp} (h : PW X (.BoolOp op es pos) (tMT u E ma)) : PT X (.BoolOp op es pos) (tMT u E ma) := h.pt
theorem d_if (hc : PT X c (tMT u E mc)) (ha : PE X a (tM u E ma)) (hb : PE X b (tM u E mb)) : PE X (.IfExp c a b pos) (tM u E (mIf mc ma mb)) := se_if (pe_ifExp hc ha hb)
/-! ### subscripts, slices -/
theorem d_ix {nk : Nat} {kdT : Nat → List (List Nat × D)} {kdN : Nat → List (List Nat)} (C : CO X u E) (O : KDOk u nk kdT kdN) (ha : PE X a (tM u E ma)) (hb : PE X b (tM u E mb)) (hs : PlainIx b := by intro _ _; rfl) : PE X (.Subscript a b pos) (tM u E (mBin (fIxC nk kdT) ma mb)) :=
  se_bin (pe_ix (ix_all C.hK C.hP C.hW C.hu (by rw [← C.hK]; exact ix_list.or ix_tup)) ha hb hs) (fits_ixC O)
theorem d_none : PO X none (tMO u E none) := po_none
theorem d_some (h : PE X e (tM u E ma)) : PO X (some e) (tMO u E (some ma)) := po_some h
theorem d_slice (C : CO X u E) (ha : PE X a (tM u E ma)) (hl : PO X lo (tMO u E ml)) (hh : PO X hi (tMO u E mh)) : PE X (.Subscript a (.Slice lo hi none p2) pos) (tM u E (mSl ma ml mh)) := se_sl C.hK (pe_slice (sl_tupA.or sl_list) ha hl hh)

/-! ### built-ins -/
inductive Bi (X : Cx) (u : U) (E : XK) (x : Str) (f : FN) : Prop
  | fn {id : String} {r : List V → Hp → VK → Prop} : bootBuiltins x = some (.builtin id) → CallR X (.builtin id) r → FitsN u E r f → Bi X u E x f
  | ty {T : String} {r : List V → Hp → VK → Prop} : bootBuiltins x = some (.type T) → CallR X (.type T) r → FitsN u E r f → Bi X u E x f
theorem d_bi {x : Str} {f : FN} (B : Bi X u E x f) (hm : X.mg x = none) (ha : PA X (e :: es) (tMA u E mas)) (hg : Gl X x := by rfl) (hn : x ≠ "__name__" := by decide) (hdb : (x == ("__debug__" : Str)) = false := by decide)
    (he : starEach (e :: es) X.env = (false, eval e X.env) :: starEach es X.env := by rfl) (hpl : (backTo pos (starEach es X.env)).any (·.1) = false := by rfl) : PE X (.Call (.Name x p2) (e :: es) [] pos) (tM u E (mN f mas)) := by
  cases B with
  | fn hv hc hf => exact se_n (pe_callB hc hg hm hv ha hn hdb he hpl) hf
  | ty hv hc hf => exact se_n (pe_callTy hc hg hm hv ha hn hdb he hpl) hf
theorem b_len (C : CO X u E) : Bi X u E "len" fLenA := .fn boot_len (call_len_seq.or (cr_lenD C.hK C.hP C.hW)) (by rw [C.hK]; exact fits_lenA)
theorem b_all (C : CO X u E) : Bi X u E "all" fAll := .fn boot_all (cr_all C.calm) (by rw [C.hK]; exact fits_all)
theorem b_any (C : CO X u E) : Bi X u E "any" fAny := .fn boot_any (cr_any C.calm) (by rw [C.hK]; exact fits_any)
theorem b_sum (C : CO X u E) : Bi X u E "sum" fSum := .fn boot_sum (cr_sum C.calm) (by rw [C.hK]; exact fits_sum)
theorem b_tuple (C : CO X u E) : Bi X u E "tuple" fTupOf := .ty PyProof.Rows.boot_tuple call_tuple_of (by rw [C.hK]; exact fits_tupOf)
theorem b_list (C : CO X u E) : Bi X u E "list" fListA := .ty PyProof.Rows.boot_list (call_list_of.or (cr_listD C.calm)) (by rw [C.hK]; exact fits_listA)
theorem b_sorted (C : CO X u E) : Bi X u E "sorted" fSortedA := .fn boot_sorted ((cr_sortD C.hK C.calm C.hu).or (cr_sortedI C.calm C.hW)) fits_sortedA
theorem b_abs : Bi X u E "abs" fAbs := .fn boot_abs call_abs fits_abs
theorem b_max2 (C : CO X u E) : Bi X u E "max" fMax2 := .fn boot_max (call_max2 C.calm) fits_max2
theorem b_int : Bi X u E "int" fInt1 := .ty PyProof.Rows.boot_int call_int1 fits_int1
theorem b_str : Bi X u E "str" fStr1 := .ty PyProof.Rows.boot_str call_str_int fits_str1
theorem b_isI {nc : Nat} (C : CO X u E) (O : UOk u nc) : Bi X u E "isinstance" (fIsI nc) := .fn PyProof.Rows.boot_isinstance call_isi (by rw [C.hK]; exact fits_isI O)
/-- isinstance(x, (T, S)) -/
theorem d_isI2 {nc : Nat} {x y : Str} (C : CO X u E) (O : UOk u nc) (i i' : Nat) (hi : i < 7) (hi' : i' < 7) (hm : X.mg "isinstance" = none) (hx : X.mg x = none) (hy : X.mg y = none) (hvx : bootBuiltins x = some (.type (tyName i))) (hvy : bootBuiltins y = some (.type (tyName i'))) (ha : PE X a (tM u E ma))
    (hgx : Gl X x := by rfl) (hgy : Gl X y := by rfl) (hnx : x ≠ "__name__" := by decide) (hdx : (x == ("__debug__" : Str)) = false := by decide) (hny : y ≠ "__name__" := by decide) (hdy : (y == ("__debug__" : Str)) = false := by decide) (hg : Gl X "isinstance" := by rfl)
    (he : starEach [a, .Tuple [.Name x p3, .Name y p4] j p2] X.env = (false, eval a X.env) :: starEach [.Tuple [.Name x p3, .Name y p4] j p2] X.env := by rfl) (hpl : (backTo pos (starEach [.Tuple [.Name x p3, .Name y p4] j p2] X.env)).any (·.1) = false := by rfl) {p5 : Pos} :
    PE X (.Call (.Name "isinstance" p5) [a, .Tuple [.Name x p3, .Name y p4] j p2] [] pos) (tM u E (mIsI2 nc i i' ma)) := by
  have h := pe_callB (X := X) (p := p5) (pos := pos) call_isiT hg hm PyProof.Rows.boot_isinstance (pa_cons ha (pa_cons (pe_tup (x1 := j) (pos := p2) (pa_cons (pe_bltn (pos := p3) (v := .ty (tyName i)) hgx hx hvx rfl hnx hdx) (pa_cons (pe_bltn (pos := p4) (v := .ty (tyName i')) hgy hy hvy rfl hny hdy) pa_nil))) pa_nil) he) (by decide) (by decide) he hpl
  rw [C.hK] at h
  exact se_isI2 O hi hi' h
/-! ### methods of lists -/
def Mth (X : Cx) (u : U) (E : XK) (name : Str) (f : D → List D → W → R) : Prop := ∃ id r, Slot "list" name id ∧ typeOf (.builtin id) = pure (.type "method_descriptor") ∧ MtR X id r ∧ FitsM u E r f
theorem m_append : Mth X u E "append" fAppend := ⟨_, _, PySem.F.slot_list_append, PySem.F.type_list_append, mt_append, fits_append⟩
theorem m_extend : Mth X u E "extend" fExtend := ⟨_, _, PySem.F.slot_list_extend, PySem.F.type_list_extend, mt_extend, fits_extend⟩
theorem m_insert : Mth X u E "insert" fInsert := ⟨_, _, PySem.F.slot_list_insert, PySem.F.type_list_insert, mt_insert, fits_insert⟩
theorem m_index (C : CO X u E) : Mth X u E "index" fIndex := ⟨_, _, PySem.F.slot_list_index, PySem.F.type_list_index, mt_index, by rw [C.hK]; exact fits_index⟩
theorem d_mth {name : Str} {f : D → List D → W → R} (C : CO X u E) (m : Mth X u E name f) (ho : PE X a (tM u E ma)) (ha : PA X (e :: es) (tMA u E mas))
    (hbase : attributeBase a name X.env (eval a X.env) = eval a X.env := by rfl)
    (hfew : ((backTo pos (starEach (e :: es) X.env)).all (fun x => !x.1) && (backToKw pos (keywordEach [] X.env)).all (fun x => x.1.isSome)
      && decide ((e :: es).length + ([] : List Keyword).length + (if ([] : List Keyword).isEmpty then 0 else 1) < 30)) = true := by rfl)
    (hline : (p2.endLine == pos.line) = true := by rfl) (hs : starEach (e :: es) X.env = (false, eval e X.env) :: starEach es X.env := by rfl) (hplain : (backTo pos (starEach es X.env)).any (·.1) = false := by rfl) :
    PE X (.Call (.Attribute a name p2) (e :: es) [] pos) (tM u E (mMethL f ma mas)) := by
  obtain ⟨id, r, h1, h2, h3, h4⟩ := m
  exact se_methL C.hK (pe_bm PySem.F.plainAttrs_list h1 h2 h3 ho ha hbase hfew hline hs hplain) h4
/-! ### dicts -/
theorem d_dict0 : PE X (.Dict [] [] pos) (tM u E mDict0) := se_dict0
theorem d_dict1 (C : CO X u E) (hk : PE X a (tM u E ma)) (hv : PE X b (tM u E mb)) : PE X (.Dict [some a] [b] pos) (tM u E (mDict1 ma mb)) := se_dict1 (pe_disp1 C.hK C.hP C.hW C.hu hk hv)
/-! ### what is walked -/
variable {tg iter tg1 iter1 : Expr} {mi mi1 : MI}
theorem i_seq (C : CO X u E) (h : PE X iter (tM u E ma)) : PI X tg iter (tMI u E (iSeqA ma)) :=
  si_seqA C.hP C.hW (by rw [← C.hK]; exact pi_list h) (by rw [← C.hK]; exact pi_tup h) (pi_raw h) (pi_rawV h)
theorem i_range1 {pr : Pos} (hm : X.mg "range" = none) (ha : PE X a (tM u E ma)) (hg : Gl X "range" := by rfl) (hs : starEach [a] X.env = [(false, eval a X.env)] := by rfl) : PI X tg (.Call (.Name "range" p2) [a] [] pos) (tMI u E (iRange (aCons ma aNil))) :=
  si_range1 (pi_range1 hg hm (sa_cons ha sa_nil (by rw [hs]; rfl)) hs) fun s w ds w1 h => by
    unfold aCons aNil at h
    revert h
    cases ma s w with
    | ok d w2 => intro h; cases h; rfl
    | ex c p w => intro h; cases h
    | bad => intro h; cases h
theorem i_range2 (hm : X.mg "range" = none) (ha : PE X a (tM u E ma)) (hb : PE X b (tM u E mb)) (hg : Gl X "range" := by rfl) (hs : starEach [a, b] X.env = [(false, eval a X.env), (false, eval b X.env)] := by rfl) (hs2 : starEach [b] X.env = [(false, eval b X.env)] := by rfl) : PI X tg (.Call (.Name "range" p2) [a, b] [] pos) (tMI u E (iRange (aCons ma (aCons mb aNil)))) :=
  si_range2 (pi_range2 hg hm (sa_cons ha (sa_cons hb sa_nil (by rw [hs2]; rfl)) (by rw [hs, hs2])) hs hs2) fun s w ds w1 h => by
    unfold aCons aNil at h
    revert h
    cases ma s w with
    | ok d w2 =>
      dsimp only
      cases mb s w2 with
      | ok d2 w3 => intro h; cases h; rfl
      | ex c p w => intro h; cases h
      | bad => intro h; cases h
    | ex c p w => intro h; cases h
    | bad => intro h; cases h
theorem i_zip {e2 : Expr} {elts : List Expr} {kk : Nat} (C : CO X u E) (hm : X.mg "zip" = none) (ha : PA X [e, e2] (tMA u E mas)) (hg : Gl X "zip" := by rfl) (hs : starEach [e, e2] X.env = (false, eval e X.env) :: starEach [e2] X.env := by rfl) (hpl : (backTo pos (starEach [e2] X.env)).any (·.1) = false := by rfl) :
    PI X (.Tuple elts kk p3) (.Call (.Name "zip" p2) [e, e2] [] pos) (tMI u E (iZipM mas)) := si_zip (by rw [← C.hK]; exact RZ.pi_zipA hg hm ha hs hpl)
theorem i_enum {elts : List Expr} {kk : Nat} (C : CO X u E) (hm : X.mg "enumerate" = none) (ha : PA X [e] (tMA u E mas)) (hg : Gl X "enumerate" := by rfl) (hs : starEach [e] X.env = [(false, eval e X.env)] := by rfl) :
    PI X (.Tuple elts kk p3) (.Call (.Name "enumerate" p2) [e] [] pos) (tMI u E (iEnumM mas)) := si_enum (by rw [← C.hK]; exact pi_enum hg hm ha hs) (by rw [← C.hK]; exact pi_enumT hg hm ha hs)
/-! ### targets -/
theorem g_name (C : CO X u E) (i : Nat) {x : Str} (hi : X.N[i]? = some x := by rfl) (hx : Loc X.env.scope x := by first | exact .inl rfl | exact .inr rfl) (hf : X.fn x = true ∨ X.env.scope.names.lookup x = some .local := by first | exact .inl rfl | exact .inr rfl) : PG X (.Name x pos) (L2.gName i) := pg_name C.nd hi hx hf
theorem g_tup {t : TGs} {n : Nat} (C : CO X u E) (h : PGs X es t) (hn : (assignEach es X.env).length = n := by rfl) (hst : (assignEach es X.env).findIdx? (·.1) = none := by rfl) : PG X (.Tuple es k pos) (L2.gTup X.K n t) := pg_tup C.calm h hn hst
/-! ### comprehensions -/
variable {scope : Scope} {own : List (Str × Nat)} {g g1 : GP} {t t1 : TG} {elt kx vx : Expr}
abbrev Blk (X : Cx) (scope : Scope) (s : Shared) (H : Hp) (C : Addr) (cl : List (Str × Addr)) (fp : List Addr) : Cx := X.blk s H scope (compEnvC scope cl C X.env) fp
theorem d_lc (own : List (Str × Nat)) (C : CO X u E) (ok : blkC X.N X.env.scope scope own = true) (hg : GOk X.K (own.map (·.2)) t g) (hi : PI X tg iter (tMI u E mi)) (hgt : ∀ s H c cl fp, CO (Blk X scope s H c cl fp) u E0 → PG (Blk X scope s H c cl fp) tg t)
    (ht : ∀ s H c cl fp, CO (Blk X scope s H c cl fp) u E0 → PTs (Blk X scope s H c cl fp) ifs (tMT u E0 mt)) (he : ∀ s H c cl fp, CO (Blk X scope s H c cl fp) u E0 → PE (Blk X scope s H c cl fp) elt (tM u E0 me)) (hs : ∀ x, foldedSetIterable iter X.env x = pure x := by intro _; rfl) :
    PE X (.ListComp elt [⟨tg, iter, ifs, 0⟩] scope pos) (tM u E (mLc mi g mt me (own.map (·.2)))) :=
  se_lc C.hK.symm hg (pe_lc C.calm C.nd hi (blkOk_by ok) (fun s H c cl fp => hgt s H c cl fp (C.blk ..)) (fun s H c cl fp => ht s H c cl fp (C.blk ..)) (fun s H c cl fp => he s H c cl fp (C.blk ..)) hs)
theorem _root_.L2.PTs.imp {X : Cx} {e : List Expr} {t t' : TT} (h : PTs X e t) (hi : ∀ σ H Q, t' σ H Q → t σ H Q) : PTs X e t' := ⟨fun pins s σ H Q I q => h.run pins s σ H Q I (hi σ H Q q)⟩
theorem d_yes {ms : M} (h : ms = mYes := by rfl) : PTs X [] (tMT u E ms) := pts_nil.imp fun σ H Q q => by
  subst h
  obtain ⟨rho, s, w, R, Z, q⟩ := q
  obtain ⟨k, e, q⟩ := (q : Post u E rho w H _ (.ok (.bl true) w)) rho H (.bl true) .refl R (.bl _)
  cases e
  exact q
theorem d_if1 (h : PT X c (tMT u E mc)) : PTs X [c] (tMT u E mc) := pts_one h

theorem d_fuse (own : List (Str × Nat)) {x : Str} {fin : List D → W → R} {id : Value} {rr : List V → Hp → VK → Prop} (C : CO X u E) (hcall : ∀ {e : Expr} {ta : TA}, PA X [e] ta → starEach [e] X.env = (false, eval e X.env) :: starEach [] X.env → PE X (.Call (.Name x p2) [e] [] pos) (tCB rr ta))
    (hfin : ∀ rho w H D l vs Q, RW u rho w H → H D = some (.lst vs) → RVs u rho w.n H l vs → Post u E rho w H Q (fin l w) → rr [.ref D] H Q)
    (ok : blkC X.N X.env.scope scope own = true) (hg : GOk X.K (own.map (·.2)) t g) (hi : PI X tg iter (tMI u E mi)) (hgt : ∀ s H c cl fp, CO (Blk X scope s H c cl fp) u E0 → PG (Blk X scope s H c cl fp) tg t)
    (ht : ∀ s H c cl fp, CO (Blk X scope s H c cl fp) u E0 → PTs (Blk X scope s H c cl fp) ifs (tMT u E0 mt)) (he : ∀ s H c cl fp, CO (Blk X scope s H c cl fp) u E0 → PE (Blk X scope s H c cl fp) elt (tM u E0 me)) (hs : ∀ x, foldedSetIterable iter X.env x = pure x := by intro _; rfl) :
    PE X (.Call (.Name x p2) [.ListComp elt [⟨tg, iter, ifs, 0⟩] scope p3] [] pos) (tM u E (mFuse fin mi g mt me (own.map (·.2)))) :=
  se_fuse hfin C.hK.symm hg (hcall (pa_cons (pe_lc C.calm C.nd hi (blkOk_by ok) (fun s H c cl fp => hgt s H c cl fp (C.blk ..)) (fun s H c cl fp => ht s H c cl fp (C.blk ..)) (fun s H c cl fp => he s H c cl fp (C.blk ..)) hs) pa_nil) rfl)
theorem d_allC (own : List (Str × Nat)) (C : CO X u E) (hm : X.mg "all" = none) (ok : blkC X.N X.env.scope scope own = true) (hg : GOk X.K (own.map (·.2)) t g) (hi : PI X tg iter (tMI u E mi)) (hgt : ∀ s H c cl fp, CO (Blk X scope s H c cl fp) u E0 → PG (Blk X scope s H c cl fp) tg t)
    (ht : ∀ s H c cl fp, CO (Blk X scope s H c cl fp) u E0 → PTs (Blk X scope s H c cl fp) ifs (tMT u E0 mt)) (he : ∀ s H c cl fp, CO (Blk X scope s H c cl fp) u E0 → PE (Blk X scope s H c cl fp) elt (tM u E0 me)) (hs : ∀ x, foldedSetIterable iter X.env x = pure x := by intro _; rfl) (hgl : Gl X "all" := by rfl) :
    PE X (.Call (.Name "all" p2) [.ListComp elt [⟨tg, iter, ifs, 0⟩] scope p3] [] pos) (tM u E (mFuse (finBools allB) mi g mt me (own.map (·.2)))) :=
  d_fuse (id := .none) own C (fun h hs => pe_callB (cr_all C.calm) hgl hm boot_all h (by decide) (by decide) hs rfl) (fun rho w H D l vs Q r hD hr q => by rw [C.hK]; exact fin_all r hD hr q) ok hg hi hgt ht he hs
theorem d_anyC (own : List (Str × Nat)) (C : CO X u E) (hm : X.mg "any" = none) (ok : blkC X.N X.env.scope scope own = true) (hg : GOk X.K (own.map (·.2)) t g) (hi : PI X tg iter (tMI u E mi)) (hgt : ∀ s H c cl fp, CO (Blk X scope s H c cl fp) u E0 → PG (Blk X scope s H c cl fp) tg t)
    (ht : ∀ s H c cl fp, CO (Blk X scope s H c cl fp) u E0 → PTs (Blk X scope s H c cl fp) ifs (tMT u E0 mt)) (he : ∀ s H c cl fp, CO (Blk X scope s H c cl fp) u E0 → PE (Blk X scope s H c cl fp) elt (tM u E0 me)) (hs : ∀ x, foldedSetIterable iter X.env x = pure x := by intro _; rfl) (hgl : Gl X "any" := by rfl) :
    PE X (.Call (.Name "any" p2) [.ListComp elt [⟨tg, iter, ifs, 0⟩] scope p3] [] pos) (tM u E (mFuse (finBools anyB) mi g mt me (own.map (·.2)))) :=
  d_fuse (id := .none) own C (fun h hs => pe_callB (cr_any C.calm) hgl hm boot_any h (by decide) (by decide) hs rfl) (fun rho w H D l vs Q r hD hr q => by rw [C.hK]; exact fin_any r hD hr q) ok hg hi hgt ht he hs
theorem d_tupC (own : List (Str × Nat)) (C : CO X u E) (hm : X.mg "tuple" = none) (ok : blkC X.N X.env.scope scope own = true) (hg : GOk X.K (own.map (·.2)) t g) (hi : PI X tg iter (tMI u E mi)) (hgt : ∀ s H c cl fp, CO (Blk X scope s H c cl fp) u E0 → PG (Blk X scope s H c cl fp) tg t)
    (ht : ∀ s H c cl fp, CO (Blk X scope s H c cl fp) u E0 → PTs (Blk X scope s H c cl fp) ifs (tMT u E0 mt)) (he : ∀ s H c cl fp, CO (Blk X scope s H c cl fp) u E0 → PE (Blk X scope s H c cl fp) elt (tM u E0 me)) (hs : ∀ x, foldedSetIterable iter X.env x = pure x := by intro _; rfl) (hgl : Gl X "tuple" := by rfl) :
    PE X (.Call (.Name "tuple" p2) [.ListComp elt [⟨tg, iter, ifs, 0⟩] scope p3] [] pos) (tM u E (mFuse finTup mi g mt me (own.map (·.2)))) :=
  d_fuse (id := .none) own C (fun h hs => pe_callTy call_tuple_of hgl hm PyProof.Rows.boot_tuple h (by decide) (by decide) hs rfl) (fun rho w H D l vs Q r hD hr q => by rw [C.hK]; exact fin_tup r hD hr q) ok hg hi hgt ht he hs
theorem d_lc2 (own : List (Str × Nat)) {vs1 : List Nat} {mt1 : M} {ifs1 : List Expr} (C : CO X u E) (ok : blkC X.N X.env.scope scope own = true) (hv : ∀ i ∈ vs1, i ∈ own.map (·.2)) (hg : GOk X.K (own.map (·.2)) t g) (hg1 : GOk X.K vs1 t1 g1) (hi : PI X tg iter (tMI u E mi))
    (hgt : ∀ s H c cl fp, CO (Blk X scope s H c cl fp) u E0 → PG (Blk X scope s H c cl fp) tg t) (ht : ∀ s H c cl fp, CO (Blk X scope s H c cl fp) u E0 → PTs (Blk X scope s H c cl fp) ifs (tMT u E0 mt))
    (hi1 : ∀ s H c cl fp, CO (Blk X scope s H c cl fp) u E0 → PI (Blk X scope s H c cl fp) tg1 iter1 (tMI u E0 mi1)) (hgt1 : ∀ s H c cl fp, CO (Blk X scope s H c cl fp) u E0 → PG (Blk X scope s H c cl fp) tg1 t1) (ht1 : ∀ s H c cl fp, CO (Blk X scope s H c cl fp) u E0 → PTs (Blk X scope s H c cl fp) ifs1 (tMT u E0 mt1))
    (he : ∀ s H c cl fp, CO (Blk X scope s H c cl fp) u E0 → PE (Blk X scope s H c cl fp) elt (tM u E0 me)) (hs : ∀ x, foldedSetIterable iter X.env x = pure x := by intro _; rfl) (hs1 : ∀ env x, foldedSetIterable iter1 env x = pure x := by intro _ _; rfl) :
    PE X (.ListComp elt [⟨tg, iter, ifs, 0⟩, ⟨tg1, iter1, ifs1, 0⟩] scope pos) (tM u E (mLc2 mi g mt mi1 g1 mt1 me (own.map (·.2)) vs1)) :=
  se_lc2 C.hK.symm hg hg1 (pe_lc2 C.calm C.nd hi (blkOk_by ok) hv (fun s H c cl fp => hgt s H c cl fp (C.blk ..)) (fun s H c cl fp => ht s H c cl fp (C.blk ..)) (fun s H c cl fp => hi1 s H c cl fp (C.blk ..)) (fun s H c cl fp => hgt1 s H c cl fp (C.blk ..)) (fun s H c cl fp => ht1 s H c cl fp (C.blk ..)) (fun s H c cl fp => he s H c cl fp (C.blk ..)) hs hs1)
/-- {k: v for ..}, the keys tuples -/
theorem d_dcT (own : List (Str × Nat)) {mk mv : M} (C : CO X u E) (ok : blkC X.N X.env.scope scope own = true) (hg : GOk X.K (own.map (·.2)) t g) (hi : PI X tg iter (tMI u E mi)) (hgt : ∀ s H c cl fp, CO (Blk X scope s H c cl fp) u E0 → PG (Blk X scope s H c cl fp) tg t)
    (ht : ∀ s H c cl fp, CO (Blk X scope s H c cl fp) u E0 → PTs (Blk X scope s H c cl fp) ifs (tMT u E0 mt)) (hk : ∀ s H c cl fp, CO (Blk X scope s H c cl fp) u E0 → PE (Blk X scope s H c cl fp) kx (tM u E0 mk)) (hv : ∀ s H c cl fp, CO (Blk X scope s H c cl fp) u E0 → PE (Blk X scope s H c cl fp) vx (tM u E0 mv))
    (hs : ∀ x, foldedSetIterable iter X.env x = pure x := by intro _; rfl) : PE X (.DictComp kx vx [⟨tg, iter, ifs, 0⟩] scope pos) (tM u E (mAcc mi g mt (stD mk mv) [] (.dct false) (own.map (·.2)))) :=
  se_acc accD C.hK.symm hg (acc_pe (pos' := iter.pos) rfl node_D fillD_mono (fun P H h hb => raw_ok (Heap.get?_push_size _ rfl)) C.calm C.nd hi (blkOk_by ok) (fun s H c cl fp => hgt s H c cl fp (C.blk ..)) (fun s H c cl fp => ht s H c cl fp (C.blk ..))
    (fun s H c cl fp => fills_D (C.blk s H scope (compEnvC scope cl c X.env) fp).hK C.hP C.hW (C.blk s H scope (compEnvC scope cl c X.env) fp).hu rfl (hk s H c cl fp (C.blk ..)) (hv s H c cl fp (C.blk ..))) hs)
theorem d_dcS (own : List (Str × Nat)) {mk mv : M} (C : CO X u E) (ok : blkC X.N X.env.scope scope own = true) (hg : GOk X.K (own.map (·.2)) t g) (hi : PI X tg iter (tMI u E mi)) (hgt : ∀ s H c cl fp, CO (Blk X scope s H c cl fp) u E0 → PG (Blk X scope s H c cl fp) tg t)
    (ht : ∀ s H c cl fp, CO (Blk X scope s H c cl fp) u E0 → PTs (Blk X scope s H c cl fp) ifs (tMT u E0 mt)) (hk : ∀ s H c cl fp, CO (Blk X scope s H c cl fp) u E0 → PE (Blk X scope s H c cl fp) kx (tM u E0 mk)) (hv : ∀ s H c cl fp, CO (Blk X scope s H c cl fp) u E0 → PE (Blk X scope s H c cl fp) vx (tM u E0 mv))
    (hs : ∀ x, foldedSetIterable iter X.env x = pure x := by intro _; rfl) : PE X (.DictComp kx vx [⟨tg, iter, ifs, 0⟩] scope pos) (tM u E (mAcc mi g mt (stS mk mv) [] .sd (own.map (·.2)))) :=
  se_acc accS C.hK.symm hg (acc_pe (pos' := iter.pos) rfl node_D fillD_mono (fun P H h hb => dk_empty h hb) C.calm C.nd hi (blkOk_by ok) (fun s H c cl fp => hgt s H c cl fp (C.blk ..)) (fun s H c cl fp => ht s H c cl fp (C.blk ..))
    (fun s H c cl fp => fills_S rfl (hk s H c cl fp (C.blk ..)) (hv s H c cl fp (C.blk ..))) hs)
theorem d_setI (own : List (Str × Nat)) (C : CO X u E) (ok : blkC X.N X.env.scope scope own = true) (hg : GOk X.K (own.map (·.2)) t g) (hi : PI X tg iter (tMI u E mi)) (hgt : ∀ s H c cl fp, CO (Blk X scope s H c cl fp) u E0 → PG (Blk X scope s H c cl fp) tg t)
    (ht : ∀ s H c cl fp, CO (Blk X scope s H c cl fp) u E0 → PTs (Blk X scope s H c cl fp) ifs (tMT u E0 mt)) (he : ∀ s H c cl fp, CO (Blk X scope s H c cl fp) u E0 → PE (Blk X scope s H c cl fp) elt (tM u E0 me))
    (hs : ∀ x, foldedSetIterable iter X.env x = pure x := by intro _; rfl) : PE X (.SetComp elt [⟨tg, iter, ifs, 0⟩] scope pos) (tM u E (mAcc mi g mt (stI me) [] .iset (own.map (·.2)))) :=
  se_acc accI C.hK.symm hg (acc_pe (pos' := iter.pos) rfl node_S fillS_mono (fun P H h hb => by rw [← C.hW]; exact setO_new (setR_fresh _)) C.calm C.nd hi (blkOk_by ok) (fun s H c cl fp => hgt s H c cl fp (C.blk ..)) (fun s H c cl fp => ht s H c cl fp (C.blk ..))
    (fun s H c cl fp => by
      have h := fills_I (X := X.blk s H scope (compEnvC scope cl c X.env) fp) rfl (he s H c cl fp (C.blk ..))
      rw [C.hW] at h
      rw [C.hW]
      exact h) hs)

/-! ### statements -/
theorem s_ret (h : PE X e (tM u E me)) : PS X (.Return (some e) pos) (tMS u E (sRet me)) := ss_ret (ps_ret h)
theorem s_retN : PS X (.Return none pos) (tMS u E sRetN) := ss_retN ps_retN
theorem s_expr (h : PE X e (tM u E me)) (hs : swapsWith e none pos.line X.env = pure false := by rfl) : PS X (.Expr e pos) (tMS u E (sDrop me)) := ss_drop (ps_expr h hs)
theorem s_if (hc : PT X c (tMT u E mc)) (ha : PSs X sts (tMS u E m1)) (hb : PSs X sts2 (tMS u E m2)) : PS X (.If c sts sts2 pos) (tMS u E (sIf mc m1 m2)) := ss_if (ps_if hc ha hb)
theorem s_while (C : CO X u E) (hc : PT X c (tMT u E mc)) (hb : PSs X sts (tMS u E m1)) : PS X (.While c sts [] pos) (tMS u E (sWhile mc m1)) := ss_while (ps_while C.po hc hb)
theorem s_for (vs : List Nat) (C : CO X u E) (hg : GOk X.K vs t g) (hi : PI X tg iter (tMI u E mi)) (hgt : PG X tg t) (hb : PSs X sts (tMS u E m1)) (hs : ∀ x, foldedSetIterable iter X.env x = pure x := by intro _; rfl) : PS X (.For tg iter sts [] pos) (tMS u E (sFor mi g m1)) :=
  ss_for C.hK.symm hg (ps_for C.po C.calm hi hgt hb hs)
/-- plain names, one or a tuple of them, = e -/
theorem s_asg (vs : List Nat) (C : CO X u E) (hg : GOk X.K vs t g) (hgt : PG X tg t) (he : PE X e (tM u E me)) (hs : swapsWithSole [tg] e pos.line X.env = pure false := by rfl) (hw : swappedStores [tg] e X.env = pure none := by rfl) (h1 : (assignEach [tg] X.env).map (·.2) = [assign tg X.env] := by rfl) : PS X (.Assign [tg] e pos) (tMS u E (sAsg me (gLift g))) :=
  ss_asg (ps_asg he (gok_asg C.hK.symm hg hgt) hs hw h1)
theorem lc_imp {vs : List Nat} (hK : u.K = X.K) (hg : GOk X.K vs t g) {σ : L2.St} {H : Hp} {Q : VK} (h : tM u E (mLc mi g mt me vs) σ H Q) : tLc (tMI u E mi) t (tMT u E0 mt) (tM u E0 me) vs σ H Q := by
  obtain ⟨rho, s, w, r, Z, q⟩ := h
  refine ⟨rho, s, w, r, Z, ?_⟩
  unfold mLc at q
  revert q
  cases mi s w with
  | bad => exact id
  | ex c p w1 => exact id
  | ok it w1 =>
    intro q rho1 H1 J e1 r1 hit hdn D hD
    obtain ⟨rD, eD⟩ := r1.tup (o := .lst []) hD
    have Z1 : SS u rho1 w1.n (L2.upd H1 D (.lst [])) (wipeD s vs) (L2.wipe σ vs) := (Z.wipe vs).mono (Nat.le_trans e1.n eD.n) (fun i hi => e1.rh i hi) (e1.tups.trans eD.tups)
    have ne1 : ∀ i, i < w1.n → rho1 i ≠ D := fun i hi z => r1.all i hi (by rw [z]; exact hD)
    dsimp only at q
    refine ⟨fun i m H' => ∃ rho2 w2 acc accV, Ext u rho1 w1 H1 rho2 w2 H' ∧ RW u rho2 w2 H' ∧ SS u rho2 w2.n H' (wipeD s vs) (L2.wipe σ vs) ∧ H' D = some (.lst accV) ∧ RVs u rho2 w2.n H' acc.reverse accV ∧ (∀ i, i < w2.n → rho2 i ≠ D) ∧ acc.length + m ≤ 100000 ∧
      (match lcFrom it g mt me (wipeD s vs) m i acc w2 with | .ok acc w3 => Post u E rho w H Q (alloc (.lst acc.reverse) w3) | .bad => False),
      ⟨100000, rho1, w1, [], [], eD, rD, Z1, upd_same, .nil, ne1, Nat.le_refl _, ?_⟩, ?_⟩
    · revert q
      cases lcFrom it g mt me (wipeD s vs) 100000 0 [] w1 with
      | ok acc w3 => exact id
      | bad => exact id
    · rintro i m H2 ⟨rho2, w2, acc, accV, e12, r2, Z2, hA, rA, ne2, hm, q2⟩
      cases m with
      | zero => exact q2.elim
      | succ k =>
        have hi := hit rho2 w2 H2 i e12.to0 r2
        unfold lcFrom at q2
        revert hi q2
        cases it.at w2 i with
        | bad => exact fun _ q2 => q2.elim
        | stop =>
          intro hi q2
          refine .inl ⟨hi, ?_⟩
          have eb0 : Ext u rho w H rho2 w2 H2 := e1.trans r e12
          obtain ⟨r2', eb, en⟩ := hdn rho2 w2 H2 eb0 e12 r2
          dsimp only at q2
          have ne2' : ∀ i, i < (it.done w2).n → rho2 i ≠ D := by rw [en]; exact ne2
          have rA' : RVs u rho2 (it.done w2).n H2 acc.reverse accV := by rw [en]; exact rA
          generalize it.done w2 = w2' at q2 r2' eb ne2' rA'
          unfold alloc at q2
          cases hb : Nat.blt w2'.n 1000000000 with
          | false => rw [hb] at q2; exact q2.elim
          | true =>
            rw [hb] at q2
            obtain ⟨r3, h3, h4⟩ := r2'.adopt (p := D) (o := .lst acc.reverse) (by rw [hA]; simp) ne2' hb ⟨accV, hA, rA'.mono (Nat.le_succ _) (fun i hi => rhoN_lt hi) (.refl _)⟩
            refine q2 _ H2 _ ⟨Nat.le_trans eb.n (Nat.le_succ _), fun i hi => (rhoN_lt (Nat.lt_of_lt_of_le hi eb.n)).trans (eb.rh i hi), eb.tups, fun i l hl hk => ⟨h4 i l (eb.lock i l hl hk).1, (eb.lock i l hl hk).2⟩, fun a ha h0 hn => ?_⟩ r3 (.ref _ (Nat.lt_succ_self _) rhoN_at.symm)
            obtain ⟨ea, na⟩ := eb.oth a ha h0 hn
            refine ⟨ea, fun j hj z => ?_⟩
            have hj' : j < Nat.succ w2'.n := hj
            by_cases hjn : j = w2'.n
            · rw [hjn, rhoN_at] at z
              obtain ⟨e1a, _⟩ := e1.oth a ha h0 hn
              exact ha (by rw [← e1a, ← z]; exact hD)
            · rw [rhoN_lt (by omega)] at z
              exact na j (by omega) z
        | it d =>
          intro ⟨hgo, hy⟩ q2
          dsimp only at q2
          cases hgd : g d (wipeD s vs) with
          | none => rw [hgd] at q2; exact q2.elim
          | some s3 =>
            rw [hgd] at q2
            dsimp only at q2
            refine .inr ⟨hgo, fun H' => ∃ rho2 w2 acc accV, Ext u rho1 w1 H1 rho2 w2 H' ∧ RW u rho2 w2 H' ∧ SS u rho2 w2.n H' (wipeD s vs) (L2.wipe σ vs) ∧ H' D = some (.lst accV) ∧ RVs u rho2 w2.n H' acc.reverse accV ∧ (∀ i, i < w2.n → rho2 i ≠ D) ∧ acc.length + k ≤ 100000 ∧
              (match lcFrom it g mt me (wipeD s vs) k (i + 1) acc w2 with | .ok acc w3 => Post u E rho w H Q (alloc (.lst acc.reverse) w3) | .bad => False), fun H' h' => ⟨k, Nat.lt_succ_self _, h'⟩, fun x H3 yl => ?_⟩
            obtain ⟨r3, e3, rv⟩ := hy x H3 yl
            have Z3 := Z2.mono e3.n e3.rh e3.tups
            refine hg u rho2 w2.n H3 d x (wipeD s vs) (L2.wipe σ vs) _ hK rv Z3 ?_
            rw [hgd]
            intro σ4 Z4 hw4
            have nD : H2 D ≠ none := by rw [hA]; simp
            have nT : ∀ ps, H2 D ≠ some (.tbl ps) := fun ps z => by rw [hA] at z; cases z
            obtain ⟨eD3, nD3⟩ := e3.oth D nD nT ne2
            -- the slots that stand aside stay as they were
            refine ⟨hw4.trans (wipe_wipe σ vs), ?_⟩
            refine tMT_then r3 Z4 ?_
            revert q2
            cases mt s3 w2 with
            | bad => exact id
            | ex c p w5 => exact fun q2 => q2.elim
            | ok dt w5 =>
              intro q2
              cases dt <;> try exact q2.elim
              rename_i b
              intro rho5 H5 e5 r5 Z5
              have e35 := e3.trans r2 e5
              obtain ⟨eD5, nD5⟩ := e35.oth D nD nT ne2
              cases b with
              | false =>
                exact ⟨rho5, w5, acc, accV, e12.trans r1 e35, r5, Z2.mono e35.n e35.rh e35.tups, eD5.trans hA, e35.rvs rA, nD5, by omega, q2⟩
              | true =>
                refine tM_then r5 Z5 ?_
                dsimp only at q2
                revert q2
                cases me s3 w5 with
                | bad => exact id
                | ex c p w7 => exact fun q2 => q2.elim
                | ok y w7 =>
                  intro q2 rho7 H7 v7 e7 r7 Z7 rv7
                  have e37 := e35.trans r2 e7
                  obtain ⟨eD7, nD7⟩ := e37.oth D nD nT ne2
                  have hA7 : H7 D = some (.lst accV) := eD7.trans hA
                  have rA7 := e37.rvs rA
                  obtain ⟨r8, e8, tp⟩ := side_upd (l := accV ++ [v7]) (e12.trans r1 e37) r7 hA7 nD7 hD
                  have hz : accV.length < sizeLine := by
                    have := (e37.rvs rA).length
                    rw [List.length_reverse] at this
                    rw [sizeLine_eq]
                    omega
                  refine ⟨accV, hA7, hz, rho7, w7, y :: acc, accV ++ [v7], e8, r8, (Z2.mono e37.n e37.rh e37.tups).mono (Nat.le_refl _) (fun _ _ => rfl) tp, upd_same, ?_, nD7, by rw [List.length_cons]; omega, q2⟩
                  rw [List.reverse_cons]
                  exact (rA7.mono (Nat.le_refl _) (fun _ _ => rfl) tp).append (.cons (rv7.mono (Nat.le_refl _) (fun _ _ => rfl) tp) .nil)
theorem gl_imp {vs : List Nat} (hK : u.K = X.K) (hg : GOk X.K vs t g) {v : V} {σ : L2.St} {H : Hp} {N : L2.St → Hp → Prop} (h : tMG u (gLift g) v σ H N) : t v σ H N := by
  obtain ⟨rho, s, w, d, r, Z, rv, q⟩ := h
  refine hg u rho w.n H d v s σ N hK rv Z ?_
  unfold gLift at q
  revert q
  cases g d s with
  | none => exact id
  | some s2 => exact fun q σ2 Z2 _ => q rho H σ2 .refl r Z2
theorem asg_imp {gg : G} {D : Ends} {σ : L2.St} {H : Hp} (h : tMS u E (sAsg ma gg) D σ H) : tM u E ma σ H fun v H1 => tMG u gg v σ H1 D.nx := by
  obtain ⟨rho, s, w, R, Z, q⟩ := h
  refine tM_then R Z ?_
  unfold sAsg at q
  revert q
  cases ma s w with
  | ok d w1 =>
    intro q rho1 H1 v e R1 Z1 rv
    refine ⟨rho1, s, w1, d, R1, Z1, rv, ?_⟩
    dsimp only at q
    revert q
    cases gg d s w1 with
    | ok s2 w2 => exact fun q rho2 H2 σ2 e2 R2 Z2 => q rho2 H2 σ2 (e.trans R e2) R2 Z2
    | bad => exact id
  | ex c p w1 => exact id
  | bad => exact id
theorem Post.mono {rho : Nat → Addr} {w : W} {H : Hp} {Q Q' : VK} {r : R} (h : Post u E rho w H Q r) (hq : ∀ v H, Q v H → Q' v H) : Post u E rho w H Q' r := by
  cases r with
  | ok d w1 => exact fun rho' H' v e r rv => hq _ _ (h rho' H' v e r rv)
  | ex c p w1 => exact h
  | bad => exact h
theorem tM_mono {σ : L2.St} {H : Hp} {Q Q' : VK} (h : tM u E ma σ H Q) (hq : ∀ v H, Q v H → Q' v H) : tM u E ma σ H Q' := by
  obtain ⟨rho, s, w, R, Z, q⟩ := h
  exact ⟨rho, s, w, R, Z, q.mono hq⟩
/-- name = [..] on one line: the comprehension's value goes to the name at once -/
theorem s_setLc (i : Nat) {y : Str} {py : Pos} (own : List (Str × Nat)) (C : CO X u E) (hy : X.N[i]? = some y) (hyl : X.env.scope.names.lookup y = some .local) (hsw : swapsWith (.ListComp elt [⟨tg, iter, ifs, 0⟩] scope p2) (some (.Name y py)) pos.line X.env = pure true)
    (ok : blkC X.N X.env.scope scope own = true) (hg : GOk X.K (own.map (·.2)) t g) (hi : PI X tg iter (tMI u E mi)) (hgt : ∀ s H c cl fp, CO (Blk X scope s H c cl fp) u E0 → PG (Blk X scope s H c cl fp) tg t)
    (ht : ∀ s H c cl fp, CO (Blk X scope s H c cl fp) u E0 → PTs (Blk X scope s H c cl fp) ifs (tMT u E0 mt)) (he : ∀ s H c cl fp, CO (Blk X scope s H c cl fp) u E0 → PE (Blk X scope s H c cl fp) elt (tM u E0 me)) (hs : ∀ x, foldedSetIterable iter X.env x = pure x := by intro _; rfl) :
    PS X (.Assign [.Name y py] (.ListComp elt [⟨tg, iter, ifs, 0⟩] scope p2) pos) (tMS u E (sAsg (mLc mi g mt me (own.map (·.2))) (gLift (gpName i)))) := by
  have h := ps_setLc (spos := pos) (py := py) C.calm C.nd hy hyl hsw hi (blkOk_by ok) (fun s H c cl fp => hgt s H c cl fp (C.blk ..)) (fun s H c cl fp => ht s H c cl fp (C.blk ..)) (fun s H c cl fp => he s H c cl fp (C.blk ..)) hs
  exact h.imp fun D σ H q => lc_imp C.hK.symm hg (tM_mono (asg_imp q) fun v H1 z => gl_imp (vs := [i]) C.hK.symm (gok_name List.mem_cons_self) z)

/-! ### defs and calls -/
variable {mas : MA} {mo mv : M}
theorem len_def {n kx : Nat} {B : MS} : ∀ ds w, ds.length ≠ n → fDef n kx B ds w = .bad := fun ds w h => by
  unfold fDef
  cases hb : Nat.beq ds.length n with
  | true => exact absurd (nat_beq hb) h
  | false => rfl
theorem se_callM {F : FN} {n : Nat} {dvs : List V} {dds : List D} (hl : ∀ ds w, ds.length ≠ n → F ds w = .bad) (h : PE X e (tCall (spM u F n) dvs E (tMA u E mas))) (hd : ∀ rho n H, RVs u rho n H dds dvs) : PE X e (tM u E (mCall F dds mas)) := by
  refine se_n (r := fun vs H1 Q => spM u F n (vs ++ dvs) H1 Q E) h fun rho w H ds vs Q r rv q => ?_
  have rv2 : RVs u rho w.n H (ds ++ dds) (vs ++ dvs) := rv.append (hd _ _ _)
  have hn : (ds ++ dds).length = n := Classical.byContradiction fun z => by
    rw [hl _ w z] at q
    exact q
  exact ⟨rv2.length.symm.trans hn, rho, w, ds ++ dds, r, rv2, q⟩
theorem se_makeM {c n : Nat} {C : Addr} {F : FN} (hl : ∀ ds w, ds.length ≠ n → F ds w = .bad) (hC : C = u.cl c) (h : PE X e (tMake C (spM u F n) [] E (tMA u E mas))) : PE X e (tM u E (mMake c (F) mas)) := by
  refine h.imp fun σ H Q ⟨rho, s, w, r, Z, q⟩ => ?_
  refine tMA_then r Z ?_
  unfold mMake at q
  revert q
  cases mas s w with
  | bad => exact id
  | ex c p w1 => exact id
  | ok ds w1 =>
    intro q rho1 H1 vs e1 r1 Z1 rv x dx hx hdx hne
    dsimp only at q
    unfold alloc at q
    cases hb : Nat.blt w1.n 1000000000 with
    | false => rw [hb] at q; exact q.elim
    | true =>
      rw [hb] at q
      dsimp only [cond_true] at q
      -- the new instance's dict, then the instance
      obtain ⟨r2, e2⟩ := r1.tup (o := .own x) hdx
      have hx2 : (L2.upd H1 dx (.own x)) x = none := by rw [upd_ne (fun z => hne z.symm)]; exact hx
      obtain ⟨r3, e3⟩ := r2.new (p := x) (ho := .ins C dx []) (o := .ins c []) hx2 hb ⟨dx, [], by rw [upd_same, hC], by rw [upd_ne hne, upd_same], rfl, .nil⟩ (fun _ z => by cases z)
      have e13 := e1.trans r (e2.trans r1 e3)
      have rvs3 := (e2.trans r1 e3).rvs rv
      rw [List.append_nil]
      have q1 : Post u E (rhoN rho1 w1.n x) (.mk (Nat.succ w1.n) (w1.t.put 40 w1.n (.ins c []))) (L2.upd (L2.upd H1 dx (.own x)) x (.ins C dx [])) (fun v H2 => v = V.non ∧ Q (.ref x) H2) (F (.ref w1.n :: ds) (.mk (Nat.succ w1.n) (w1.t.put 40 w1.n (.ins c [])))) := by
        revert q
        cases F (.ref w1.n :: ds) (.mk (Nat.succ w1.n) (w1.t.put 40 w1.n (.ins c []))) with
        | bad => exact id
        | ex c p w => exact fun q => PostX.to q r e13
        | ok d w4 =>
          intro q
          cases d <;> try exact q.elim
          intro rho4 H4 v4 e4 r4 rv4
          cases rv4
          have hlt : w1.n < w4.n := Nat.lt_of_lt_of_le (Nat.lt_succ_self _) e4.n
          exact ⟨rfl, q rho4 H4 _ (e13.trans r e4) r4 (.ref _ hlt ((e4.rh w1.n (Nat.lt_succ_self _)).trans rhoN_at).symm)⟩
      have hb2 : (D.ref w1.n :: ds).length = n := Classical.byContradiction fun z => by
        rw [hl _ _ z] at q1
        exact q1
      have rv4 : RVs u (rhoN rho1 w1.n x) (Nat.succ w1.n) (L2.upd (L2.upd H1 dx (.own x)) x (.ins C dx [])) (.ref w1.n :: ds) (.ref x :: vs) := .cons (.ref _ (Nat.lt_succ_self _) rhoN_at.symm) rvs3
      exact ⟨rv4.length.symm.trans hb2, _, _, _, r3, rv4, q1⟩
theorem ss_fldM {c j : Nat} {C : Addr} {fn : Str} (hK : X.K = u.K) (hcl : Cls u.K (u.cl c)) (hna : NoAttr u.K (u.cl c) fn) (hj : (u.fld c)[j]? = some fn) (hnd : (u.fld c).Nodup) (hlen : (u.fld c).length < 100)
    (h : PS X st (sFld X.K (tM u E mo) (tM u E mv) fn)) : PS X st (tMS u E (sFldSet c j mo mv)) := by
  refine h.imp fun D σ H ⟨rho, s, w, r, Z, q⟩ => ?_
  refine tM_then r Z ?_
  unfold sFldSet at q
  revert q
  cases mv s w with
  | bad => exact id
  | ex c p w1 => exact id
  | ok d w1 =>
    intro q rho1 H1 v e1 r1 Z1 rv
    refine tM_then r1 Z1 ?_
    dsimp only at q
    revert q
    cases mo s w1 with
    | bad => exact id
    | ex c p w2 => exact fun q => PostX.to q r e1
    | ok d2 w2 =>
      intro q rho2 H2 v2 e2 r2 Z2 rv2
      cases d2 <;> try exact q.elim
      rename_i i
      dsimp only at q
      split at q
      · rename_i k fs e0
        cases hb : Nat.beq k c with
        | false => rw [hb] at q; exact q.elim
        | true =>
          rw [hb] at q
          dsimp only [cond_true] at q
          cases hb2 : Nat.beq j fs.length with
          | false => rw [hb2] at q; exact q.elim
          | true =>
            rw [hb2] at q
            have hk := nat_beq hb
            have hj2 := nat_beq hb2
            subst hk hj2
            obtain ⟨dx, nvs, f1, f2, f3, f4⟩ := r2.obj i _ e0
            cases rv2 with
            | ref _ hi ha =>
              subst ha
              have hl : nvs.length = fs.length := by
                have a := f4.length
                rw [List.length_map] at a
                exact a.symm
              have hlt : fs.length < (u.fld k).length := (List.getElem?_eq_some_iff.mp hj).1
              have hnot : fn ∉ nvs.map (·.1) := by
                rw [f3]
                intro hm
                obtain ⟨m, hm1, hm2⟩ := List.mem_iff_getElem.mp hm
                rw [List.length_take] at hm1
                rw [List.getElem_take] at hm2
                obtain ⟨h1, h2⟩ := List.getElem?_eq_some_iff.mp hj
                have := (List.getElem_inj hnd).mp (hm2.trans h2.symm)
                omega
              rw [hK]
              refine ⟨_, _, dx, nvs, rfl, f1, hcl, hna, by omega, ?_⟩
              rw [putF_new hnot]
              have rvd := e2.rv rv
              have tp : Tups H2 (L2.upd H2 (rho2 i) (.ins (u.cl k) dx (nvs ++ [(fn, v)]))) := .write f1 (wr_ins _ _ _)
              have hne : dx ≠ rho2 i := fun z => by rw [z, f1] at f2; cases f2
              obtain ⟨r3, e3⟩ := r2.upd (o' := .ins k (fs ++ [d])) (ho' := .ins (u.cl k) dx (nvs ++ [(fn, v)])) e0 f1 (wr_ins _ _ _) (fun _ z => by cases z)
                ⟨dx, nvs ++ [(fn, v)], upd_same, by rw [upd_ne hne]; exact f2, by
                  rw [List.map_append, f3, List.length_append]
                  show _ = (u.fld k).take (fs.length + 1)
                  rw [List.take_add_one, hj]; rfl, by
                  rw [List.map_append]
                  exact (f4.append (.cons rvd .nil)).mono (Nat.le_refl _) (fun _ _ => rfl) tp⟩
              exact q rho2 _ σ ((e1.trans r e2).trans r e3) r3 (Z2.mono (Nat.le_refl _) (fun _ _ => rfl) tp)
      · exact q.elim
end
/-- a def of the text that keeps the evaluator's promise; dds: what stands for the arguments that are not written -/
structure DefOk (u : U) (mg : Str → Option Value) (base : Heap) (x : Str) (ps : List Str) (k : Nat) (F : FN) (n : Nat) (dds : List D) : Prop where
  ok : ∃ f fd ds dvs, mg x = some (.ref f) ∧ PySem.W.keepIn u.K (.ref f) = true ∧ Binds u.K fd ps ds ∧ Vals dvs ds ∧ (∀ rho n H, RVs u rho n H dds dvs) ∧ FnOk u.P u.w u.K mg base (L2N.CX u.P u.w) k f fd ps (spM u F n)
  len : ∀ ds w, ds.length ≠ n → F ds w = .bad
section
variable {u : U} {mg : Str → Option Value} {base : Heap} {x qual : Str} {params : Arguments} {body : List Stmt} {scope : Scope} {dvs : List V} {kws : List (Str × V)} {f : Addr} {fd : FuncData} {N ps : List Str} {B : MS} {k : Nat}
abbrev DX (u : U) (mg : Str → Option Value) (base : Heap) (N : List Str) (qual : Str) (scope : Scope) (f : Addr) (cdv : Value) (A : Around) (outer : List Env) (s : Shared) (H : Hp) (E : XK) : Cx := cxOf (L2N.CX u.P u.w) u.P u.w u.K mg base N qual scope f cdv A outer s H E
theorem def_okM (F : FunD u.K x qual params body scope dvs kws f fd) (S : FnScope N ps scope) {n kx : Nat} (hn : ps.length = n) (hN : N.length = n + kx)
    (hb : ∀ (cdv : Value) (A : Around) (outer : List Env) (s : Shared) (H : Hp) (E : XK), CO (DX u mg base N qual scope f cdv A outer s H E) u E → Room k (DX u mg base N qual scope f cdv A outer s H E).A → PSs (DX u mg base N qual scope f cdv A outer s H E) body (tMS u E B)) :
    FnOk u.P u.w u.K mg base (L2N.CX u.P u.w) (k + 1) f fd ps (spM u (fDef n kx B) n) := by
  refine F.ok S (fun vs H Q E h => h.1.trans hn.symm) (fun cdv A outer s H vs Q E hr h => ⟨tMS u E B, hb cdv A outer s H E ⟨rfl, rfl, rfl, rfl, by have := hr.un; show (A.deeper _).units + 64 < cLine; omega, L2N.takes_of rfl rfl rfl rfl, passes_of rfl, S.nd⟩ hr, ?_⟩)
  obtain ⟨hl, rho, w, ds, r, rv, q⟩ := h
  unfold fDef at q
  obtain ⟨_, q⟩ := bbeq q
  refine ⟨rho, ds ++ List.replicate kx .no, w, r, ?_, ?_⟩
  · have e : N.length - vs.length = kx := by omega
    unfold L2.start
    rw [e]
    exact SS.start rv kx
  · revert q
    cases B (ds ++ List.replicate kx .no) w with
    | rt d w1 => exact id
    | nx s1 w1 => exact fun q rho' H' σ' e r' _ => q rho' H' .non e r' .non
    | ex c p w1 => exact id
    | bk s1 w1 => exact fun q => q.elim
    | ct s1 w1 => exact fun q => q.elim
    | bad => exact fun q => q.elim
/-- a def of the top that keeps the promise of its body -/
theorem DefOk.of (hF : ∃ f fd, mg x = some (.ref f) ∧ FunD u.K x x params body scope [] [] f fd) (S : FnScope N ps scope) {n kx : Nat} (hn : ps.length = n) (hN : N.length = n + kx)
    (hp : ∀ (kV doc pm : Value) (an : Option Addr) (cdv ct : Value) (us : List Value), us.length = ps.length → bindArgs (PySem.W.fnOf x x params body scope .none kV doc pm an cdv ct) ⟨us, []⟩ = pure (ps.zip us))
    (hb : ∀ (f : Addr) (cdv : Value) (A : Around) (outer : List Env) (s : Shared) (H : Hp) (E : XK), CO (DX u mg base N x scope f cdv A outer s H E) u E → Room k (DX u mg base N x scope f cdv A outer s H E).A → PSs (DX u mg base N x scope f cdv A outer s H E) body (tMS u E B)) :
    DefOk u mg base x ps (k + 1) (fDef n kx B) n [] := by
  obtain ⟨f, fd, hm, F⟩ := hF
  exact ⟨⟨f, fd, [], [], hm, F.kp, F.bindsN hp, .nil, fun _ _ _ => .nil, def_okM F S hn hN (hb f)⟩, len_def⟩
end
section
variable {X : Cx} {u : U} {E : XK} {e : Expr} {es : List Expr} {pos p2 : Pos} {mas : MA} {k n : Nat} {ps : List Str} {x : Str} {F : FN} {dds : List D}
theorem CO.pass (C : CO X u E) : Passes (L2N.CX X.prog X.w) X E := L2N.passes_call C.tk fun _ _ _ _ h => h
theorem d_call (C : CO X u E) (D : DefOk u X.mg X.base x ps k F n dds) (hr : Room k X.A) (ha : PA X (e :: es) (tMA u E mas)) (hg : Gl X x := by rfl) (hdb : (x == ("__debug__" : Str)) = false := by decide)
    (he : starEach (e :: es) X.env = (false, eval e X.env) :: starEach es X.env := by rfl) (hpl : (backTo pos (starEach es X.env)).any (·.1) = false := by rfl) : PE X (.Call (.Name x p2) (e :: es) [] pos) (tM u E (mCall F dds mas)) := by
  obtain ⟨f, fd, ds, dvs, h1, h2, h3, h4, h5, h6⟩ := D.ok
  rw [← C.hK, ← C.hP, ← C.hW] at h6
  rw [← C.hK] at h2 h3
  exact se_callM D.len (pe_call h6 hr hg h1 h2 h3 h4 C.pass ha hdb he hpl) h5
theorem d_call0 (C : CO X u E) (D : DefOk u X.mg X.base x ps k F n dds) (hr : Room k X.A) (hg : Gl X x := by rfl) (hdb : (x == ("__debug__" : Str)) = false := by decide) : PE X (.Call (.Name x p2) [] [] pos) (tM u E (mCall F dds aNil)) := by
  obtain ⟨f, fd, ds, dvs, h1, h2, h3, h4, h5, h6⟩ := D.ok
  rw [← C.hK, ← C.hP, ← C.hW] at h6
  rw [← C.hK] at h2 h3
  refine se_callM D.len ((pe_call0 h6 hr hg h1 h2 h3 h4 C.pass hdb).imp fun σ H Q q => ?_) h5
  show spM u F n ([] ++ dvs) H Q E
  obtain ⟨rho, s, w, R, Z, q⟩ := q
  exact q rho H [] .refl R .nil

/-! ### more -/
variable {a b c o : Expr} {ma mb mc mo me : M} {st : Stmt} {j : Nat} {p3 p4 p5 : Pos}
def mBad : M := fun _ _ => .bad
theorem d_bad : PE X e (tM u E mBad) := ⟨fun pins s σ H Q I h => by obtain ⟨_, _, _, _, _, q⟩ := h; exact q.elim⟩
theorem s_bad : PS X st (tMS u E sBad) := ss_bad
theorem d_rev (C : CO X u E) (ha : PE X a (tM u E ma)) : PE X (.Subscript a (.Slice none none (some (.UnaryOp .USub (.Constant (.int 1) j p3) p4)) p5) pos) (tM u E (mUn fRev ma)) := se_un (pe_revL ha) (by rw [C.hK]; exact fits_rev)
theorem d_listRg (C : CO X u E) (hm : X.mg "list" = none) (hr : X.mg "range" = none) (ha : PE X a (tM u E ma)) (hb : PE X b (tM u E mb)) (hg : Gl X "list" := by rfl) (hg2 : Gl X "range" := by rfl) (na : starEach [a, b] X.env = (false, eval a X.env) :: starEach [b] X.env := by rfl)
    (nb : starEach [b] X.env = (false, eval b X.env) :: starEach [] X.env := by rfl) (hp : (backTo p3 (starEach [b] X.env)).any (·.1) = false := by rfl) : PE X (.Call (.Name "list" p2) [.Call (.Name "range" p4) [a, b] [] p3] [] pos) (tM u E (mListRg ma mb)) :=
  se_listRg (pe_listRg C.calm hg hm (prg_2 hg2 hr ha hb na nb hp) rfl)
theorem s_sub (C : CO X u E) (ho : PE X a (tM u E0 ma)) (hi : PE X b (tM u E0 mb)) (he : PE X e (tM u E me)) (hs : swapsWithSole [.Subscript a b p2] e pos.line X.env = pure false := by rfl) (hw : swappedStores [.Subscript a b p2] e X.env = pure none := by rfl) (h1 : (assignEach [.Subscript a b p2] X.env).map (·.2) = [assign (.Subscript a b p2) X.env] := by rfl)
    (hx : ∀ v, assign (.Subscript a b p2) X.env v = (do
      let ov ← holding [v] (eval a X.env)
      let iv ← holding [v, ov] (eval b X.env)
      standAt p2
      holding [v, ov, iv] (setItem ov iv v)
      release [v, ov, iv] []) := by intro _; rfl) : PS X (.Assign [.Subscript a b p2] e pos) (tMS u E (sAsg me (gSubA ma mb))) :=
  ss_asg (ps_asg he (sg_subA (pg_sub ho hi (PSet_or set_list (set_dictK C.hK C.hP C.hW C.hu)) hx)) hs hw h1)
theorem d_setd {apos : Pos} (C : CO X u E) (ho : PE X o (tM u E mo)) (ha : PE X a (tM u E ma)) (hb : PE X b (tM u E mb)) (m : M2 X o "setdefault" apos a b pos) : PE X (.Call (.Attribute o "setdefault" apos) [a, b] [] pos) (tM u E (mSetd mo ma mb)) := se_setd (pe_setd C.hK C.hP C.hW C.hu ho ha hb m)

/-! ### a, b = x, y -/
def sPar2 (i j : Nat) (as : MA) : MS := fun s w => match as s w with
  | .ok [a, b] w1 => .nx (sset (sset s i a) j b) w1
  | .ex c p w => .ex c p w
  | _ => .bad
def sPar3 (i j l : Nat) (as : MA) : MS := fun s w => match as s w with
  | .ok [a, b, c] w1 => .nx (sset (sset (sset s i a) j b) l c) w1
  | .ex c p w => .ex c p w
  | _ => .bad
theorem s_par2 (i i' : Nat) {x y : Str} {px py pt : Pos} {kt k2 : Nat} {pt2 : Pos} (C : CO X u E) (hi : X.N[i]? = some x) (hj : X.N[i']? = some y) (hij : i ≠ i')
    (hx : X.env.scope.names.lookup x = some .local) (hy : X.env.scope.names.lookup y = some .local) (ha : PA X [a, b] (tMA u E mas))
    (hw : swappedStores [.Tuple [.Name x px, .Name y py] kt pt] (.Tuple [a, b] k2 pt2) X.env = pure (some [x, y]))
    (hs : swapsWithSole [.Tuple [.Name x px, .Name y py] kt pt] (.Tuple [a, b] k2 pt2) pos.line X.env = pure false := by rfl) :
    PS X (.Assign [.Tuple [.Name x px, .Name y py] kt pt] (.Tuple [a, b] k2 pt2) pos) (tMS u E (sPar2 i i' mas)) := by
  refine (ps_par C.calm C.nd hi hj hij hx hy ha hw hs).imp fun D σ H ⟨rho, s, w, R, Z, q⟩ => ?_
  refine tMA_then R Z ?_
  unfold sPar2 at q
  revert q
  cases mas s w with
  | bad => exact fun q => q.elim
  | ex c p w1 => exact id
  | ok ds w1 =>
    match ds with
    | [] => exact fun q => q.elim
    | [_] => exact fun q => q.elim
    | _ :: _ :: _ :: _ => exact fun q => q.elim
    | [d1, d2] =>
      intro q rho1 H1 vs e R1 Z1 rv
      match vs, rv with
      | [v1, v2], .cons r1 (.cons r2 .nil) => exact ⟨v1, v2, rfl, q rho1 H1 _ e R1 ((Z1.set r1 i).set r2 i')⟩
theorem s_par3 (i i' i3 : Nat) {x y z : Str} {px py pz pt : Pos} {kt k2 : Nat} {pt2 : Pos} (C : CO X u E) (hi : X.N[i]? = some x) (hj : X.N[i']? = some y) (hl : X.N[i3]? = some z) (hij : i ≠ i') (hil : i ≠ i3) (hjl : i' ≠ i3)
    (hx : X.env.scope.names.lookup x = some .local) (hy : X.env.scope.names.lookup y = some .local) (hz : X.env.scope.names.lookup z = some .local) (ha : PA X [a, b, c] (tMA u E mas))
    (hw : swappedStores [.Tuple [.Name x px, .Name y py, .Name z pz] kt pt] (.Tuple [a, b, c] k2 pt2) X.env = pure (some [x, y, z]))
    (hs : swapsWithSole [.Tuple [.Name x px, .Name y py, .Name z pz] kt pt] (.Tuple [a, b, c] k2 pt2) pos.line X.env = pure false := by rfl) :
    PS X (.Assign [.Tuple [.Name x px, .Name y py, .Name z pz] kt pt] (.Tuple [a, b, c] k2 pt2) pos) (tMS u E (sPar3 i i' i3 mas)) := by
  refine (ps_par3 C.calm C.nd hi hj hl hij hil hjl hx hy hz ha hw hs).imp fun D σ H ⟨rho, s, w, R, Z, q⟩ => ?_
  refine tMA_then R Z ?_
  unfold sPar3 at q
  revert q
  cases mas s w with
  | bad => exact fun q => q.elim
  | ex c p w1 => exact id
  | ok ds w1 =>
    match ds with
    | [] => exact fun q => q.elim
    | [_] => exact fun q => q.elim
    | [_, _] => exact fun q => q.elim
    | _ :: _ :: _ :: _ :: _ => exact fun q => q.elim
    | [d1, d2, d3] =>
      intro q rho1 H1 vs e R1 Z1 rv
      match vs, rv with
      | [v1, v2, v3], .cons r1 (.cons r2 (.cons r3 .nil)) => exact ⟨v1, v2, v3, rfl, q rho1 H1 _ e R1 (((Z1.set r1 i).set r2 i').set r3 i3)⟩
/-! ### classes -/
/-- a class of the text: C(..) and its __init__ -/
structure MkOk (u : U) (mg : Str → Option Value) (base : Heap) (x : Str) (c : Nat) (ps : List Str) (k : Nat) (F : FN) (n : Nat) : Prop where
  ok : ∃ f fd, mg x = some (.ref (u.cl c)) ∧ Mk u.K (u.cl c) f ∧ Binds u.K fd ps [] ∧ FnOk u.P u.w u.K mg base (L2N.CX u.P u.w) k f fd ps (spM u F n)
  len : ∀ ds w, ds.length ≠ n → F ds w = .bad
theorem d_make {c : Nat} (C : CO X u E) (D : MkOk u X.mg X.base x c ps k F n) (hr : Room (k + 1) X.A) (ha : PA X (e :: es) (tMA u E mas)) (hg : Gl X x := by rfl) (hdb : (x == ("__debug__" : Str)) = false := by decide)
    (he : starEach (e :: es) X.env = (false, eval e X.env) :: starEach es X.env := by rfl) (hpl : (backTo pos (starEach es X.env)).any (·.1) = false := by rfl) : PE X (.Call (.Name x p2) (e :: es) [] pos) (tM u E (mMake c F mas)) := by
  obtain ⟨f, fd, h1, h2, h3, h6⟩ := D.ok
  rw [← C.hK, ← C.hP, ← C.hW] at h6
  have h2' := h2
  have h3' := h3
  rw [← C.hK] at h2' h3'
  exact se_makeM D.len rfl (pe_make h2' h6 hr hg h1 h3' .nil C.pass ha hdb he hpl)
/-- what is asked of a class whose fields are set -/
structure FldOk (u : U) (c : Nat) (fs : List Str) : Prop where
  cls : Cls u.K (u.cl c)
  na : ∀ f ∈ fs, NoAttr u.K (u.cl c) f
  fs : u.fld c = fs
theorem s_fld {c : Nat} {fs : List Str} {fn : Str} {p6 : Pos} (j : Nat) (C : CO X u E) (T : FldOk u c fs) (ho : PE X o (tM u E mo)) (he : PE X e (tM u E me)) (hj : fs[j]? = some fn) (hnd : fs.Nodup) (hlen : fs.length < 100) (hs : swapsWith e (some (.Attribute o fn p6)) pos.line X.env = pure false := by rfl) : PS X (.Assign [.Attribute o fn p6] e pos) (tMS u E (sFldSet c j mo me)) :=
  ss_fldM (C := u.cl c) C.hK T.cls (T.na _ (List.mem_of_getElem? hj)) (by rw [T.fs]; exact hj) (by rw [T.fs]; exact hnd) (by rw [T.fs]; exact hlen) (ps_fld ho he hs)
end
section
variable {u : U} {mg : Str → Option Value} {base : Heap} {x qual : Str} {params : Arguments} {body : List Stmt} {scope : Scope} {f : Addr} {fd : FuncData} {N ps : List Str} {B : MS} {k : Nat}
theorem MkOk.of {c : Nat} (hF : ∃ f fd, mg x = some (.ref (u.cl c)) ∧ Mk u.K (u.cl c) f ∧ FunD u.K "__init__" qual params body scope [] [] f fd) (S : FnScope N ps scope) {n kx : Nat} (hn : ps.length = n) (hN : N.length = n + kx)
    (hp : ∀ (kV doc pm : Value) (an : Option Addr) (cdv ct : Value) (us : List Value), us.length = ps.length → bindArgs (PySem.W.fnOf "__init__" qual params body scope .none kV doc pm an cdv ct) ⟨us, []⟩ = pure (ps.zip us))
    (hb : ∀ (f : Addr) (cdv : Value) (A : Around) (outer : List Env) (s : Shared) (H : Hp) (E : XK), CO (DX u mg base N qual scope f cdv A outer s H E) u E → Room k (DX u mg base N qual scope f cdv A outer s H E).A → PSs (DX u mg base N qual scope f cdv A outer s H E) body (tMS u E B)) :
    MkOk u mg base x c ps (k + 1) (fDef n kx B) n := by
  obtain ⟨f, fd, h1, h2, F⟩ := hF
  exact ⟨⟨f, fd, h1, h2, F.bindsN hp, def_okM F S hn hN (hb f)⟩, len_def⟩
/-- a def with defaults, all arguments written, or the last ones not -/
theorem DefOk.ofD {dvs : List V} {dds : List D} (m : Nat) (hF : ∃ f fd, mg x = some (.ref f) ∧ FunD u.K x x params body scope dvs [] f fd) (S : FnScope N ps scope) {n kx : Nat} (hn : ps.length = n) (hN : N.length = n + kx) (hd : dvs ≠ []) (hm : m + (dvs.length - (dvs.length - (n - m))) = n)
    (hp : ∀ (T : Addr) (kV doc pm : Value) (an : Option Addr) (cdv ct : Value) (us its : List Value), us.length = m → its.length = dvs.length →
      ∃ k, bindArgs (PySem.W.fnOf x x params body scope (.ref T) kV doc pm an cdv ct) ⟨us, []⟩ = seqItems? (.ref T) >>= k ∧ k (some its.toArray) = pure (ps.zip (us ++ its.drop (dvs.length - (n - m)))))
    (hv : ∀ rho n' H, RVs u rho n' H dds (dvs.drop (dvs.length - (n - m))))
    (hb : ∀ (f : Addr) (cdv : Value) (A : Around) (outer : List Env) (s : Shared) (H : Hp) (E : XK), CO (DX u mg base N x scope f cdv A outer s H E) u E → Room k (DX u mg base N x scope f cdv A outer s H E).A → PSs (DX u mg base N x scope f cdv A outer s H E) body (tMS u E B)) :
    DefOk u mg base x ps (k + 1) (fDef n kx B) n dds := by
  obtain ⟨f, fd, h1, F⟩ := hF
  obtain ⟨ds, h2, h3⟩ := F.binds1 (ps := ps) m (dvs.length - (n - m)) hd (by omega) hp
  exact ⟨⟨f, fd, ds, _, h1, F.kp, h3, h2, hv, def_okM F S hn hN (hb f)⟩, len_def⟩
/-- a def that calls itself, so many levels deep -/
theorem DefOk.recu {n kx : Nat} {B : FN → MS} {c : Nat} (hF : ∃ f fd, mg x = some (.ref f) ∧ FunD u.K x x params body scope [] [] f fd) (S : FnScope N ps scope) (hn : ps.length = n) (hN : N.length = n + kx)
    (hp : ∀ (kV doc pm : Value) (an : Option Addr) (cdv ct : Value) (us : List Value), us.length = ps.length → bindArgs (PySem.W.fnOf x x params body scope .none kV doc pm an cdv ct) ⟨us, []⟩ = pure (ps.zip us))
    (hb : ∀ (F : FN) (k : Nat), c ≤ k → DefOk u mg base x ps k F n [] → ∀ (f : Addr) (cdv : Value) (A : Around) (outer : List Env) (s : Shared) (H : Hp) (E : XK), CO (DX u mg base N x scope f cdv A outer s H E) u E → Room k (DX u mg base N x scope f cdv A outer s H E).A → PSs (DX u mg base N x scope f cdv A outer s H E) body (tMS u E (B F))) :
    ∀ k : Nat, DefOk u mg base x ps (k + c) (@Nat.rec (fun _ => FN) (fun _ _ => .bad) (fun _ ih => fDef n kx (B ih)) k) n []
  | 0 => by
    obtain ⟨f, fd, h1, F⟩ := hF
    refine ⟨⟨f, fd, [], [], h1, F.kp, F.bindsN hp, .nil, fun _ _ _ => .nil, ⟨fun vs H Q E h => h.1.trans hn.symm, fun A outer s H args us vs Q E _ _ _ _ h => ?_⟩⟩, fun _ _ _ => rfl⟩
    obtain ⟨_, _, _, _, _, _, q⟩ := h
    exact q.elim
  | k + 1 => by
    have ih := DefOk.recu hF S hn hN hp hb k
    have := DefOk.of (k := k + c) hF S hn hN hp (hb _ (k + c) (by omega) ih)
    have e : k + 1 + c = k + c + 1 := by omega
    rw [e]
    exact this
end
end Ev

set_option Elab.async false
set_option linter.all false
set_option maxRecDepth 100000
set_option maxHeartbeats 4000000
/-! EvU: raise, fields read, pop, +=, *, more comprehensions. -/
namespace Ev
open PySem PySem.Spec PyProof.Rows L2
section
variable {X : Cx} {u : U} {E : XK} {a b c e o : Expr} {es ifs : List Expr} {pos p2 p3 p4 p5 : Pos} {ma mb mo me mt : M} {mas : MA} {j : Nat} {rho : Nat → Addr} {w : W} {H : Hp}
/-! ### raise C('..') -/
def sRaise (c : Nat) : MS := fun _ w => .ex c .no w
structure ExcOk (u : U) (mg : Str → Option Value) (x : Str) (c : Nat) : Prop where
  mg : mg x = some (.ref (u.cl c))
  ex : PySem.W.excIn u.K (u.cl c) He.veBase "ValueError.__new__" = true
  kp : PySem.W.keepIn u.K (.ref (u.cl c)) = true
  sub : PySem.W.subIn u.K (.ref (u.cl c)) (.type "BaseException") = some true
  ty : PySem.W.typeIn u.K (.ref (u.cl c)) = some (.type "type")
theorem s_raise {x m : Str} {c : Nat} (C : CO X u E) (T : ExcOk u X.mg x c) (hg : Gl X x := by rfl) (hdb : (x == ("__debug__" : Str)) = false := by decide) : PS X (.Raise (some (.Call (.Name x p2) [.Constant (.str m) j p3] [] p4)) none pos) (tMS u E (sRaise c)) := by
  have h := L2N.ps_raise (pos := pos) C.calm C.tk (L2N.pmk_own (m := m) (j := j) (p := p2) (p2 := p3) (pos := p4) PySem.F.excBase_ValueError (by rw [C.hK]; exact T.ex) T.mg (by rw [C.hK]; exact T.kp) (raises_own (by rw [C.hK]; exact T.sub) (by rw [C.hK]; exact T.ty)) hg hdb)
  exact h.imp fun D σ H ⟨rho, s, w, R, Z, q⟩ => q rho H none .refl R (.inl ⟨rfl, rfl⟩)
/-! ### o.f -/
def fldIx : List (Nat × Nat) → Nat → Option Nat
  | [], _ => none
  | (c, j) :: r, k => bif Nat.beq c k then some j else fldIx r k
def fFld (tb : List (Nat × Nat)) : F1 := fun x w => match x with
  | .ref i => (match w.get i with
    | some (.ins c fs) => (match fldIx tb c with
      | some j => bif Nat.blt j fs.length then .ok (nth fs j) w else .bad
      | none => .bad)
    | _ => .bad)
  | _ => .bad
structure FldsOk (u : U) (f : Str) (tb : List (Nat × Nat)) : Prop where
  ok : ∀ c j, fldIx tb c = some j → Cls u.K (u.cl c) ∧ NoAttr u.K (u.cl c) f ∧ (u.fld c)[j]? = some f ∧ (u.fld c).Nodup
theorem lookup_at {f : Str} : ∀ {nvs : List (Str × V)} {j : Nat}, (nvs.map (·.1))[j]? = some f → (nvs.map (·.1)).Nodup → ∀ v, (nvs.map (·.2))[j]? = some v → nvs.lookup f = some v
  | [], j, h, _, _, _ => by simp at h
  | (g, x) :: r, 0, h, _, v, hv => by
    simp at h hv
    subst h hv
    simp [List.lookup]
  | (g, x) :: r, j + 1, h, nd, v, hv => by
    have nd' := List.nodup_cons.mp (show (g :: r.map (·.1)).Nodup from nd)
    have h' : (r.map (·.1))[j]? = some f := by simpa using h
    have hm : f ∈ r.map (·.1) := List.mem_of_getElem? h'
    have hne : f ≠ g := fun z => nd'.1 (by rw [← z]; exact hm)
    have hb : (f == g) = false := beq_eq_false_iff_ne.mpr hne
    show (match f == g with | true => some x | false => r.lookup f) = some v
    rw [hb]
    exact lookup_at h' nd'.2 v (by simpa using hv)
theorem nth_get : ∀ {fs : List D} {j : Nat}, j < fs.length → fs[j]? = some (nth fs j)
  | [], _, h => by simp at h
  | _ :: _, 0, _ => rfl
  | x :: r, j + 1, h => by
    have := nth_get (fs := r) (j := j) (by simpa using h)
    show (x :: r)[j + 1]? = some (nth r j)
    simpa using this
def rFld (K : PySem.W.Frag) (f : Str) : V → Hp → VK → Prop := fun x H Q => ∃ a C dx fs v, x = .ref a ∧ H a = some (.ins C dx fs) ∧ Cls K C ∧ NoAttr K C f ∧ fs.lookup f = some v ∧ Q v H
theorem fits_fld {f : Str} {tb : List (Nat × Nat)} (T : FldsOk u f tb) : Fits1 u E (rFld u.K f) (fFld tb) := by
  intro rho w H d v Q r rv q
  unfold fFld at q
  split at q
  · rename_i i
    split at q
    · rename_i c fs e0
      split at q
      · rename_i j ej
        obtain ⟨hb, q⟩ := bbeq q
        have hj := nat_blt hb
        obtain ⟨t1, t2, t3, t4⟩ := T.ok c j ej
        obtain ⟨dx, nvs, f1, f2, f3, f4⟩ := r.obj i _ e0
        cases rv with
        | ref _ hi ha =>
          subst ha
          obtain ⟨vv, g1, g2⟩ := f4.get (nth_get hj)
          have hix : (nvs.map (·.1))[j]? = some f := by
            rw [f3, List.getElem?_take, if_pos hj]
            exact t3
          have hnd : (nvs.map (·.1)).Nodup := by
            rw [f3]
            exact t4.sublist (List.take_sublist _ _)
          exact ⟨_, _, dx, nvs, vv, rfl, f1, t1, t2, lookup_at hix hnd vv g1, q rho H _ .refl r g2⟩
      · exact q.elim
    · exact q.elim
  · exact q.elim
theorem d_fld {f : Str} {tb : List (Nat × Nat)} (C : CO X u E) (T : FldsOk u f tb) (h : PE X e (tM u E me)) (hb : attributeBase e f X.env (eval e X.env) = eval e X.env := by rfl) : PE X (.Attribute e f pos) (tM u E (mUn (fFld tb) me)) :=
  se_un (r := rFld u.K f) (by
    have := pe_fld (f := f) (pos := pos) h hb
    rw [C.hK] at this
    exact this) (fits_fld T)
/-! ### xs.pop() -/
def butLast : List D → List D
  | [] => []
  | [_] => []
  | x :: y :: r => x :: butLast (y :: r)
theorem butLast_eq : ∀ l : List D, butLast l = l.dropLast
  | [] => rfl
  | [_] => rfl
  | x :: y :: r => by
    show x :: butLast (y :: r) = x :: (y :: r).dropLast
    rw [butLast_eq]
def lastD : List D → Option D
  | [] => none
  | [x] => some x
  | _ :: y :: r => lastD (y :: r)
theorem lastD_eq : ∀ {l : List D} {d : D}, lastD l = some d → l[l.length - 1]? = some d
  | [x], d, h => by cases h; rfl
  | x :: y :: r, d, h => by
    have := lastD_eq (l := y :: r) h
    simpa using this
def fPop : F1 := fun x w => match x with
  | .ref i => (match w.get i with
    | some (.lst l) => (match lastD l with
      | some d => .ok d (w.set i (.lst (butLast l)))
      | none => .bad)
    | _ => .bad)
  | _ => .bad
theorem RVs.dropLast : ∀ {n : Nat} {ds : List D} {vs : List V}, RVs u rho n H ds vs → RVs u rho n H ds.dropLast vs.dropLast
  | _, _, _, .nil => .nil
  | _, _, _, .cons _ .nil => .nil
  | _, _, _, .cons a (.cons b r) => .cons a (RVs.dropLast (.cons b r))
theorem fits_pop : Fits1 u E (fun x H Q => tyV u.K "list" x H ∧ rPop x [] H Q) fPop := by
  intro rho w H d v Q r rv q
  unfold fPop at q
  split at q
  · rename_i i
    split at q
    · rename_i l e0
      split at q
      · rename_i d0 e1
        obtain ⟨vs, f1, hr⟩ := r.lst e0
        cases rv with
        | ref _ hi ha =>
          subst ha
          obtain ⟨y, g1, g2⟩ := hr.get (lastD_eq e1)
          have hl : l.length = vs.length := hr.length
          have tp : Tups H (L2.upd H (rho i) (.lst vs.dropLast)) := .write f1 (wr_lst _)
          obtain ⟨r', e'⟩ := r.upd (o' := .lst (butLast l)) (ho' := .lst vs.dropLast) e0 f1 (wr_lst _) (fun _ z => by cases z) ⟨vs.dropLast, upd_same, by
            rw [butLast_eq]
            exact hr.dropLast.mono (Nat.le_refl _) (fun _ _ => rfl) tp⟩
          exact ⟨Or.inl ⟨rfl, _, SqL.of f1⟩, _, vs, y, rfl, rfl, f1, by rw [← hl]; exact g1, q rho _ _ e' r' (g2.mono (Nat.le_refl _) (fun _ _ => rfl) tp)⟩
      · exact q.elim
    · exact q.elim
  · exact q.elim
theorem d_pop (C : CO X u E) (ho : PE X o (tM u E mo)) (hbase : attributeBase o "pop" X.env (eval o X.env) = eval o X.env := by rfl) (hline : (p2.endLine == pos.line) = true := by rfl) : PE X (.Call (.Attribute o "pop" p2) [] [] pos) (tM u E (mUn fPop mo)) :=
  se_un (r := fun x H Q => tyV u.K "list" x H ∧ rPop x [] H Q) (by
    have := pe_bm0 (cpos := pos) (apos := p2) PySem.F.plainAttrs_list PySem.F.slot_list_pop PySem.F.type_list_pop mt_pop ho hbase hline
    rw [C.hK] at this
    exact this) fits_pop

/-! ### name += e (ints) -/
def sAug (i : Nat) (m : M) : MS := fun s w => match nth s i with
  | .int x => (match m s w with
    | .ok (.int y) w1 => .nx (sset s i (.int (Int.add x y))) w1
    | .ex c p w => .ex c p w
    | _ => .bad)
  | _ => .bad
theorem s_aug (i : Nat) {x : Str} {p6 : Pos} (C : CO X u E) (hi : X.N[i]? = some x) (hx : Loc X.env.scope x) (he : PE X e (tM u E me)) (hf : X.fn x = true ∨ X.env.scope.names.lookup x = some .local := by first | exact .inl rfl | exact .inr rfl) : PS X (.AugAssign (.Name x p6) .Add e pos) (tMS u E (sAug i me)) := by
  refine (ps_aug C.nd hi hx he ip_add hf).imp fun D σ H ⟨rho, s, w, R, Z, q⟩ => ?_
  unfold sAug at q
  rcases Z.get i with (h0 | ⟨h0, _⟩) | ⟨v, hv, rv⟩
  · rw [h0] at q; exact q.elim
  · rw [h0] at q; exact q.elim
  · revert q rv
    cases nth s i <;> intro q rv <;> try exact q.elim
    rename_i n
    cases rv
    refine ⟨_, hv, tM_then R Z ?_⟩
    dsimp only at q
    revert q
    cases me s w with
    | bad => exact fun q => q.elim
    | ex c p w1 => exact id
    | ok d w1 =>
      intro q rho1 H1 v1 e1 R1 Z1 rv1
      cases d <;> try exact q.elim
      cases rv1
      exact ⟨_, _, rfl, rfl, q rho1 H1 _ e1 R1 (Z1.set (.int _) i)⟩
/-! ### * -/
def repD (l : List D) : Nat → List D
  | 0 => []
  | k + 1 => l ++ repD l k
theorem repD_ok {n : Nat} {l : List D} {vs : List V} (h : RVs u rho n H l vs) : ∀ k, RVs u rho n H (repD l k) (List.replicate k vs).flatten
  | 0 => .nil
  | k + 1 => by
    rw [List.replicate_succ, List.flatten_cons]
    exact h.append (repD_ok h k)
def isNil : List D → Bool
  | [] => true
  | _ => false
def fMul : F2 := fun x y w => match x, y with
  | .int i, .int j => bif Nat.blt i.natAbs 18446744073709551616 then .ok (.int (Int.mul i j)) w else .bad
  | .ref i, .int (.ofNat k) => bif Nat.ble (Nat.mul (match w.get i with | some (.lst l) => l.length | _ => 100000) k) 1000 then bif Nat.ble k 1000 then (match w.get i with
    | some (.lst l) => alloc (.lst (repD l k)) w
    | _ => .bad) else .bad else .bad
  | .tup l, .int (.ofNat k) => bif Nat.ble 2 k then bif Nat.ble k 1000 then bif isNil l then .bad else bif Nat.ble l.length 1000 then .ok (.tup (repD l k)) w else .bad else .bad else .bad
  | _, _ => .bad
def rMulA (K : PySem.W.Frag) : R2 := fun x y H Q => (rI CMul (fun i j => .int (i * j)) x y H Q ∨ rRep x y H Q) ∨ rRepT K x y H Q
theorem o_mul (C : CO X u E) : Op2 X u E .Mult fMul := by
  refine ⟨_, (op_mul.or op_rep).or op_repT, ?_⟩
  intro rho w H d v d' v' Q r rv rv' q
  unfold fMul at q
  split at q
  · rename_i i j
    obtain ⟨hb, q⟩ := bbeq q
    have hb := nat_blt hb
    cases rv; cases rv'
    exact .inl (.inl ⟨i, j, rfl, rfl, .inl ⟨by omega, by omega⟩, q rho H _ .refl r (.int _)⟩)
  · rename_i i k
    obtain ⟨hb, q⟩ := bbeq q
    obtain ⟨hk, q⟩ := bbeq q
    have hb := Nat.le_of_ble_eq_true hb
    have hk := Nat.le_of_ble_eq_true hk
    split at q
    · rename_i l e0
      rw [e0] at hb
      obtain ⟨vs, f1, hr⟩ := r.lst e0
      cases rv with
      | ref _ hi ha =>
        subst ha
        cases rv'
        have hl : l.length = vs.length := hr.length
        have hb' : l.length * k ≤ 1000 := hb
        have hs : (1000 : Nat) ≤ sizeLine := by decide
        refine .inl (.inr ⟨_, (k : Int), vs, rfl, rfl, f1, by omega, by omega, ?_, ?_⟩)
        · rw [Int.toNat_natCast, ← hl]
          exact Nat.le_trans hb' hs
        · rw [Int.toNat_natCast]
          exact fits_new r (repD_ok hr k) q
    · exact q.elim
  · rename_i l k
    obtain ⟨h2, q⟩ := bbeq q
    obtain ⟨hk, q⟩ := bbeq q
    have h2 := Nat.le_of_ble_eq_true h2
    have hk := Nat.le_of_ble_eq_true hk
    cases rv with
    | @tup l a vs hq hr =>
      cases rv'
      cases hn : isNil l with
      | true => rw [hn] at q; exact q.elim
      | false =>
        rw [hn] at q
        obtain ⟨hz, q⟩ := bbeq q
        have hz := Nat.le_of_ble_eq_true hz
        have hl : l.length = vs.length := hr.length
        refine .inr ⟨a, (k : Int), vs, rfl, rfl, by rw [C.hK]; exact hq, ?_, by omega, by omega, by omega, fun p hp => ?_⟩
        · intro z
          subst z
          cases hr
          cases hn
        · obtain ⟨r', e'⟩ := r.tup (o := .tup (List.replicate (k : Int).toNat vs).flatten) hp
          rw [Int.toNat_natCast] at r' e' ⊢
          exact q rho _ _ e' r' (.tup (.inl (.inl upd_same)) (e'.rvs (repD_ok hr k)))
  · exact q.elim

/-! ### name = [.. for .. for ..] -/
variable {tg iter tg1 iter1 elt : Expr} {mi mi1 : MI} {g g1 : GP} {t t1 : TG} {mt1 : M} {ifs1 : List Expr} {scope : Scope}
theorem lc2_imp {vs vs1 : List Nat} (hK : u.K = X.K) (hg : GOk X.K vs t g) (hg1 : GOk X.K vs1 t1 g1) {σ : L2.St} {H : Hp} {Q : VK} (h : tM u E (mLc2 mi g mt mi1 g1 mt1 me vs vs1) σ H Q) : tLc2 (tMI u E mi) t (tMT u E0 mt) (tMI u E0 mi1) t1 (tMT u E0 mt1) (tM u E0 me) vs vs1 σ H Q := by
  obtain ⟨rho, s, w, r, Z, q⟩ := h
  refine ⟨rho, s, w, r, Z, ?_⟩
  unfold mLc2 at q
  revert q
  cases mi s w with
  | bad => exact id
  | ex c p w1 => exact id
  | ok it w1 =>
    intro q rho1 H1 J e1 r1 hit hdn D hD
    obtain ⟨rD, eD⟩ := r1.tup (o := .lst []) hD
    have Z1 : SS u rho1 w1.n H1 (wipeD s vs) (L2.wipe σ vs) := (Z.wipe vs).mono e1.n (fun i hi => e1.rh i hi) e1.tups
    have ne1 : ∀ i, i < w1.n → rho1 i ≠ D := fun i hi z => r1.all i hi (by rw [z]; exact hD)
    dsimp only at q
    refine ⟨fun i m H' => ∃ rho2 w2 acc accV, Ext u rho1 w1 H1 rho2 w2 H' ∧ RW u rho2 w2 H' ∧ H' D = some (.lst accV) ∧ RVs u rho2 w2.n H' acc.reverse accV ∧ (∀ i, i < w2.n → rho2 i ≠ D) ∧
      (match lc2From it g mt mi1 g1 mt1 me vs1 (wipeD s vs) m i acc w2 with | .ok acc w3 => Post u E rho w H Q (alloc (.lst acc.reverse) w3) | .bad => False),
      ⟨10000, rho1, w1, [], [], eD, rD, upd_same, .nil, ne1, ?_⟩, ?_⟩
    · revert q
      cases lc2From it g mt mi1 g1 mt1 me vs1 (wipeD s vs) 10000 0 [] w1 with
      | ok acc w3 => exact id
      | bad => exact id
    · rintro i m H2 ⟨rho2, w2, acc, accV, e12, r2, hA, rA, ne2, q2⟩
      have Z2 : SS u rho2 w2.n H2 (wipeD s vs) (L2.wipe σ vs) := Z1.mono e12.n e12.rh e12.tups
      cases m with
      | zero => exact q2.elim
      | succ k =>
        have hi := hit rho2 w2 H2 i e12.to0 r2
        unfold lc2From at q2
        revert hi q2
        cases it.at w2 i with
        | bad => exact fun _ q2 => q2.elim
        | stop =>
          intro hi q2
          refine .inl ⟨hi, ?_⟩
          have eb0 : Ext u rho w H rho2 w2 H2 := e1.trans r e12
          obtain ⟨r2', eb, en⟩ := hdn rho2 w2 H2 eb0 e12 r2
          dsimp only at q2
          have ne2' : ∀ i, i < (it.done w2).n → rho2 i ≠ D := by rw [en]; exact ne2
          have rA' : RVs u rho2 (it.done w2).n H2 acc.reverse accV := by rw [en]; exact rA
          generalize it.done w2 = w2' at q2 r2' eb ne2' rA'
          unfold alloc at q2
          obtain ⟨hb, q2⟩ := bbeq q2
          have hH : ∀ a, H a ≠ none → (∀ ps, H a ≠ some (.tbl ps)) → (∀ i, i < w.n → rho i ≠ a) → a ≠ D := fun a ha h0 hn z => by
            subst z
            exact ha ((e1.oth _ ha h0 hn).1.symm.trans hD)
          obtain ⟨r3, e3⟩ := adopt_ok (o := .lst acc.reverse) eb r2' hH (by rw [hA]; simp) ne2' hb ⟨accV, hA, rA'.mono (Nat.le_succ _) (fun i hi => rhoN_lt hi) (.refl _)⟩
          exact q2 _ H2 _ e3 r3 (.ref _ (Nat.lt_succ_self _) rhoN_at.symm)
        | it d =>
          intro ⟨hgo, hy⟩ q2
          dsimp only at q2
          cases hgd : g d (wipeD s vs) with
          | none => rw [hgd] at q2; exact q2.elim
          | some s3 =>
            rw [hgd] at q2
            dsimp only at q2
            refine .inr ⟨hgo, fun H' => ∃ rho2 w2 acc accV, Ext u rho1 w1 H1 rho2 w2 H' ∧ RW u rho2 w2 H' ∧ H' D = some (.lst accV) ∧ RVs u rho2 w2.n H' acc.reverse accV ∧ (∀ i, i < w2.n → rho2 i ≠ D) ∧
              (match lc2From it g mt mi1 g1 mt1 me vs1 (wipeD s vs) k (i + 1) acc w2 with | .ok acc w3 => Post u E rho w H Q (alloc (.lst acc.reverse) w3) | .bad => False), fun H' h' => ⟨k, Nat.lt_succ_self _, h'⟩, fun x H3 yl => ?_⟩
            obtain ⟨r3, e3, rv⟩ := hy x H3 yl
            have Z3 := Z2.mono e3.n e3.rh e3.tups
            refine hg u rho2 w2.n H3 d x (wipeD s vs) (L2.wipe σ vs) _ hK rv Z3 ?_
            rw [hgd]
            intro σ4 Z4 hw4
            have nD : H2 D ≠ none := by rw [hA]; simp
            have nT : ∀ ps, H2 D ≠ some (.tbl ps) := fun ps z => by rw [hA] at z; cases z
            refine ⟨hw4.trans (wipe_wipe σ vs), ?_⟩
            refine tMT_then r3 Z4 ?_
            revert q2
            cases mt s3 w2 with
            | bad => exact id
            | ex c p w5 => exact fun q2 => q2.elim
            | ok dt w5 =>
              intro q2
              cases dt <;> try exact q2.elim
              rename_i b
              intro rho5 H5 e5 r5 Z5
              have e35 := e3.trans r2 e5
              obtain ⟨eD5, nD5⟩ := e35.oth D nD nT ne2
              cases b with
              | false => exact ⟨rho5, w5, acc, accV, e12.trans r1 e35, r5, eD5.trans hA, e35.rvs rA, nD5, q2⟩
              | true =>
                dsimp only at q2
                show tMI u E0 mi1 σ4 H5 _
                refine ⟨rho5, s3, w5, r5, Z5, ?_⟩
                revert q2
                cases mi1 s3 w5 with
                | bad => exact id
                | ex c p w6 => exact fun q2 => q2.elim
                | ok it1 w6 =>
                  intro q2 rho6 H6 J1 e6 r6 hit1 hdn1
                  dsimp only at q2
                  have e36 := e35.trans r2 e6
                  obtain ⟨eD6, nD6⟩ := e36.oth D nD nT ne2
                  cases hpl : (bif it1.plain then Nat.ble acc.length 100000 else false) with
                  | false => rw [hpl] at q2; exact q2.elim
                  | true =>
                    rw [hpl] at q2
                    dsimp only [cond_true] at q2
                    obtain ⟨pl1, pl2⟩ := bif_and hpl
                    have pl2' := Nat.le_of_ble_eq_true pl2
                    have Z6 : SS u rho6 w6.n H6 s3 σ4 := Z5.mono e6.n e6.rh e6.tups
                    have Z6w : SS u rho6 w6.n H6 (wipeD s3 vs1) (L2.wipe σ4 vs1) := Z6.wipe vs1
                    refine ⟨fun j k' H' => ∃ rho7 w7 acc accV, Ext u rho1 w1 H1 rho7 w7 H' ∧ Ext0 u rho6 w6 H6 rho7 w7 H' ∧ RW u rho7 w7 H' ∧ H' D = some (.lst accV) ∧ RVs u rho7 w7.n H' acc.reverse accV ∧ (∀ i, i < w7.n → rho7 i ≠ D) ∧ acc.length + k' ≤ 110000 ∧
                      (match lcFrom it1 g1 mt1 me (wipeD s3 vs1) k' j acc w7 with
                        | .ok acc2 w3 => (match lc2From it g mt mi1 g1 mt1 me vs1 (wipeD s vs) k (i + 1) acc2 w3 with | .ok acc w3 => Post u E rho w H Q (alloc (.lst acc.reverse) w3) | .bad => False)
                        | .bad => False),
                      ⟨10000, rho6, w6, acc, accV, e12.trans r1 e36, ⟨Nat.le_refl _, fun _ _ => rfl, .refl _, fun _ _ h _ => ⟨h, rfl⟩⟩, r6, eD6.trans hA, e36.rvs rA, nD6, by omega, ?_⟩, ?_⟩
                    · revert q2
                      cases lcFrom it1 g1 mt1 me (wipeD s3 vs1) 10000 0 acc w6 with
                      | ok acc2 w3 =>
                        intro q2
                        dsimp only at q2 ⊢
                        revert q2
                        cases lc2From it g mt mi1 g1 mt1 me vs1 (wipeD s vs) k (Nat.succ i) acc2 w3 with
                        | ok a w => exact id
                        | bad => exact id
                      | bad => exact id
                    · rintro j k' H7 ⟨rho7, w7, acc, accV, e17, e67, r7, hA7, rA7, ne7, hm7, q7⟩
                      have Z7 : SS u rho7 w7.n H7 (wipeD s3 vs1) (L2.wipe σ4 vs1) := Z6w.mono e67.n e67.rh e67.tups
                      cases k' with
                      | zero => exact q7.elim
                      | succ k2 =>
                        have hi1 := hit1 rho7 w7 H7 j e67 r7
                        unfold lcFrom at q7
                        revert hi1 q7
                        cases it1.at w7 j with
                        | bad => exact fun _ q7 => q7.elim
                        | stop =>
                          intro hi1 q7
                          dsimp only at q7
                          rw [plain_done pl1] at q7
                          exact .inl ⟨hi1, rho7, w7, acc, accV, e17, r7, hA7, rA7, ne7, q7⟩
                        | it d7 =>
                          intro ⟨hgo7, hy7⟩ q7
                          dsimp only at q7
                          cases hgd7 : g1 d7 (wipeD s3 vs1) with
                          | none => rw [hgd7] at q7; exact q7.elim
                          | some s8 =>
                            rw [hgd7] at q7
                            dsimp only at q7
                            refine .inr ⟨hgo7, fun H' => ∃ rho7 w7 acc accV, Ext u rho1 w1 H1 rho7 w7 H' ∧ Ext0 u rho6 w6 H6 rho7 w7 H' ∧ RW u rho7 w7 H' ∧ H' D = some (.lst accV) ∧ RVs u rho7 w7.n H' acc.reverse accV ∧ (∀ i, i < w7.n → rho7 i ≠ D) ∧ acc.length + k2 ≤ 110000 ∧
                              (match lcFrom it1 g1 mt1 me (wipeD s3 vs1) k2 (j + 1) acc w7 with
                                | .ok acc2 w3 => (match lc2From it g mt mi1 g1 mt1 me vs1 (wipeD s vs) k (i + 1) acc2 w3 with | .ok acc w3 => Post u E rho w H Q (alloc (.lst acc.reverse) w3) | .bad => False)
                                | .bad => False), fun H' h' => ⟨k2, Nat.lt_succ_self _, h'⟩, fun x8 H8 yl8 => ?_⟩
                            obtain ⟨r8, e8, rv8⟩ := hy7 x8 H8 yl8
                            have Z8 := Z7.mono e8.n e8.rh e8.tups
                            refine hg1 u rho7 w7.n H8 d7 x8 (wipeD s3 vs1) (L2.wipe σ4 vs1) _ hK rv8 Z8 ?_
                            rw [hgd7]
                            intro σ9 Z9 hw9
                            have nD7 : H7 D ≠ none := by rw [hA7]; simp
                            have nT7 : ∀ ps, H7 D ≠ some (.tbl ps) := fun ps z => by rw [hA7] at z; cases z
                            refine ⟨hw9.trans (wipe_wipe σ4 vs1), ?_⟩
                            refine tMT_then r8 Z9 ?_
                            revert q7
                            cases mt1 s8 w7 with
                            | bad => exact id
                            | ex c p w9 => exact fun q7 => q7.elim
                            | ok dt9 w9 =>
                              intro q7
                              cases dt9 <;> try exact q7.elim
                              rename_i b9
                              intro rho9 H9 e9 r9 Z9'
                              have e89 := e8.trans r7 e9
                              obtain ⟨eD9, nD9⟩ := e89.oth D nD7 nT7 ne7
                              cases b9 with
                              | false => exact ⟨rho9, w9, acc, accV, e17.trans r1 e89, e67.trans r6 e89.to0, r9, eD9.trans hA7, e89.rvs rA7, nD9, by omega, q7⟩
                              | true =>
                                dsimp only at q7
                                refine tM_then r9 Z9' ?_
                                revert q7
                                cases me s8 w9 with
                                | bad => exact id
                                | ex c p w10 => exact fun q7 => q7.elim
                                | ok y w10 =>
                                  intro q7 rho10 H10 v10 e10 r10 Z10 rv10
                                  have e8x := e89.trans r7 e10
                                  obtain ⟨eD10, nD10⟩ := e8x.oth D nD7 nT7 ne7
                                  have hA10 : H10 D = some (.lst accV) := eD10.trans hA7
                                  have rA10 := e8x.rvs rA7
                                  obtain ⟨r11, e11, tp⟩ := side_upd (l := accV ++ [v10]) (e17.trans r1 e8x) r10 hA10 nD10 hD
                                  have hz : accV.length < sizeLine := by
                                    have := rA10.length
                                    rw [List.length_reverse] at this
                                    rw [sizeLine_eq]
                                    omega
                                  have ex0 : Ext0 u rho6 w6 H6 rho10 w10 (L2.upd H10 D (.lst (accV ++ [v10]))) := by
                                    have a := e67.trans r6 e8x.to0
                                    refine ⟨a.n, a.rh, a.tups.trans tp, fun i l hl hk => ⟨(a.lock i l hl hk).1, ?_⟩⟩
                                    rw [upd_ne (nD6 i (r6.dom i _ hl))]
                                    exact (a.lock i l hl hk).2
                                  refine ⟨accV, hA10, hz, rho10, w10, y :: acc, accV ++ [v10], e11, ex0, r11, upd_same, ?_, nD10, by rw [List.length_cons]; omega, q7⟩
                                  rw [List.reverse_cons]
                                  exact (rA10.mono (Nat.le_refl _) (fun _ _ => rfl) tp).append (.cons (rv10.mono (Nat.le_refl _) (fun _ _ => rfl) tp) .nil)
theorem s_setLc2 (i : Nat) {y : Str} {py : Pos} (own : List (Str × Nat)) {vs1 : List Nat} (C : CO X u E) (hy : X.N[i]? = some y) (hyl : X.env.scope.names.lookup y = some .local) (hsw : swapsWith (.ListComp elt [⟨tg, iter, ifs, 0⟩, ⟨tg1, iter1, ifs1, 0⟩] scope p2) (some (.Name y py)) pos.line X.env = pure true)
    (ok : blkC X.N X.env.scope scope own = true) (hv : ∀ i ∈ vs1, i ∈ own.map (·.2)) (hg : GOk X.K (own.map (·.2)) t g) (hg1 : GOk X.K vs1 t1 g1) (hi : PI X tg iter (tMI u E mi)) (hgt : ∀ s H c cl fp, CO (Blk X scope s H c cl fp) u E0 → PG (Blk X scope s H c cl fp) tg t)
    (ht : ∀ s H c cl fp, CO (Blk X scope s H c cl fp) u E0 → PTs (Blk X scope s H c cl fp) ifs (tMT u E0 mt)) (hi1 : ∀ s H c cl fp, CO (Blk X scope s H c cl fp) u E0 → PI (Blk X scope s H c cl fp) tg1 iter1 (tMI u E0 mi1)) (hgt1 : ∀ s H c cl fp, CO (Blk X scope s H c cl fp) u E0 → PG (Blk X scope s H c cl fp) tg1 t1)
    (ht1 : ∀ s H c cl fp, CO (Blk X scope s H c cl fp) u E0 → PTs (Blk X scope s H c cl fp) ifs1 (tMT u E0 mt1)) (he : ∀ s H c cl fp, CO (Blk X scope s H c cl fp) u E0 → PE (Blk X scope s H c cl fp) elt (tM u E0 me)) (hs : ∀ x, foldedSetIterable iter X.env x = pure x := by intro _; rfl) (hs1 : ∀ env x, foldedSetIterable iter1 env x = pure x := by intro _ _; rfl) :
    PS X (.Assign [.Name y py] (.ListComp elt [⟨tg, iter, ifs, 0⟩, ⟨tg1, iter1, ifs1, 0⟩] scope p2) pos) (tMS u E (sAsg (mLc2 mi g mt mi1 g1 mt1 me (own.map (·.2)) vs1) (gLift (gpName i)))) := by
  have h := ps_setLc2 (spos := pos) (py := py) C.calm C.nd hy hyl hsw hi (blkOk_by ok) hv (fun s H c cl fp => hgt s H c cl fp (C.blk ..)) (fun s H c cl fp => ht s H c cl fp (C.blk ..)) (fun s H c cl fp => hi1 s H c cl fp (C.blk ..)) (fun s H c cl fp => hgt1 s H c cl fp (C.blk ..)) (fun s H c cl fp => ht1 s H c cl fp (C.blk ..)) (fun s H c cl fp => he s H c cl fp (C.blk ..)) hs hs1
  exact h.imp fun D σ H q => lc2_imp C.hK.symm hg hg1 (tM_mono (asg_imp q) fun v H1 z => gl_imp (vs := [i]) C.hK.symm (gok_name List.mem_cons_self) z)

/-! ### list(range(n)) -/
def mListRg1 (b : M) : M := fun s w => match b s w with
  | .ok (.int j) w2 => bif okR j then bif Nat.ble (Int.toNat j) 100000 then alloc (.lst (rgD 0 (Int.toNat j))) w2 else .bad else .bad
  | .ex c p w => .ex c p w
  | _ => .bad
theorem d_listRg1 (C : CO X u E) (hm : X.mg "list" = none) (hr : X.mg "range" = none) (hb : PE X b (tM u E mb)) (hg : Gl X "list" := by rfl) (hg2 : Gl X "range" := by rfl) (nb : starEach [b] X.env = (false, eval b X.env) :: starEach [] X.env := by rfl) : PE X (.Call (.Name "list" p2) [.Call (.Name "range" p4) [b] [] p3] [] pos) (tM u E (mListRg1 mb)) := by
  refine (pe_listRg (p := p2) (pos := pos) C.calm hg hm (prg_1 (p := p4) (pos := p3) hg2 hr hb nb) rfl).imp fun σ H Q ⟨rho, s, w, r, Z, q⟩ => ?_
  refine tM_then r Z ?_
  unfold mListRg1 at q
  revert q
  cases mb s w with
  | bad => exact id
  | ex c p w2 => exact id
  | ok d2 w2 =>
    intro q rho2 H2 y e2 r2 Z2 ry
    cases d2 <;> try exact q.elim
    rename_i j
    dsimp only at q
    cases ry
    obtain ⟨hb, q⟩ := bbeq q
    obtain ⟨h3, h4⟩ := okR_ok hb
    obtain ⟨hb2, q⟩ := bbeq q
    have hb3 : j.toNat ≤ 100000 := Nat.le_of_ble_eq_true hb2
    have e0 : (j - 0).toNat = j.toNat := by rw [Int.sub_zero]
    refine ⟨j, rfl, ⟨by decide, by decide, h3, h4, by omega⟩, fits_new r2 ?_ (q.to r e2)⟩
    have h : RVs u rho2 w2.n H2 (rgD 0 (j - 0).toNat) (rgV 0 j) := rgD_ok _ _
    rw [e0] at h
    exact h

/-! ### factorial -/
def factN : Nat → Nat := @Nat.rec (fun _ => Nat) 1 (fun n ih => Nat.mul (Nat.succ n) ih)
def fFact : FN := fun ds w => match ds with
  | [.int (.ofNat k)] => bif Nat.ble k 12 then .ok (.int (.ofNat (factN k))) w else .bad
  | _ => .bad
def rFact : List V → Hp → VK → Prop := fun vs H Q => ∃ k : Nat, vs = [.int (k : Int)] ∧ k ≤ 12 ∧ Q (.int ((factN k : Nat) : Int)) H
theorem fact_eq : ∀ k, k ≤ 12 → Builtin.Math.factorialNat k = factN k ∧ factN k < 2 ^ 30 := by decide +kernel
theorem cr_fact : CallR X (.builtin "math.factorial") rFact := by
  intro pins s σ H vs us Q I r h
  obtain ⟨k, rfl, hk, q⟩ := h
  cases r with
  | cons r1 r2 =>
    cases r2
    obtain ⟨t, rfl⟩ := r1
    obtain ⟨e1, e2⟩ := fact_eq k hk
    refine PySem.W.mg_factorial_v (c := ((factN k : Nat) : Int)) ?_ ?_ ?_ (by rw [Int.toNat_natCast, e1]) ?_ ⟨.int _, H, I.tok _, ⟨_, rfl⟩, q⟩
    · have : (12 : Int) ≤ Builtin.Math.maxSsize := by decide +kernel
      omega
    · omega
    · have : (12 : Int) ≤ Builtin.Math.manyFactors := by decide +kernel
      omega
    · rw [Int.natAbs_natCast]
      have hl : (factN k).log2 ≤ 30 := by
        by_cases h0 : factN k = 0
        · rw [h0]; decide
        · exact Nat.le_of_lt ((Nat.log2_lt h0).mpr e2)
      have : 30 < bitsLine := by decide +kernel
      omega
theorem fits_fact : FitsN u E rFact fFact := by
  intro rho w H ds vs Q r rv q
  unfold fFact at q
  split at q
  · rename_i k
    obtain ⟨hb, q⟩ := bbeq q
    match vs, rv with
    | [_], .cons rx .nil =>
      cases rx
      exact ⟨k, rfl, Nat.le_of_ble_eq_true hb, q rho H _ .refl r (.int _)⟩
  · exact q.elim
theorem d_fact {x : Str} (hm : X.mg x = some (.builtin "math.factorial")) (ha : PA X (e :: es) (tMA u E mas)) (hg : Gl X x := by rfl) (hdb : (x == ("__debug__" : Str)) = false := by decide)
    (he : starEach (e :: es) X.env = (false, eval e X.env) :: starEach es X.env := by rfl) (hpl : (backTo pos (starEach es X.env)).any (·.1) = false := by rfl) : PE X (.Call (.Name x p2) (e :: es) [] pos) (tM u E (mN fFact mas)) := se_n (pe_callBfun cr_fact hg hm ha hdb he hpl) fits_fact
end
end Ev

set_option Elab.async false
set_option linter.all false
set_option maxRecDepth 100000
set_option maxHeartbeats 400000
/-! EvV: word(lambda: e), where word catches what e raises and tells its class by a word. -/
namespace Ev
open PySem PySem.Spec PyProof.Rows L2
open LamX (CodeO TabS Tabs TabB ExtN lamEnv lamCx LamS)
/-! ### a def called with the exception that is handled -/
/-- what is known of that exception: its class, where it stands -/
structure Caught (D : Addr) (p : Addr × Obj) : Prop where
  z : p.2.cls = .ref D ∧ p.2.dict = none
  f : ∃ vs, p.2.data = .fields vs
section
variable {X : Cx} {D : Addr} {p : Addr × Obj} {u : U}
/-- isinstance(e, c), e the exception that is pinned -/
theorem call_isPin (hp : p ∈ X.pn) (C : ExcC X.K D) (g : Caught D p) : CallR X (.builtin "isinstance") (rIsE X.K D p.1) := fun pins s σ H xs us Q I r ⟨c, cv, b, e0, hcv, e, q⟩ => by
  subst e0
  match us, r with
  | [_, _], .cons rx (.cons rt .nil) =>
    have ec := hcv _ rt
    cases rx
    subst ec
    have hget := (I.pin p (List.mem_append.mpr (.inl hp))).1
    obtain ⟨⟨z1, z2⟩, vs, z3⟩ := g
    have J : PySem.W.InstAt s.heap p.1 p.2 D none := by
      obtain ⟨pa, oc, od, oda, osl⟩ := p
      dsimp only at z1 z2 z3 hget
      subst z1 z2 z3
      exact ⟨hget, rfl, rfl, trivial⟩
    refine PySem.W.kia_one (PySem.W.handS_kitx_exc C.hg C.hk C.hs C.hd C.ha C.hn C.ht C.hm) I.kIn J e (fun z => by cases z) fun tk => ?_
    exact ⟨.bl b, H, I.kept (t' := tk) fun _ _ z => z, rfl, q⟩
end

section
variable {P : Program} {w : World} {K : PySem.W.Frag} {mg : Str → Option Value} {base : Heap} {k : Nat} {f D : Addr} {name qual : Str} {params : Arguments} {body : List Stmt} {scope : Scope} {dV kV doc pm cdv ct oc : Value} {an od : Option Addr}
  {osl : Array (Option Value)} {N : List Str} {a0 : Str}
/-- the def's call, its one argument the exception that is handled: its answer is the text z -/
theorem run_caught {CX : CXT} {z : Str} (lk : K.lookup f = some ⟨oc, od, .func (PySem.W.fnOf name qual params body scope dV kV doc pm an cdv ct), osl⟩) (hcd : PySem.W.codeIn K cdv qual = true) (S : FnScope N [a0] scope)
    {A : Around} {outer : List Env} {s : Shared} {H : Hp} {args : Args} {Q : VK} {E : XK} {p : Addr × Obj} (hr : L2H.RoomH (k + 1) A) (hot : L2H.Hot1 A p) (hpin : L2H.PinOk outer H s p) (e0 : Env0 P w K mg base A outer s H) (hb : BindsTo s (PySem.W.fnOf name qual params body scope dV kV doc pm an cdv ct) args [(a0, .ref p.1)])
    (hbody : ∀ (A : Around) (outer : List Env) (s : Shared) (H : Hp) (E : XK), L2H.RoomH k (A.deeper (envOfC qual scope s.heap.objs.size f cdv)) → ∃ t, PSs (L2H.cxH CX P w K mg base N qual scope f cdv A outer s H E p) body t ∧ ∀ Q : VK, Q (.str z) H → t { nx := fun _ H' => Q .non H', rt := Q } (L2.start N [.ref p.1]) H)
    (hq : Q (.str z) H) : codeAny (model P w) A (.call (.ref f) args) (CR CX outer P w H s Q E) s := by
  have keep := fun b o e => (e0.bs b o e).1
  have KX := PySem.W.Frag.In.keeps e0.mod.kin keep
  have hkind : ∀ y ∈ [(a0, Value.ref p.1)], scope.names.lookup y.1 = some .local ∨ (scope.names.lookup y.1 = some .cell ∧ ((cellsFrom (s.heap.objs.size + 1) scope.names []).lookup y.1).isSome = true) := fun y hy => by
    have ey := List.mem_singleton.mp hy
    subst ey
    exact (S.par a0 List.mem_cons_self).imp id fun q => ⟨q, PySem.W.cellsFrom_some _ _ _ (.inl q)⟩
  refine codeAny_call_function hr.depth (KX _ _ lk) rfl S.co S.gen rfl (PySem.W.codeRec_of KX hcd) (hb _ _ _ _ (wpAny_newFunctionEnv_cells S.kind hkind fun env he s1 x => ?_))
  subst he
  have nl := e0.mod.nolimit.keeps keep
  refine ⟨nl.keeps x.toInCall.keep, codeAny_func ?_⟩
  obtain ⟨t, ht, htq⟩ := hbody A outer s H E (hr.deeper _)
  have I := L2H.inv_startH (CX := CX) (E := E) S hpin e0 rfl (.cons (show L2.RelV (.ref p.1) (.ref p.1) from rfl) .nil) x
  refine wpAny_mono (ht.run [] s1 _ H _ I (htq Q hq)) (fun fl s' hs => ?_) fun e s' hs => hs
  match fl, hs with
  | .ret u, ⟨v, σ', H', J, rv, q⟩ => exact ⟨v, H', J.os, J.bare, J.base, J.hok, rv, q⟩
  | .next, ⟨σ', H', J, q⟩ => exact ⟨.non, H', J.os, J.bare, J.base, J.hok, rfl, q⟩
  | .brk, ⟨_, _, _, q⟩ => exact False.elim q
  | .cont, ⟨_, _, _, q⟩ => exact False.elim q
end
section
variable {X : Cx} {CX : CXT} {f : Addr} {k : Nat} {z x : Str} {e : Expr} {pos q : Pos}
/-- word(error) in the suite -/
theorem pe_caught {p : Addr × Obj} {fd : FuncData} {a0 : Str} {i : Nat} (hrun : ∀ (A : Around) (outer : List Env) (s : Shared) (H : Hp) (args : Args) (Q : VK) (E : XK), L2H.RoomH k A → L2H.Hot1 A p → L2H.PinOk outer H s p → Env0 X.prog X.w X.K X.mg X.base A outer s H → BindsTo s fd args [(a0, .ref p.1)] → Q (.str z) H → codeAny (model X.prog X.w) A (.call (.ref f) args) (CR CX outer X.prog X.w H s Q E) s)
    (hr : L2H.RoomH k X.A) (hot : L2H.Hot1 X.A p) (hp : p ∈ X.pn) (hg : Gl X x) (hm : X.mg x = some (.ref f)) (hk : PySem.W.keepIn X.K (.ref f) = true) (hb : Binds X.K fd [a0] []) (hx : ∀ pins σ H s e s', Inv X pins σ H s → ¬ CX X.stack H s (fun _ _ _ => False) e s')
    (ha : PE X e (tVar i)) (hdb : (x == ("__debug__" : Str)) = false := by decide) (he : starEach [e] X.env = (false, eval e X.env) :: starEach [] X.env := by rfl) (hpl : (backTo pos (starEach [] X.env)).any (·.1) = false := by rfl) :
    PE X (.Call (.Name x q) [e] [] pos) (fun σ H Q => σ[i]? = some (some (.ref p.1)) ∧ Q (.str z) H) := by
  refine ⟨fun pins s σ H Q I ⟨h1, h2⟩ => ?_⟩
  refine wpAny_Call_Name_kw (ld_glob I hg hm ?_ hdb)
  have hA : PA X [e] (tCons (tVar i) tNil) := pa_cons ha pa_nil he
  have hA2 := hA.run pos pins s σ H (fun vs H1 => vs = [.ref p.1] ∧ H1 = H) I ⟨_, h1, rfl, rfl⟩
  refine PySem.W.callWith_K (h₀ := X.base) I.ok.mod.kin hk (thn hA2 fun us s1 ⟨vs, H1, I1, r, q1, q2⟩ => ⟨I1.kIn, ?_⟩) he hpl
  subst q1 q2
  cases r with
  | cons r1 rr =>
    cases rr
    cases r1
    have b := hb s1 [.ref p.1] I1.kIn rfl
    have P1 := I1.pin p (List.mem_append_left _ hp)
    have hpin : L2H.PinOk X.stack H1 s1 p := ⟨P1.1, P1.2.1, fun hm => (List.mem_cons.mp (I1.stkSub p.1 hm)).elim P1.2.2.1 P1.2.2.2.1, P1.2.2.2.2⟩
    refine wpAny_call (codeAny_mono (hrun X.A X.stack s1 H1 _ Q (fun _ _ _ => False) hr hot hpin I1.env0 b h2) fun r s' hq => ?_)
    cases r with
    | error e => exact absurd hq (hx pins σ H1 s1 e s' I1)
    | ok fl =>
      cases fl with
      | ret u => exact I1.after hq
      | next => exact False.elim hq
      | brk => exact False.elim hq
      | cont => exact False.elim hq
end

/-! ### the words -/
def tWord (a : Addr) (x : Str) : TS := fun D σ H => σ[0]? = some (some (V.ref a)) ∧ D.rt (.str x) H
section
variable {X : Cx} {p : Addr × Obj} {D B : Addr} {a0 cn y z : Str} {b : Bool} {rest : List Stmt} {j j2 : Nat} {p1 p2 p3 p4 p5 p6 p7 : Pos}
theorem is_caught (hp : p ∈ X.pn) (EC : ExcC X.K D) (g : Caught D p) (hmI : X.mg "isinstance" = none) (hmC : X.mg cn = some (.ref B)) (hk : PySem.W.kitOne X.K (.ref D) (.ref B) = some b) (h0 : PE X (.Name a0 p3) (tVar 0)) (hgI : Gl X "isinstance") (hgC : Gl X cn) (hdC : (cn == ("__debug__" : Str)) = false)
    (he : starEach [.Name a0 p3, .Name cn p4] X.env = (false, eval (.Name a0 p3) X.env) :: starEach [.Name cn p4] X.env) (he2 : starEach [.Name cn p4] X.env = (false, eval (.Name cn p4) X.env) :: starEach [] X.env) (hpl : (backTo p2 (starEach [.Name cn p4] X.env)).any (·.1) = false) :
    PE X (.Call (.Name "isinstance" p1) [.Name a0 p3, .Name cn p4] [] p2) (fun σ H Q => σ[0]? = some (some (V.ref p.1)) ∧ Q (.bl b) H) :=
  (pe_callB (call_isPin hp EC g) hgI hmI PyProof.Rows.boot_isinstance (pa_cons h0 (pa_cons (pe_glob (v := .ref B) hgC hmC rfl hdC) pa_nil he2) he) (by decide) (by decide) he hpl).imp fun σ H Q ⟨q1, q2⟩ => ⟨_, q1, V.ref B, .ref B, b, rfl, fun u r => by cases r; rfl, hk, q2⟩
theorem word_if (hp : p ∈ X.pn) (EC : ExcC X.K D) (g : Caught D p) (hmI : X.mg "isinstance" = none) (hmC : X.mg cn = some (.ref B)) (hk : PySem.W.kitOne X.K (.ref D) (.ref B) = some b) (h0 : PE X (.Name a0 p3) (tVar 0)) (hgI : Gl X "isinstance") (hgC : Gl X cn) (hdC : (cn == ("__debug__" : Str)) = false)
    (he : starEach [.Name a0 p3, .Name cn p4] X.env = (false, eval (.Name a0 p3) X.env) :: starEach [.Name cn p4] X.env) (he2 : starEach [.Name cn p4] X.env = (false, eval (.Name cn p4) X.env) :: starEach [] X.env) (hpl : (backTo p2 (starEach [.Name cn p4] X.env)).any (·.1) = false)
    (hv : ∀ whole, isTrue (.Call (.Name "isinstance" p1) [.Name a0 p3, .Name cn p4] [] p2) X.env whole = (do let v ← whole; standAt (Expr.Call (.Name "isinstance" p1) [.Name a0 p3, .Name cn p4] [] p2).pos; holding [v] (truthy v))) (hr : PSs X rest (tWord p.1 y)) :
    PSs X (.If (.Call (.Name "isinstance" p1) [.Name a0 p3, .Name cn p4] [] p2) [.Return (some (.Constant (.str z) j p5)) p6] [] p7 :: rest) (tWord p.1 (if b = true then z else y)) := by
  refine (pss_cons (ps_if (pt_val (is_caught hp EC g hmI hmC hk h0 hgI hgC hdC he he2 hpl) hv) (pss_one (ps_ret pe_str)) pss_nil) hr).imp fun D' σ H ⟨q1, q2⟩ => ?_
  refine ⟨q1, b, rfl, ?_⟩
  cases b with
  | true => exact q2
  | false => exact ⟨q1, q2⟩
theorem word_last (hp : p ∈ X.pn) (EC : ExcC X.K D) (g : Caught D p) (hmI : X.mg "isinstance" = none) (hmC : X.mg cn = some (.ref B)) (hk : PySem.W.kitOne X.K (.ref D) (.ref B) = some b) (h0 : PE X (.Name a0 p3) (tVar 0)) (hgI : Gl X "isinstance") (hgC : Gl X cn) (hdC : (cn == ("__debug__" : Str)) = false)
    (he : starEach [.Name a0 p3, .Name cn p4] X.env = (false, eval (.Name a0 p3) X.env) :: starEach [.Name cn p4] X.env) (he2 : starEach [.Name cn p4] X.env = (false, eval (.Name cn p4) X.env) :: starEach [] X.env) (hpl : (backTo p2 (starEach [.Name cn p4] X.env)).any (·.1) = false)
    (hv : ∀ whole, isTrue (.Call (.Name "isinstance" p1) [.Name a0 p3, .Name cn p4] [] p2) X.env whole = (do let v ← whole; standAt (Expr.Call (.Name "isinstance" p1) [.Name a0 p3, .Name cn p4] [] p2).pos; holding [v] (truthy v))) {p8 p9 : Pos} :
    PSs X [.Return (some (.IfExp (.Call (.Name "isinstance" p1) [.Name a0 p3, .Name cn p4] [] p2) (.Constant (.str z) j p5) (.Constant (.str y) j2 p6) p7)) p8] (tWord p.1 (if b = true then z else y)) := by
  refine (pss_one (ps_ret (pe_ifExp (pt_val (is_caught hp EC g hmI hmC hk h0 hgI hgC hdC he he2 hpl) hv) pe_str pe_str))).imp fun D' σ H ⟨q1, q2⟩ => ?_
  refine ⟨q1, b, rfl, ?_⟩
  cases b with
  | true => exact q2
  | false => exact q2
end

/-! ### word(lambda: e) -/
/-- the lambda's body, entered at s from the frames outer; what it raises has no context -/
def lamN (X : Cx) (A : Around) (outer : List Env) (s : Shared) (H : Hp) (E : XK) (scope : Scope) (f c' : Addr) : Cx :=
  (lamCx X A outer s H E scope f c').wish fun e s' => wpAny (model X.prog X.w) (A.deeper (lamEnv X scope s.heap.objs.size f c')) (leaving (lamEnv X scope s.heap.objs.size f c') e) (fun _ s'' => L2N.CX X.prog X.w outer H s E e s'') (fun e' s'' => L2N.CX X.prog X.w outer H s E e' s'') s'
section
variable {X : Cx} {pins : List (Addr × Obj)} {σ : L2.St} {H HZ : Hp} {s s1 : Shared} {scope : Scope} {u : U}
theorem lamN_ok {k : Nat} {A : Around} {outer : List Env} {E E1 : XK} {f c' : Addr} (C : CO X u E1) (hr : Room k (lamN X A outer s H E scope f c').A) : CO (lamN X A outer s H E scope f c') u E :=
  ⟨C.hK, C.hP, C.hW, rfl, by have := hr.un; omega, L2N.takes_of rfl rfl rfl rfl, passes_of rfl, C.nd⟩
/-- the name that got the lambda, called within a try -/
theorem act_lam {CXg : CXT} {Eg : XK} {Ng : List Str} {qg : Str} {sg : Scope} {g f c' : Addr} {cdg pm ctv : Value} {params : Arguments} {body : Expr} {k i : Nat} {a : Str} {pn : List (Addr × Obj)} {xe : Value → Shared → Prop} {W : WX} {E : XK} {tb : TE} {p1 p2 : Pos}
    (I : Inv X pins σ H s) (L : LamS X.env.scope scope) (hf : s.heap.get? f = some (PySem.W.kla_obj "<lambda>" (X.env.qual ++ "<lambda>") params body scope (cloFrom X.env.cells scope.names []) pm c' ctv)) (hfn : H f = none) (hfr : f ∉ frs X.stack)
    (hb : bindArgs (PySem.W.kla_fn "<lambda>" (X.env.qual ++ "<lambda>") params body scope (cloFrom X.env.cells scope.names []) pm (.ref c') ctv) ⟨[], []⟩ = pure [])
    (tk : L2N.Takes ((cxOf CXg X.prog X.w X.K X.mg X.base Ng qg sg g cdg X.A X.stack s H Eg).tr pn xe) W) (hW : ∀ cls d σ' H', E cls d H' → W cls d σ' H') (hr : Room (k + 1) (X.A.deeper (envOfC qg sg s.heap.objs.size g cdg)))
    (hbody : ∀ (A : Around) (outer : List Env) (s : Shared) (H : Hp), Room k (A.deeper (lamEnv X scope s.heap.objs.size f c')) → PE (lamN X A outer s H E scope f c') body tb)
    (hN : Ng[i]? = some a) (hv : Vis sg a) (hd : (a == ("__debug__" : Str)) = false) (hcd : (a == ("__classdict__" : Str)) = false) :
    PE ((cxOf CXg X.prog X.w X.K X.mg X.base Ng qg sg g cdg X.A X.stack s H Eg).tr pn xe) (.Call (.Name a p1) [] [] p2) (fun σZ HZ Q => σZ[i]? = some (some (.ref f)) ∧ HZ c' = some (CodeO c' (X.env.qual ++ "<lambda>")) ∧ tb σ HZ Q) := by
  constructor
  intro pinsZ sZ σZ HZ Q IZ ⟨hs, hc, ht⟩
  have hv0 := (pe_var (X := (cxOf CXg X.prog X.w X.K X.mg X.base Ng qg sg g cdg X.A X.stack s H Eg).tr pn xe) (pos := p1) (i := i) hN hv hd hcd).run pinsZ sZ σZ HZ (fun v H1 => v = .ref f ∧ H1 = HZ) IZ ⟨.ref f, hs, rfl, rfl⟩
  refine wpAny_Call_Name_kw (thn hv0 fun uf s1 ⟨v, H1, I1, r1, q1, q2⟩ => ?_)
  subst q1 q2
  cases r1
  have of1 := I1.base.keep f _ hf hfn hfr (fun z => absurd z (List.not_mem_nil))
  obtain ⟨⟨oc, vs, t, hoc, hdc, hvc⟩, _, _⟩ := I1.hok c' _ hc
  have called : codeAny (model X.prog X.w) (X.A.deeper (envOfC qg sg s.heap.objs.size g cdg)) (.call (.ref f) ⟨[], []⟩) (CR (L2N.CX X.prog X.w) (envOfC qg sg s.heap.objs.size g cdg :: X.stack) X.prog X.w H1 s1 Q E) s1 := by
    refine PySem.W.kla_callFunE hr.depth of1 rfl L.co L.gen rfl ⟨c', oc, vs, t, rfl, hoc, hdc, hvc⟩ ?_
    rw [hb]
    refine wpAny_pure (wpAny_newFunctionEnv (fun y hy => (L.own y hy).2) (fun y hy => absurd hy List.not_mem_nil) (fun h₁ hns hsb => ⟨I1.nolimit.fresh _ hsb, ?_⟩) L.kind)
    have kp : ∀ b o, s1.heap.get? b = some o → h₁.get? b = some o := fun b o e => hsb.extBut b o (Nat.ne_of_lt (Heap.lt_size e)) (Heap.get?_push_of_some _ e)
    have J0 := LamX.lam_start2 (E := E) (f := f) (c' := c') (tk := s1.toks + ([] : List (Str × Value)).length) I L I1.env0 hr.hd I1.base hns kp
    have J := J0.wish (fun e s' => wpAny (model X.prog X.w) ((X.A.deeper (envOfC qg sg s.heap.objs.size g cdg)).deeper (lamEnv X scope s1.heap.objs.size f c')) (leaving (lamEnv X scope s1.heap.objs.size f c') e) (fun _ s'' => L2N.CX X.prog X.w (envOfC qg sg s.heap.objs.size g cdg :: X.stack) H1 s1 E e s'') (fun e' s'' => L2N.CX X.prog X.w (envOfC qg sg s.heap.objs.size g cdg :: X.stack) H1 s1 E e' s'') s')
    have hB := (hbody _ (envOfC qg sg s.heap.objs.size g cdg :: X.stack) s1 H1 (hr.deeper _)).run [] _ _ H1 Q J ht
    refine PySem.W.kla_codeExpr (wpAny_mono hB (fun v s' ⟨w', H', J', rv, q⟩ => ?_) fun e s' hq => hq)
    exact ⟨w', H', J'.os, J'.bare, J'.base, J'.hok, rv, q⟩
  refine PySem.W.callWith_F0 ⟨_, _, _, _, of1⟩ (wpAny_call (codeAny_mono called fun r s' hq => ?_))
  have hx := L2N.passes_call tk hW
  match r, hq with
  | .error e, hq => exact hx pinsZ σZ H1 s1 e s' I1 hq
  | .ok (.ret uu), hq => exact I1.after hq
  | .ok .next, hq => exact False.elim hq
  | .ok .brk, hq => exact False.elim hq
  | .ok .cont, hq => exact False.elim hq
end

/-- what the catching def makes of the lambda's reading: words by classes, or fine -/
def TTw (u : U) (okc : Nat → Bool) (words : Nat → Str) (fine : Str) (tl : XK → Hp → VK → Prop) (H : Hp) (Q : VK) : Prop :=
  tl (fun cls d H' => ∃ c, cls = .ref (u.cl c) ∧ d = none ∧ okc c = true ∧ Q (.str (words c)) H') H fun _ H' => Q (.str fine) H'
section
variable {X : Cx} {u : U}
/-- the telling def: its body, the error that is handled in its first slot -/
structure OfOk (X : Cx) (u : U) (okc : Nat → Bool) (words : Nat → Str) (lo : Str) (k : Nat) : Prop where
  ok : ∃ (f : Addr) (fd : FuncData) (a0 : Str), X.mg lo = some (.ref f) ∧ PySem.W.keepIn X.K (.ref f) = true ∧ Binds X.K fd [a0] [] ∧ ∀ (c : Nat) (p : Addr × Obj), okc c = true → Caught (u.cl c) p →
    ∀ (A : Around) (outer : List Env) (s : Shared) (H : Hp) (args : Args) (Q : VK) (E : XK), L2H.RoomH k A → L2H.Hot1 A p → L2H.PinOk outer H s p → Env0 X.prog X.w X.K X.mg X.base A outer s H → BindsTo s fd args [(a0, .ref p.1)] → Q (.str (words c)) H → codeAny (model X.prog X.w) A (.call (.ref f) args) (CR CX0 outer X.prog X.w H s Q E) s
theorem word_gives {okc : Nat → Bool} {words : Nat → Str} {fine x a n en lo q : Str} {k kk jf : Nat} {sg : Scope} {g : Addr} {cdg : Value} {B : Addr} {f c' : Addr} {s : Shared} {H : Hp} {Q : VK} {tl : XK → Hp → VK → Prop} {q1 q2 q3 q4 q5 q6 q7 q8 q9 q10 q11 q12 : Pos}
    (sc : sg.names.lookup n = some .local) (hne : [a, n].Nodup) (hge : sg.names.lookup en = some .globalImplicit) (hgl : sg.names.lookup lo = some .globalImplicit) (hme : X.mg en = some (.ref B)) (hde : (en == ("__debug__" : Str)) = false) (hdl : (lo == ("__debug__" : Str)) = false) (hdn : (n == ("__debug__" : Str)) = false) (hcn : (n == ("__classdict__" : Str)) = false)
    (hex : ∀ c, okc c = true → PySem.W.exmOne X.K (.ref (u.cl c)) (.ref B) = some true) (T : OfOk X u okc words lo k) (hr : Room kk (X.A.deeper (envOfC x sg s.heap.objs.size g cdg))) (hk : k ≤ kk)
    (act : ∀ (W : WX) (pn : List (Addr × Obj)) (xe : Value → Shared → Prop) (E : XK), L2N.Takes ((cxOf CX0 X.prog X.w X.K X.mg X.base [a, n] x sg g cdg X.A X.stack s H E0).nox.tr pn xe) W → (∀ cls d σ' H', E cls d H' → W cls d σ' H') →
      PE ((cxOf CX0 X.prog X.w X.K X.mg X.base [a, n] x sg g cdg X.A X.stack s H E0).nox.tr pn xe) (.Call (.Name a q1) [] [] q2) (fun σZ HZ Q => σZ[0]? = some (some (.ref f)) ∧ HZ c' = some (CodeO c' q) ∧ tl E HZ Q))
    (hs : swapsWith (.Call (.Name a q1) [] [] q2) none q3.line (cxOf CX0 X.prog X.w X.K X.mg X.base [a, n] x sg g cdg X.A X.stack s H E0).nox.env = pure false)
    (hst : starEach [.Name n q6] (cxOf CX0 X.prog X.w X.K X.mg X.base [a, n] x sg g cdg X.A X.stack s H E0).nox.env = (false, eval (.Name n q6) (cxOf CX0 X.prog X.w X.K X.mg X.base [a, n] x sg g cdg X.A X.stack s H E0).nox.env) :: starEach [] (cxOf CX0 X.prog X.w X.K X.mg X.base [a, n] x sg g cdg X.A X.stack s H E0).nox.env)
    (hpl : (backTo q7 (starEach [] (cxOf CX0 X.prog X.w X.K X.mg X.base [a, n] x sg g cdg X.A X.stack s H E0).nox.env)).any (·.1) = false)
    (hco : H c' = some (CodeO c' q)) (h : TTw u okc words fine tl H Q) :
    ∃ t, PSs (cxOf CX0 X.prog X.w X.K X.mg X.base [a, n] x sg g cdg X.A X.stack s H E0).nox
      [.Try [.Expr (.Call (.Name a q1) [] [] q2) q3] [.ExceptHandler (some (.Name en q4)) (some n) [.Return (some (.Call (.Name lo q5) [.Name n q6] [] q7)) q8] q9] [] [] q10, .Return (some (.Constant (.str fine) jf q11)) q12] t ∧
      t { nx := fun _ H' => Q .non H', rt := Q } (L2.start [a, n] [.ref f]) H := by
  generalize hZ : (cxOf CX0 X.prog X.w X.K X.mg X.base [a, n] x sg g cdg X.A X.stack s H E0).nox = Z at *
  have zst : Z.stack = Z.env :: Z.outer := by subst hZ; rfl
  have zfr : Z.env.frame = some Z.env.locals := by subst hZ; rfl
  have zN : Z.N = [a, n] := by subst hZ; rfl
  have zK : Z.K = X.K := by subst hZ; rfl
  have zkn : Z.env.kindOf n = some .local := by subst hZ; exact sc
  have zge : Gl Z en := by subst hZ; exact hge
  have zgl : Gl Z lo := by subst hZ; exact hgl
  have zmg : Z.mg = X.mg := by subst hZ; rfl
  have zP : Z.prog = X.prog := by subst hZ; rfl
  have zw : Z.w = X.w := by subst hZ; rfl
  have zb : Z.base = X.base := by subst hZ; rfl
  have zA : Z.A = X.A.deeper (envOfC x sg s.heap.objs.size g cdg) := by subst hZ; rfl
  obtain ⟨fo, fdo, a0, o1, o2, o3, o4⟩ := T.ok
  have tr := L2N.ps_try_as (X := Z) (x := en) (n := n) (c := .ref B) (i := 1) (body := [.Expr (.Call (.Name a q1) [] [] q2) q3]) (suite := []) (b₀ := .Return (some (.Call (.Name lo q5) [.Name n q6] [] q7)) q8) (np := q4) (pos' := q9) (pos := q10)
    (Wout := fun _ _ _ _ => False)
    (tb := fun W D σ H => ∃ Ech : XK, (∀ cls d σ' H', Ech cls d H' → W cls d σ' H') ∧ σ[0]? = some (some (.ref f)) ∧ H c' = some (CodeO c' q) ∧ tl Ech H fun _ H1 => D.nx σ H1)
    (ts := fun ae cls d D σ H => ∃ c, cls = .ref (u.cl c) ∧ d = none ∧ okc c = true ∧ (∃ σ0, σ = List.set σ0 1 (some (.ref ae))) ∧ D.rt (.str (words c)) H)
    zst zfr (by rw [zN]; exact hne) (by rw [zN]; rfl) zkn ⟨zge, hde, .inl (by rw [zmg]; exact hme)⟩ takesN (fun W pn xe tk _ => ?_) fun ae oe cls d pn hz hf => ?_
  · refine ⟨_, pss_cons tr (pss_one (ps_ret pe_str)), ?_⟩
    refine ⟨_, fun cls d σ' H' ⟨c, e1, e2, e3, e4⟩ => ⟨true, by rw [e1, zK]; exact hex c e3, fun _ ae _ => ⟨c, e1, e2, e3, ⟨_, rfl⟩, e4⟩, fun z => by cases z⟩, rfl, hco, h⟩
  · refine ⟨fun pins s' σ H D I ⟨Ech, hW, h1, h2, h3⟩ => ?_⟩
    exact (pss_one (ps_expr (pos := q3) (act W pn xe Ech tk hW) hs)).run pins s' σ H D I ⟨h1, h2, h3⟩
  · refine ⟨fun pins s' σ H D I ⟨c, e1, e2, e3, e4, e5⟩ => ?_⟩
    subst e1 e2
    obtain ⟨σ0, e4⟩ := e4
    have hl : σ0.length = 2 := by
      have hl := I.len
      rw [e4, List.length_set] at hl
      exact hl.trans (by show Z.N.length = 2; rw [zN]; rfl)
    have h1 : σ[1]? = some (some (V.ref ae)) := by rw [e4, List.getElem?_set_self (by omega)]
    have g : Caught (u.cl c) (ae, oe) := ⟨⟨hz.1, hz.2.1⟩, hf⟩
    have hot : L2H.Hot1 (Z.suite ae ((ae, oe) :: pn)).A (ae, oe) := ⟨rfl, by
      obtain ⟨vs, hv⟩ := hf
      exact ⟨vs, hv, hz.2.2 vs hv⟩⟩
    have rm : L2H.RoomH k (Z.suite ae ((ae, oe) :: pn)).A := by
      have := (hr.mono hk)
      rw [← zA] at this
      exact ⟨this.dp, this.un⟩
    have pv1 : PE (Z.suite ae ((ae, oe) :: pn)) (.Name n q6) (tVar 1) := pe_var (by show Z.N[1]? = some n; rw [zN]; rfl) (.inl zkn) hdn hcn
    have pc := pe_caught (X := Z.suite ae ((ae, oe) :: pn)) (CX := CX0) (f := fo) (k := k) (z := words c) (x := lo) (p := (ae, oe)) (fd := fdo) (a0 := a0) (q := q5) (pos := q7) (fun A outer s H args Q E r1 r2 r3 r4 r5 r6 => by
      have := o4 c (ae, oe) e3 g A outer s H args Q E r1 r2 r3 (by
        have r4' : Env0 Z.prog Z.w Z.K Z.mg Z.base A outer s H := r4
        rw [zP, zw, zK, zmg, zb] at r4'
        exact r4') r5 r6
      rw [← zP, ← zw] at this
      exact this) rm hot List.mem_cons_self zgl (by show Z.mg lo = _; rw [zmg]; exact o1) (by show PySem.W.keepIn Z.K _ = true; rw [zK]; exact o2) (by show Binds Z.K _ _ _; rw [zK]; exact o3) (fun _ _ _ _ _ _ _ h => h) pv1 hdl hst hpl
    exact (pss_one (ps_ret (pos := q8) pc)).run pins s' σ H D I ⟨h1, e5⟩
end

/-- the code object of the def where one stands, and its table -/
def LamC (X : Cx) (u : U) : Prop := ∃ c P, X.env.code = .ref c ∧ TabB X.base X.mg c P ∧ (P, X.env.qual ++ ("<lambda>" : Str)) ∈ u.T ∧ ∀ p ∈ u.T, p.1 = P → p.2 = X.env.qual ++ ("<lambda>" : Str)
theorem LamC.blk {X : Cx} {u : U} (L : LamC X u) (s : Shared) (H : Hp) (scope : Scope) (cl : List (Str × Addr)) (c : Addr) (fp : List Addr) : LamC (Blk X scope s H c cl fp) u := L
/-- word(lambda: e) -/
def mWord (okc : Nat → Bool) (words : Nat → List Nat) (fine : List Nat) (m : M) : M := fun s w => match m s w with
  | .ok _ w1 => .ok (.str fine) w1
  | .ex c .no w1 => bif okc c then .ok (.str (words c)) w1 else .bad
  | _ => .bad
/-- the catching def as it stands -/
structure WordOk (u : U) (mg : Str → Option Value) (base : Heap) (x a n en lo fine : Str) (okc : Nat → Bool) (words : Nat → Str) (k : Nat) (pg : Arguments) (bg : List Stmt) (sg : Scope) : Prop where
  ok : ∃ g fd, mg x = some (.ref g) ∧ FunD u.K x x pg bg sg [] [] g fd ∧ Binds u.K fd [a] []
  sc : FnScope [a, n] [a] sg
  loc : sg.names.lookup n = some .local
  va : Vis sg a
  ge : sg.names.lookup en = some .globalImplicit
  gl : sg.names.lookup lo = some .globalImplicit
  de : (en == ("__debug__" : Str)) = false
  dl : (lo == ("__debug__" : Str)) = false
  dn : (n == ("__debug__" : Str)) = false
  cn : (n == ("__classdict__" : Str)) = false
  da : (a == ("__debug__" : Str)) = false
  ca : (a == ("__classdict__" : Str)) = false
  ex : ∃ B, mg en = some (.ref B) ∧ ∀ c, okc c = true → PySem.W.exmOne u.K (.ref (u.cl c)) (.ref B) = some true
  of_ : ∀ X : Cx, X.K = u.K → X.prog = u.P → X.w = u.w → X.mg = mg → X.base = base → OfOk X u okc words lo k
  bd : ∃ q1 q2 q3 q4 q5 q6 q7 q8 q9 q10 jf q11 q12, bg = [.Try [.Expr (.Call (.Name a q1) [] [] q2) q3] [.ExceptHandler (some (.Name en q4)) (some n) [.Return (some (.Call (.Name lo q5) [.Name n q6] [] q7)) q8] q9] [] [] q10, .Return (some (.Constant (.str fine) jf q11)) q12] ∧
    (∀ env, swapsWith (.Call (.Name a q1) [] [] q2) none q3.line env = pure false) ∧ (∀ env, starEach [.Name n q6] env = (false, eval (.Name n q6) env) :: starEach [] env) ∧ ∀ env, (backTo q7 (starEach [] env)).any (·.1) = false
theorem d_word {X : Cx} {u : U} {E : XK} {x a n en lo fine : Str} {okc : Nat → Bool} {words : Nat → Str} {k kb : Nat} {pg : Arguments} {bg : List Stmt} {sg : Scope} {params : Arguments} {body : Expr} {scope : Scope} {mb : M} {p lpos pos : Pos}
    (C : CO X u E) (LC : LamC X u) (W : WordOk u X.mg X.base x a n en lo fine okc words k pg bg sg) (hr : Room (kb + 2) X.A) (hk : k ≤ kb + 1) (L : LamS X.env.scope scope)
    (hbody : ∀ (A : Around) (outer : List Env) (s : Shared) (H : Hp) (E : XK) (f c' : Addr), CO (lamN X A outer s H E scope f c') u E → Room kb (lamN X A outer s H E scope f c').A → PE (lamN X A outer s H E scope f c') body (tM u E mb))
    (hdef : defaultsOf params X.env = ([], []) := by rfl) (hbind : ∀ (q : Str) (cl : List (Str × Addr)) (pm cv ctv : Value), bindArgs (PySem.W.kla_fn "<lambda>" q params body scope cl pm cv ctv) ⟨[], []⟩ = pure [] := by intros; rfl)
    (hg : Gl X x := by rfl) (hdb : (x == ("__debug__" : Str)) = false := by decide)
    (hst : starEach [.Lambda params body scope lpos] X.env = (false, eval (.Lambda params body scope lpos) X.env) :: starEach [] X.env := by rfl) (hpl : (backTo pos (starEach [] X.env)).any (·.1) = false := by rfl) (hbt : backTo pos (starEach [.Lambda params body scope lpos] X.env) = [(false, eval (.Lambda params body scope lpos) X.env)] := by rfl) :
    PE X (.Call (.Name x p) [.Lambda params body scope lpos] [] pos) (tM u E (mWord okc (fun c => (words c).cps.toList) fine.cps.toList mb)) := by
  obtain ⟨c, P, hcode, TB, hmT, hu⟩ := LC
  obtain ⟨g, fd, hm, F, hb⟩ := W.ok
  obtain ⟨oc, od, dV, kV, doc, pm, an, cdv, ct, osl, rfl, lk, hcd, _, _⟩ := F.ex
  obtain ⟨B, hme, hex⟩ := W.ex
  obtain ⟨q1, q2, q3, q4, q5, q6, q7, q8, q9, q10, jf, q11, q12, rfl, g1, g2, g3⟩ := W.bd
  have T := W.of_ X C.hK C.hP C.hW rfl rfl
  refine ⟨fun pins s σ H Q I ⟨rho, sv, w, R, Z, q⟩ => ?_⟩
  refine wpAny_Call_Name_kw (ld_glob I hg hm ?_ hdb)
  refine PySem.W.callWith_K (h₀ := X.base) I.ok.mod.kin (by rw [C.hK]; exact F.kp) ?_ hst hpl
  rw [hbt]
  refine Calls.spliced_cons (LamX.lam_make2 I TB hcode hmT hu R.tabs hdef (L.has I.ok) fun f c' pm' ctv H1 s' I1 eN T1 hf hfn hfr hco => Calls.spliced_nil ⟨I1.kIn, ?_⟩)
  obtain ⟨R1, e1⟩ := R.extN eN T1
  have Z1 := Z.mono (Nat.le_refl _) (fun _ _ => rfl) e1.tups
  have rc : codeAny (model X.prog X.w) X.A (.call (.ref g) ⟨[.ref f], []⟩) (CR CX0 X.stack X.prog X.w H1 s' Q E0) s' := by
    refine LamX.run_ofS (N := [a, n]) (ps := [a]) (us := [.ref f]) (vs := [.ref f]) (by rw [C.hK]; exact lk) (by rw [C.hK]; exact hcd) W.sc hr I1.env0 (hb s' [.ref f] (by have := I1.kIn; rw [C.hK] at this; exact this) rfl) (.cons rfl .nil) rfl fun hr' => ?_
    have hT : TTw u okc words fine (fun E' H' Q' => tM u E' mb σ H' Q') H1 Q := by
      refine ⟨rho, sv, w, R1, Z1, ?_⟩
      unfold mWord at q
      revert q
      cases mb sv w with
      | bad => exact fun q => q.elim
      | ok d w1 => exact fun q rho2 H2 v e2 R2 _ => q rho2 H2 _ (e1.trans R e2) R2 (.str _ rfl)
      | ex c pl w1 =>
        intro q
        cases pl <;> try exact q.elim
        obtain ⟨hc, q⟩ := bbeq q
        intro rho2 H2 oe e2 R2 pk
        refine ⟨c, rfl, ?_, hc, q rho2 H2 _ (e1.trans R e2) R2 (.str _ rfl)⟩
        rcases pk with ⟨_, z⟩ | ⟨d0, v0, _, _, z⟩
        · exact z
        · cases z

    obtain ⟨t, h1, h2⟩ := word_gives (X := X) (u := u) (okc := okc) (words := words) (fine := fine) (kk := kb + 1) (f := f) (c' := c') (q := X.env.qual ++ ("<lambda>" : Str)) (s := s') (H := H1) (Q := Q) (cdg := cdv) (g := g) (x := x) (tl := fun E' H' Q' => tM u E' mb σ H' Q') (jf := jf) (q3 := q3) (q4 := q4) (q5 := q5) (q8 := q8) (q9 := q9) (q10 := q10) (q11 := q11) (q12 := q12)
      W.loc W.sc.nd W.ge W.gl hme W.de W.dl W.dn W.cn (fun c hc => by rw [C.hK]; exact hex c hc) T hr' hk
      (fun W' pn xe E' tk hW => act_lam (CXg := CX0) (Eg := E0) (Ng := [a, n]) (i := 0) I1 L hf hfn hfr (hbind _ _ _ _ _) tk hW hr' (fun A outer s2 H2 hr2 => hbody A outer s2 H2 E' f c' (lamN_ok C hr2) hr2) rfl W.va W.da W.ca)
      (g1 _) (g2 _) (g3 _) hco hT
    exact ⟨t, h1.nox, h2⟩
  refine wpAny_call (codeAny_mono rc fun r s2 hq => ?_)
  match r, hq with
  | .error e, hq => exact (show False from hq).elim
  | .ok (.ret uu), hq => exact I1.after hq
  | .ok .next, hq => exact False.elim hq
  | .ok .brk, hq => exact False.elim hq
  | .ok .cont, hq => exact False.elim hq

/-! ### a def that makes lambdas -/
/-- the code object of the def x, its table -/
def LamF (u : U) (mg : Str → Option Value) (base : Heap) (x : Str) : Prop := ∃ f c P, mg x = some (.ref f) ∧ (∀ oc od fd osl, u.K.lookup f = some ⟨oc, od, .func fd, osl⟩ → ∀ c', fd.code = .ref c' → c' = c) ∧ TabB base mg c P ∧ (P, x ++ (".<locals>." : Str) ++ ("<lambda>" : Str)) ∈ u.T ∧ ∀ p ∈ u.T, p.1 = P → p.2 = x ++ (".<locals>." : Str) ++ ("<lambda>" : Str)
section
variable {u : U} {mg : Str → Option Value} {base : Heap} {x : Str} {params : Arguments} {body : List Stmt} {scope : Scope} {N ps : List Str} {B : MS} {k : Nat}
theorem DefOk.ofL (hF : ∃ f fd, mg x = some (.ref f) ∧ FunD u.K x x params body scope [] [] f fd) (hL : LamF u mg base x) (S : FnScope N ps scope) {n kx : Nat} (hn : ps.length = n) (hN : N.length = n + kx)
    (hp : ∀ (kV doc pm : Value) (an : Option Addr) (cdv ct : Value) (us : List Value), us.length = ps.length → bindArgs (PySem.W.fnOf x x params body scope .none kV doc pm an cdv ct) ⟨us, []⟩ = pure (ps.zip us))
    (hb : ∀ (f : Addr) (cdv : Value) (A : Around) (outer : List Env) (s : Shared) (H : Hp) (E : XK), LamC (DX u mg base N x scope f cdv A outer s H E) u → CO (DX u mg base N x scope f cdv A outer s H E) u E → Room k (DX u mg base N x scope f cdv A outer s H E).A → PSs (DX u mg base N x scope f cdv A outer s H E) body (tMS u E B)) :
    DefOk u mg base x ps (k + 1) (fDef n kx B) n [] := by
  obtain ⟨f, fd, hm, F⟩ := hF
  refine ⟨⟨f, fd, [], [], hm, F.kp, F.bindsN hp, .nil, fun _ _ _ => .nil, ?_⟩, len_def⟩
  obtain ⟨oc, od, dV, kV, doc, pm, an, cdv, ct, osl, rfl, lk, hcd, _, _⟩ := F.ex
  obtain ⟨f', c, P, hm', hc, TB, t1, t2⟩ := hL
  have ef : f' = f := Value.ref.inj (Option.some.inj (hm'.symm.trans hm))
  subst ef
  obtain ⟨c', ec⟩ := He.codeIn_ref hcd
  have ec2 := hc _ _ _ _ lk c' ec
  subst ec2
  refine fn_of lk hcd S (fun vs H Q E h => h.1.trans hn.symm) fun A outer s H vs Q E hr h => ⟨tMS u E B, hb _ cdv A outer s H E ⟨c', P, ec, TB, t1, t2⟩ ⟨rfl, rfl, rfl, rfl, by have := hr.un; show (A.deeper _).units + 64 < cLine; omega, L2N.takes_of rfl rfl rfl rfl, passes_of rfl, S.nd⟩ hr, ?_⟩
  obtain ⟨hl, rho, w, ds, r, rv, q⟩ := h
  unfold fDef at q
  obtain ⟨_, q⟩ := bbeq q
  refine ⟨rho, ds ++ List.replicate kx .no, w, r, ?_, ?_⟩
  · have e : N.length - vs.length = kx := by omega
    unfold L2.start
    rw [e]
    exact SS.start rv kx
  · revert q
    cases B (ds ++ List.replicate kx .no) w with
    | rt d w1 => exact id
    | nx s1 w1 => exact fun q rho' H' σ' e r' _ => q rho' H' .non e r' .non
    | ex c p w1 => exact id
    | bk s1 w1 => exact fun q => q.elim
    | ct s1 w1 => exact fun q => q.elim
    | bad => exact fun q => q.elim
end
end Ev

set_option Elab.async false
set_option linter.all false
set_option maxRecDepth 100000
set_option maxHeartbeats 400000
/-! EvDP: dict(list of pairs). -/
namespace Ev
open PySem PySem.Spec PyProof.Rows L2
section
variable {X : Cx} {u : U} {E : XK} {rho : Nat → Addr} {m : Nat} {H : Hp}
theorem room8b {A : Around} (hu : A.units + 64 < cLine) {P : Program} {w : World} : (nestedKind P w).room A.in1.in1 := by
  show A.units + 1 + 1 + 8 < cLine
  omega
theorem storedH_nil {k : NestedKey} {a : Addr} {v : Value} : storedH ([] : List (NestedKey × Addr × Value)) k a v = [(k, a, v)] := rfl
theorem storedH_mem {k : NestedKey} {a : Addr} {v : Value} {y : NestedKey} : ∀ {xs : List (NestedKey × Addr × Value)}, (xs.map (·.1)).Nodup → y ∈ (storedH xs k a v).map (·.1) → y = k ∨ y ∈ xs.map (·.1)
  | [], _, h => by
    rw [storedH_nil] at h
    exact .inl (by simpa using h)
  | x :: xs, nd, h => by
    have nd' := List.nodup_cons.mp (show (x.1 :: xs.map (·.1)).Nodup from nd)
    by_cases e : x.1 = k
    · rw [storedH_hit e (by rw [← e]; exact nd'.1)] at h
      exact .inr h
    · rw [storedH_cons e] at h
      rcases List.mem_cons.mp h with h | h
      · exact .inr (by rw [h]; exact List.mem_cons_self)
      · exact (storedH_mem nd'.2 h).imp id fun z => List.mem_cons_of_mem _ z
theorem storedH_nodup {k : NestedKey} {a : Addr} {v : Value} : ∀ {xs : List (NestedKey × Addr × Value)}, (xs.map (·.1)).Nodup → ((storedH xs k a v).map (·.1)).Nodup
  | [], _ => by rw [storedH_nil]; simp
  | x :: xs, nd => by
    have nd' := List.nodup_cons.mp (show (x.1 :: xs.map (·.1)).Nodup from nd)
    by_cases e : x.1 = k
    · rw [storedH_hit e (by rw [← e]; exact nd'.1)]
      exact nd
    · rw [storedH_cons e]
      refine List.nodup_cons.mpr ⟨fun z => ?_, storedH_nodup nd'.2⟩
      rcases storedH_mem nd'.2 z with z | z
      · exact e z
      · exact nd'.1 z
def dPutAll (l : List (D × D)) : List (D × D) → List (D × D)
  | [] => l
  | p :: r => dPutAll (dPut p.1 p.2 l) r
theorem dPutAll_ok {kvs : List (D × D)} {ps : List (NestedKey × Addr × Value)} (h : REs u rho m H kvs ps) : ∀ {l : List (D × D)} {xs : List (NestedKey × Addr × Value)}, REs u rho m H l xs → (xs.map (·.1)).Nodup → REs u rho m H (dPutAll l kvs) (storedAllH xs ps) := by
  induction h with
  | nil => exact fun h _ => h
  | cons hk ra rl rv _ ih => exact fun h nd => ih (dPut_ok hk ra rl rv h nd) (storedH_nodup nd)
theorem dPutAll_len : ∀ (kvs l : List (D × D)), (dPutAll l kvs).length ≤ l.length + kvs.length
  | [], l => Nat.le_refl _
  | p :: r, l => by
    have h1 := dPutAll_len r (dPut p.1 p.2 l)
    have h2 := dPut_len (k := p.1) (v := p.2) l
    show (dPutAll (dPut p.1 p.2 l) r).length ≤ l.length + (r.length + 1)
    omega
/-- pairs by their addresses -/
inductive RPs (u : U) (rho : Nat → Addr) (m : Nat) (H : Hp) : List (D × D) → List V → Prop
  | nil : RPs u rho m H [] []
  | cons {k v : D} {l : List (D × D)} {p : Addr} {kv vv : V} {ps : List V} : SqT u.K H p [kv, vv] → okKey k = true → RV u rho m H k kv → RV u rho m H v vv → RPs u rho m H l ps → RPs u rho m H ((k, v) :: l) (.ref p :: ps)
theorem RPs.length {kvs : List (D × D)} {ps : List V} (h : RPs u rho m H kvs ps) : kvs.length = ps.length := by
  induction h with
  | nil => rfl
  | cons _ _ _ _ _ ih => rw [List.length_cons, List.length_cons, ih]
theorem pairs_at {pins : List (Addr × Obj)} {σ : L2.St} {s : Shared} (I : Inv X pins σ H s) (hK : X.K = u.K) {kvs : List (D × D)} {ps : List V} (h : RPs u rho m H kvs ps) :
    ∃ (en : List (NestedKey × Addr × Value)) (Ts : Nat → Addr), REs u rho m H kvs en ∧ en.length = ps.length ∧ ∀ (j : Nat) (k : NestedKey) (b : Addr) (v : Value), en[j]? = some (k, b, v) → ps[j]? = some (.ref (Ts j)) ∧ PairAt s.heap (Ts j) (.ref b) v ∧ (nestedKind u.P u.w).is s.heap k b := by
  induction h with
  | nil => exact ⟨[], fun _ => 0, .nil, rfl, fun j k b v e => by simp at e⟩
  | @cons k v l p kv vv ps hq hk rk rv _ ih =>
    obtain ⟨en, Ts, r, hl, ha⟩ := ih
    obtain ⟨nk, a', e1, e2⟩ := okKey_ok hk rk
    cases e2
    have hq2 : SqT X.K H p [.ref a', vv] := by rw [hK]; exact hq
    obtain ⟨its, rr, ht, _⟩ := I.tuple hq2
    obtain ⟨u1, y, ei, ru, ry⟩ := vals2 rr
    subst ei
    cases ru
    refine ⟨(nk, a', y) :: en, fun j => match j with | 0 => p | j + 1 => Ts j, .cons e1 rk ry rv r, by rw [List.length_cons, List.length_cons, hl], fun j k' b v' e => ?_⟩
    cases j with
    | zero =>
      have e' : (nk, a', y) = (k', b, v') := Option.some.inj e
      cases e'
      exact ⟨rfl, .inl ht, keyed_of I hK e1 rk⟩
    | succ j =>
      obtain ⟨g1, g2, g3⟩ := ha j k' b v' (by simpa using e)
      exact ⟨by simpa using g1, g2, g3⟩
def rDictP (u : U) : List V → Hp → VK → Prop := fun xs H Q => ∃ (a : Addr) (ps : List V) (kvs : List (D × D)) (rho : Nat → Addr) (m : Nat), xs = [.ref a] ∧ SqL u.K H a ps ∧ RPs u rho m H kvs ps ∧ kvs.length ≤ 1000 ∧
  ∀ (p : Addr) (ob : Obj) (es : Array DictEntry) (ep : Nat) (en : List (NestedKey × Addr × Value)), H p = none → (p == sysModules) = false → REs u rho m H (dPutAll [] kvs) en → ob.ExactDict → ob.data = .dict es ep → es.toList = en.map (entryOfKey (nestedKind u.P u.w)) → (en.map (·.1)).Nodup → Q (.ref p) (L2.upd H p (rawO p ob))
theorem cr_dictP (hK : X.K = u.K) (hP : X.prog = u.P) (hW : X.w = u.w) (hc : X.calm = true) (hu : X.A.units + 64 < cLine) : CallR X (.type "dict") (rDictP u) := by
  intro pins s σ H xs us Q I r q
  obtain ⟨a, ps, kvs, rho, m, rfl, hq, hp, hlen, q⟩ := q
  obtain ⟨ux, rfl, rx⟩ := vals1 r
  cases rx
  obtain ⟨en, Ts, re, hl, ha⟩ := pairs_at I hK hp
  have hq2 : SqL X.K H a ps := by rw [hK]; exact hq
  obtain ⟨its, rr, ht, _⟩ := I.list hq2
  have hil : its.length = en.length := by rw [hl]; exact rr.length.symm
  have hn : (en.map fun x => ((Value.ref x.2.1, x.2.2) : Value × Value)).length = en.length := List.length_map ..
  have key : wpAny (model u.P u.w) X.A (call (.type "dict") [.ref a]) (EP X pins σ Q) X.xe s := by
    refine call_dict_pairsH (knd := nestedKind u.P u.w) (ps := en) (PairArg.list a its.toArray Ts (en.map fun x => (Value.ref x.2.1, x.2.2))) (I.ok.hd hc) (room8b hu) ⟨ht, ?_⟩ ?_ ?_ ?_ fun h' tk hd sb => ?_
    · refine ⟨by rw [hn]; simpa using hil, fun j k v e => ?_⟩
      rw [List.getElem?_map] at e
      cases e0 : en[j]? with
      | none => rw [e0] at e; cases e
      | some x =>
        rw [e0] at e
        obtain ⟨nk, b, v0⟩ := x
        cases e
        obtain ⟨g1, g2, _⟩ := ha j nk b v0 e0
        refine ⟨?_, g2⟩
        obtain ⟨uv, h1, h2⟩ := rr.get g1
        cases h2
        simpa using h1
    · refine ⟨hn.symm, fun i key v e => ?_⟩
      have e' : (en.map fun x => ((Value.ref x.2.1, x.2.2) : Value × Value))[i]? = some (key, v) := e
      rw [List.getElem?_map] at e'
      cases e0 : en[i]? with
      | none => rw [e0] at e'; cases e'
      | some x =>
        rw [e0] at e'
        obtain ⟨nk, b, v0⟩ := x
        cases e'
        exact ⟨nk, b, rfl, rfl⟩
    · intro h' hk x hx
      obtain ⟨j, hj⟩ := List.mem_iff_getElem?.mp hx
      obtain ⟨nk, b, v0⟩ := x
      obtain ⟨_, _, g3⟩ := ha j nk b v0 hj
      exact nestedKind_stays.stays (fun b o vs n e _ => hk b o (Nat.ne_of_lt (Heap.lt_size e)) (by simp) e) g3
    · rw [hn, hl, ← hp.length, sizeLine_eq]
      omega
    · obtain ⟨ob', es', ep', ho', hex, hdt, hes, _, hnd⟩ := hd
      refine ⟨.ref s.heap.objs.size, _, I.laid (t' := tk) (fun b o e => sb b o (by simp) e) (Nat.le_refl _) (raw_ok ho'), rfl, q _ ob' es' ep' _ (I.hok.fresh (Nat.le_refl _)) (no_sys I) (dPutAll_ok re .nil List.nodup_nil) hex hdt hes hnd⟩
  rw [← hP, ← hW] at key
  exact key
def pairsD : List D → Option (List (D × D))
  | [] => some []
  | d :: r => match d with
    | .tup [k, v] => bif okKey k then (match pairsD r with
      | some l => some ((k, v) :: l)
      | none => none) else none
    | _ => none
theorem pairsD_ok : ∀ {l : List D} {vs : List V} {kvs : List (D × D)}, RVs u rho m H l vs → pairsD l = some kvs → RPs u rho m H kvs vs
  | [], _, kvs, .nil, h => by cases h; exact .nil
  | d :: r, _, kvs, .cons a b, h => by
    unfold pairsD at h
    split at h
    · rename_i k v
      cases hb : okKey k with
      | false => rw [hb] at h; cases h
      | true =>
        rw [hb] at h
        cases e : pairsD r with
        | none => rw [e] at h; cases h
        | some l =>
          rw [e] at h
          cases h
          cases a with
          | tup hq hr =>
            cases hr with
            | cons r1 r2 =>
              cases r2 with
              | cons r3 r4 =>
                cases r4
                exact .cons hq hb r1 r3 (pairsD_ok b e)
    · cases h
/-- dict([(1, v)]) -/
def rDictI (u : U) : List V → Hp → VK → Prop := fun xs H Q => ∃ (a p : Addr) (i : Int) (vv : V), xs = [.ref a] ∧ SqL u.K H a [.ref p] ∧ SqT u.K H p [.int i, vv] ∧
  ∀ (d : Addr) (ob : Obj) (es : Array DictEntry) (ep : Nat) (kvs : List (Key × Value)), H d = none → (d == sysModules) = false → ob.ExactDict → ob.data = .dict es ep → KeysOf (mixKind u.P u.w) es → Pairs (mixKind u.P u.w) es.toList kvs → (kvs.map (·.1)).Nodup → kvs.map (·.1) = [Sum.inl i] → Q (.ref d) (L2.upd H d (rawO d ob))
theorem cr_dictI (hK : X.K = u.K) (hP : X.prog = u.P) (hW : X.w = u.w) (hc : X.calm = true) : CallR X (.type "dict") (rDictI u) := by
  intro pins s σ H xs us Q I r q
  obtain ⟨a, p, i, vv, rfl, hq, ht, q⟩ := q
  obtain ⟨ux, rfl, rx⟩ := vals1 r
  cases rx
  have hq2 : SqL X.K H a [.ref p] := by rw [hK]; exact hq
  have ht2 : SqT X.K H p [.int i, vv] := by rw [hK]; exact ht
  obtain ⟨its, rr, ⟨o, n, ho, hoc, hod, hdat⟩, _⟩ := I.list hq2
  obtain ⟨up, rfl, rp⟩ := vals1 rr
  cases rp
  obtain ⟨its2, rr2, htup, _⟩ := I.tuple ht2
  obtain ⟨u1, y, rfl, ru, ry⟩ := vals2 rr2
  obtain ⟨t, rfl⟩ := ru
  have key : wpAny (model u.P u.w) X.A (call (.type "dict") [.ref a]) (EP X pins σ Q) X.xe s := by
    refine L2.call_dict_pairs (prs := [(Sum.inl i, y)]) (I.ok.hd hc) ho hoc hod hdat rfl (show 1 ≤ sizeLine by decide) (fun j q' e => ?_) fun h' tk hd sb => ?_
    · cases j with
      | zero =>
        cases e
        exact ⟨p, .int i t, rfl, htup, by show keyIs (Sum.inl i) (.int i t) = true; simp [keyIs, Value.isInt]⟩
      | succ j => simp at e
    · obtain ⟨ob', es', ep', ho', hex, hdt, hko, hpr, hnd⟩ := hd
      refine ⟨.ref s.heap.objs.size, _, I.laid (t' := tk) sb (Nat.le_refl _) (raw_ok ho'), rfl, q _ ob' es' ep' _ (I.hok.fresh (Nat.le_refl _)) (no_sys I) hex hdt hko hpr hnd rfl⟩
  rw [← hP, ← hW] at key
  exact key
/-- dict(xs) -/
def fDictP : FN := fun ds w => match ds with
  | [.ref i] => (match wl w i with
    | some [.tup [.int j, _]] => alloc (.ik [j]) w
    | some l => (match pairsD l with
      | some kvs => bif Nat.ble kvs.length 1000 then alloc (.dct false (dPutAll [] kvs)) w else .bad
      | none => .bad)
    | none => .bad)
  | _ => .bad
theorem fits_dictP : FitsN u E (fun xs H Q => rDictP u xs H Q ∨ rDictI u xs H Q) fDictP := by
  intro rho w H ds vs Q r rv q
  unfold fDictP at q
  split at q
  · rename_i i
    match vs, rv with
    | [_], .cons (.ref k hk ek) .nil =>
      subst ek
      split at q
      · rename_i j dv e0
        obtain ⟨xs, hs, hr⟩ := r.wl e0
        cases hr with
        | cons h1 h2 =>
          cases h2
          cases h1 with
          | tup hq hr2 =>
            cases hr2 with
            | cons r1 r2 =>
              cases r1
              cases r2 with
              | cons r3 r4 =>
                cases r4
                refine .inr ⟨_, _, j, _, rfl, hs, hq, fun p ob es ep kvs hp hsm hex hdt hko hpr hnd hkl => ?_⟩
                unfold alloc at q
                cases hb2 : Nat.blt w.n 1000000000 with
                | false => rw [hb2] at q; exact q.elim
                | true =>
                  rw [hb2] at q
                  obtain ⟨r', e⟩ := r.new (o := .ik [j]) (ho := rawO p ob) hp hb2 ⟨ob, es, ep, kvs, upd_same, hex, hdt, hko, hpr, hnd, hkl, hsm, show 1 ≤ 1000 by decide⟩ (fun _ z => by cases z)
                  exact q _ _ _ e r' (.ref _ (Nat.lt_succ_self _) rhoN_at.symm)
      · rename_i l _ e0
        obtain ⟨xs, hs, hr⟩ := r.wl e0
        split at q
        · rename_i kvs e1
          obtain ⟨hb, q⟩ := bbeq q
          refine .inl ⟨_, xs, kvs, rho, w.n, rfl, hs, pairsD_ok hr e1, Nat.le_of_ble_eq_true hb, fun p ob es ep en hp hsm hre hex hdt hes hnd => ?_⟩
          unfold alloc at q
          cases hb2 : Nat.blt w.n 1000000000 with
          | false => rw [hb2] at q; exact q.elim
          | true =>
            rw [hb2] at q
            have hlen := dPutAll_len kvs []
            have hk1 : kvs.length ≤ 1000 := Nat.le_of_ble_eq_true hb
            have tp : Tups H (L2.upd H p (rawO p ob)) := (r.tup (o := rawO p ob) hp).2.tups
            have ne : ∀ i, i < w.n → rhoN rho w.n p i = rho i := fun i hi => rhoN_lt hi
            obtain ⟨r', e⟩ := r.new (o := .dct false (dPutAll [] kvs)) (ho := rawO p ob) hp hb2 ⟨ob, es, ep, en, ⟨upd_same, hex, hdt, hes, hnd, hre.mono (Nat.le_succ _) ne tp, hsm, by simp at hlen; omega⟩⟩ (fun _ z => by cases z)
            exact q _ _ _ e r' (.ref _ (Nat.lt_succ_self _) rhoN_at.symm)
        · exact q.elim
      · exact q.elim
  · exact q.elim
theorem b_dict (C : CO X u E) : Bi X u E "dict" fDictP := .ty PyProof.Rows.boot_dict ((cr_dictP C.hK C.hP C.hW C.calm C.hu).or (cr_dictI C.hK C.hP C.hW C.calm)) fits_dictP
/-! ### sorted(d, key=f) of an empty dict -/
def rSortKE (u : U) (f : Addr) : List V → List V → Hp → VK → Prop := fun xs zs H Q => ∃ (a : Addr) (rho : Nat → Addr) (n : Nat) (ob : Obj) (es : Array DictEntry) (ep : Nat) (ys : List (NestedKey × Addr × Value)), xs = [.ref a] ∧ zs = [.ref f] ∧ RD u rho n H a [] ob es ep ys ∧
  ∀ p, H p = none → Q (.ref p) (L2.upd H p (.lst []))
theorem cr_sortKE {f : Addr} (hc : X.calm = true) : CallRK X (.builtin "sorted") [Str.ofString "key"] (rSortKE u f) := by
  intro pins s σ H xs zs us ws Q I r rz q
  obtain ⟨a, rho, n, ob, es, ep, ys, rfl, rfl, rd, q⟩ := q
  obtain ⟨ux, rfl, rx⟩ := vals1 r
  cases rx
  obtain ⟨uw, rfl, rw⟩ := vals1 rz
  cases rw
  have hr : ObjOk X.prog X.w H s.heap a (rawO a ob) := I.hok a _ rd.at_
  have hy : ys = [] := by
    have := rd.rel.length
    cases ys with
    | nil => rfl
    | cons y ys => simp at this
  subst hy
  have hes : es.size = 0 := by
    have := congrArg List.length rd.ents
    simpa using this
  refine call_function_entry_kw PyProof.Rows.kind_sorted PyProof.Rows.plain_sorted PyProof.Rows.entry_sorted (PyProof.Rows.ksk_s1 _ _) ?_
  unfold Builtin.«sorted»
  refine wpAny_bind (m := checkCount "sorted" 1 1 _) (wpAny_pure ?_)
  refine wpAny_bind (PySem.W.kdu_collect (A := X.A.in1) (KdlSrc.rawDict rd.sm) (I.ok.hd hc) ⟨ob, hr.1, rd.ex, rd.data⟩ (by rw [hes]; exact Nat.zero_le _) fun h' tk acc hk hacc => ?_)
  have hal : acc.toList = [] := items_keys rd.ents hacc
  have I1 : Inv X pins σ H { s with heap := h', toks := tk } := I.kept hk
  refine wpAny_bind (wpAny_newList ?_ (by rw [hal]; exact Nat.zero_le _))
  rw [hal]
  have hoL : (h'.push (seqObj "list" ([] : List Value).toArray 0)).get? h'.objs.size = some (seqObj "list" ([] : List Value).toArray 0) := Heap.get?_push_size _ rfl
  show wpAny _ _ _ _ _ { s with heap := h'.push (seqObj "list" ([] : List Value).toArray 0), toks := tk }
  refine wpAny_bind (wpAny_holding (PySem.W.list_sort_key_data (β := Unit) (b := false) (bs := []) (R := fun _ _ => True) (s := { s with heap := h'.push (seqObj "list" ([] : List Value).toArray 0), toks := tk }) (fun _ => .none) hoL PySem.W.EachIs.nil (by intro _ z; cases z) (.inl (by intro _ z; cases z)) (Nat.zero_le _) (fun _ z => nomatch z) (PyProof.Rows.ksk_l1 _ _) (PyProof.Rows.ksk_t1 _ _) (fun _ _ _ z => nomatch z) fun out c h2 tk2 kp hD hlen _ => ?_))
  have ho : out = [] := List.length_eq_zero_iff.mp hlen
  subst ho
  refine wpAny_pure ⟨_, rfl, .ref h'.objs.size, L2.upd H h'.objs.size (.lst []), I1.laid (t' := tk2) (fun b o e => kp b o (Nat.ne_of_lt (Heap.lt_size e)) (Heap.get?_push_of_some _ e)) (Nat.le_refl _)
    (show ObjOk X.prog X.w _ _ _ (.lst _) from ⟨Nat.zero_le _, [], c, .nil, hD⟩), rfl, q _ (I1.hok.fresh (Nat.le_refl _))⟩
def mSortKE (a : M) : M := fun s w => match a s w with
  | .ok (.ref i) w1 => (match wd w1 i with
    | some [] => alloc (.lst []) w1
    | _ => .bad)
  | .ex c p w1 => .ex c p w1
  | _ => .bad
theorem d_sortKE {e : Expr} {ma : M} {f : Str} {p pf pos : Pos} {kpos : Pos} (C : CO X u E) (h : PE X e (tM u E ma)) (hm : X.mg "sorted" = none) (hf0 : ∃ q, X.mg f = some (.ref q)) (hg : Gl X "sorted" := by rfl) (hgf : Gl X f := by rfl) (hdf : (f == ("__debug__" : Str)) = false := by decide)
    (hs : starEach [e] X.env = (false, eval e X.env) :: starEach [] X.env := by rfl) (he : backTo pos (starEach [e] X.env) = (false, eval e X.env) :: backTo pos (starEach [] X.env) := by rfl) (hpl : (backTo pos (starEach [e] X.env)).any (·.1) = false := by rfl) :
    PE X (.Call (.Name "sorted" p) [e] [⟨some "key", .Name f pf, kpos⟩] pos) (tM u E (mSortKE ma)) := by
  obtain ⟨q, hf⟩ := hf0
  refine (pe_callBK (p := p) (pos := pos) (cr_sortKE (u := u) (f := q) C.calm) hg hm PyProof.Rows.boot_sorted (pa_cons h pa_nil hs) (pk_cons (pe_glob (v := .ref q) hgf hf rfl hdf) pk_nil) (by decide) (by decide) he hpl rfl rfl rfl).imp fun σ H Q ⟨rho, s, w, r, Z, q⟩ => ?_
  refine tM_then r Z ?_
  unfold mSortKE at q
  revert q
  cases ma s w with
  | bad => exact id
  | ex c p w2 => exact id
  | ok d2 w2 =>
    intro q rho2 H2 y e2 r2 Z2 ry
    cases d2 <;> try exact q.elim
    rename_i j
    dsimp only at q
    cases ry with
    | ref _ hk ek =>
      subst ek
      split at q
      · rename_i e0
        obtain ⟨ob, es, ep, ys, rd⟩ := r2.wd e0
        exact ⟨_, rho2, w2.n, ob, es, ep, ys, rfl, rfl, rd, fits_new r2 .nil (q.to r e2)⟩
      · exact q.elim
/-- where no error may come out -/
theorem d_e0 {e : Expr} {t : TE} (C : CO X u E) (h : CO X u E0 → PE X e t) : PE X e t := h C.e0
end
end Ev

set_option Elab.async false
set_option linter.all false
set_option maxRecDepth 100000
set_option maxHeartbeats 400000
/-! EvZM: zip of a list and a tuple; isinstance of a dict. -/
namespace Ev
open PySem PySem.Spec PyProof.Rows L2
/-- the list at a and the tuple at b, in new pairs -/
def ItzM (K : PySem.W.Frag) (a b : Addr) : It :=
  ⟨fun i G => ∃ (xs ys : List V) (p q : V), SqL K G a xs ∧ SqT K G b ys ∧ xs[i]? = some p ∧ ys[i]? = some q,
    fun i G v G' => ∃ C p q, v = .ref C ∧ G C = none ∧ G' = upd G C (.tup [p, q]) ∧ (∀ xs, SqL K G a xs → xs[i]? = some p) ∧ ∀ ys, SqT K G b ys → ys[i]? = some q,
    fun i G => ∃ xs ys : List V, SqL K G a xs ∧ SqT K G b ys ∧ (xs.length ≤ i ∨ ys.length ≤ i) ∧ i ≤ xs.length ∧ i ≤ ys.length⟩
def ZStand (a b z TI TO j1 j2 : Addr) (i : Nat) (h : Heap) : Prop := IsZip h z TI TO .none ∧ IsTupOf2 h TI (.ref j1) (.ref j2) ∧ (∃ p q, IsTupOf2 h TO p q) ∧ h.IsListIter j1 a i ∧ h.IsTupleIter j2 b i
theorem five {c a1 a2 a3 a4 a5 : Addr} (h : c ∈ [a1, a2, a3, a4, a5]) : c = a1 ∨ c = a2 ∨ c = a3 ∨ c = a4 ∨ c = a5 := by simpa using h
theorem ZStand.has {a b z TI TO j1 j2 : Addr} {i : Nat} {h : Heap} (st : ZStand a b z TI TO j1 j2 i h) : ∀ c ∈ [z, TI, TO, j1, j2], ∃ o, h.get? c = some o ∧ ∀ v, o.data ≠ .cell v := by
  intro c hc
  obtain ⟨k1, k2, ⟨p, q, k3⟩, ⟨o1, e1, _, d1⟩, o2, e2, _, d2⟩ := st
  rcases five hc with rfl | rfl | rfl | rfl | rfl
  · exact ⟨_, k1, fun v z => nomatch z⟩
  · exact ⟨_, k2, fun v z => nomatch z⟩
  · exact ⟨_, k3, fun v z => nomatch z⟩
  · exact ⟨o1, e1, fun v z => by rw [d1] at z; cases z⟩
  · exact ⟨o2, e2, fun v z => by rw [d2] at z; cases z⟩
theorem turn_zipM {P : Program} {w : World} {K : PySem.W.Frag} {elts : List Expr} {kk : Nat} {tpos : Pos} {a b z TI TO j1 j2 : Addr} (S : ZipSep2 z TI TO j1 j2 [j1, a] [j2, b]) (na : a ≠ j1) (nb : b ≠ j2) :
    Turn P w K (.Tuple elts kk tpos) (ItzM K a b) [z, TI, TO, j1, j2] z (ZStand a b z TI TO j1 j2) where
  mem := List.mem_cons_self
  obj := fun i h st => st.has
  keep := fun i h h' ⟨k1, k2, ⟨p, q, k3⟩, k4, k5⟩ k => ⟨k _ List.mem_cons_self _ k1, k TI (by simp) _ k2, ⟨p, q, k TO (by simp) _ k3⟩, k4.at (fun o e => k j1 (by simp) o e), k5.at (fun o e => k j2 (by simp) o e)⟩
  item := by
    intro X hP hw hK hc i pins s σ H E I hf st hg
    subst hP hw hK
    have st0 := st
    obtain ⟨k1, k2, ⟨p0, q0, k3⟩, k4, k5⟩ := st
    obtain ⟨xs, ys, p, q, gx, gy, ex, ey⟩ := hg
    obtain ⟨us, ru, lu, _⟩ := I.list gx
    obtain ⟨ws, rw, lw, _⟩ := I.tuple gy
    obtain ⟨u, eu, rp⟩ := ru.get ex
    obtain ⟨v, ev, rq⟩ := rw.get ey
    have hu : i < us.toArray.size := by
      have := (List.getElem?_eq_some_iff.mp eu).1
      simpa using this
    have hv : i < ws.toArray.size := by
      have := (List.getElem?_eq_some_iff.mp ev).1
      simpa using this
    have hnd : X.A.in1.handled = none := I.ok.hd hc
    refine wpAny_pyNext_zipD2_item S (Draws.list hnd j1 a na us.toArray) (Draws.tuple hnd j2 b nb ws.toArray) k1 k2 k3 ⟨k4, lu.isList⟩ ⟨k5, lw⟩ hu hv fun u' v' h' tk eu' ev' z' t' ⟨s1, _⟩ ⟨s2, _⟩ hT hsz hk => ?_
    have q1 : u' = u := by
      have : us.toArray[i]? = some u := by simpa using eu
      exact Option.some.inj (eu'.symm.trans this)
    have q2 : v' = v := by
      have : ws.toArray[i]? = some v := by simpa using ev
      exact Option.some.inj (ev'.symm.trans this)
    subst q1 q2
    have zl : z < s.heap.objs.size := Heap.lt_size k1
    refine ⟨_, rfl, wpAny_letOwnedTupleGo_zip (s := { s with heap := h', toks := tk }) z' fun g z2 sb => ?_⟩
    have gT : g.get? s.heap.objs.size = some { cls := .type "tuple", data := .seq #[u', v'] } := (sb.2 _ (Nat.ne_of_gt zl)).trans hT
    have hN : ObjOk X.prog X.w (upd H s.heap.objs.size (.tup [p, q])) g s.heap.objs.size (.tup [p, q]) := by
      refine ⟨show 2 ≤ sizeLine by decide, [u', v'], .cons rp (.cons rq .nil), ?_⟩
      exact ⟨_, gT, rfl, _, rfl⟩
    have kp : ∀ c o, c ∉ [z, TI, TO, j1, j2] → s.heap.get? c = some o → g.get? c = some o := by
      intro c o hb e
      have nz : c ≠ z := fun y => hb (by rw [y]; simp)
      have nt : c ≠ TO := fun y => hb (by rw [y]; simp)
      have n1 : c ≠ j1 := fun y => hb (by rw [y]; simp)
      have n2 : c ≠ j2 := fun y => hb (by rw [y]; simp)
      exact (sb.2 c nz).trans (hk c o nz nt n1 n2 e)
    have I2 := I.turnedNew (t' := tk) kp hf (Nat.le_refl _) hN
    refine ⟨.ref s.heap.objs.size, _, I2, rfl, ⟨_, p, q, rfl, I.hok.fresh (Nat.le_refl _), rfl, fun l hl => ?_, fun l hl => ?_⟩, ⟨z2, ?_, ⟨u', v', ?_⟩, ?_, ?_⟩, fun c hm => ?_⟩
    · rw [I.list_inj hl gx]
      exact ex
    · rw [I.tuple_inj hl gy]
      exact ey
    · exact (sb.2 _ S.TIz).trans (hk _ _ S.TIz S.TITO S.TIi1 S.TIi2 k2)
    · exact (sb.2 _ S.TOz).trans t'
    · exact s1.at (fun o e => (sb.2 _ (Ne.symm S.zi1)).trans e)
    · exact s2.at (fun o e => (sb.2 _ (Ne.symm S.zi2)).trans e)
    · obtain ⟨o, ho, _⟩ := st0.has c hm
      rw [upd_ne (Nat.ne_of_lt (Heap.lt_size ho))]
      exact (hf c hm).1
  done := by
    intro X hP hw hK hc i pins s σ H E I hf st hg
    subst hP hw hK
    obtain ⟨k1, k2, ⟨p0, q0, k3⟩, k4, k5⟩ := st
    obtain ⟨xs, ys, gx, gy, hend, hi1, hi2⟩ := hg
    obtain ⟨us, ru, lu, _⟩ := I.list gx
    obtain ⟨ws, rw, lw, _⟩ := I.tuple gy
    have n1 := ru.length
    have n2 := rw.length
    have hnd : X.A.in1.handled = none := I.ok.hd hc
    refine wpAny_pyNext_zipD2_end S (Draws.list hnd j1 a na us.toArray) (Draws.tuple hnd j2 b nb ws.toArray) k1 k2 k3 ⟨k4, lu.isList⟩ ⟨k5, lw⟩ (by simp; omega) (by simp; omega) (by simp; omega) fun h' tk hk => ⟨rfl, I.turnedL (t' := tk) (ch := [z, TI, TO, j1, j2]) (fun c o hb e => ?_) hf⟩
    exact hk c o (fun y => hb (by rw [y]; simp)) (fun y => hb (by rw [y]; simp)) (fun y => hb (by rw [y]; simp)) (fun y => hb (by rw [y]; simp)) e
  self := fun A i s Q E st h => wpAny_pyIter_zip st.1 h
def iZipLT (K : PySem.W.Frag) (ta : TA) : TI := fun σ H R => ta σ H fun vs H1 => ∃ a b xs ys, vs = [.ref a, .ref b] ∧ SqL K H1 a xs ∧ SqT K H1 b ys ∧ R (ItzM K a b) H1
theorem pi_zipM {X : Cx} {e e2 : Expr} {ta : TA} {p pos tpos : Pos} {elts : List Expr} {kk : Nat} (hg : Gl X "zip") (hm : X.mg "zip" = none) (ha : PA X [e, e2] ta)
    (hs : starEach [e, e2] X.env = (false, eval e X.env) :: starEach [e2] X.env) (hpl : (backTo pos (starEach [e2] X.env)).any (·.1) = false) : PI X (.Tuple elts kk tpos) (.Call (.Name "zip" p) [e, e2] [] pos) (iZipLT X.K ta) := by
  refine ⟨fun pins s σ H R I h => Call_ (ld_blt I hg hm PyProof.Rows.boot_zip (callWith_type1 (thn (ha.run pos pins s σ H _ I h) fun us t ⟨vs, H1, I1, r1, a, b, xs, ys, ev, gx, gy, q⟩ => ?_) hs hpl))⟩
  subst ev
  obtain ⟨x1, x2, rfl, ra, rb⟩ := vals2 r1
  cases ra
  cases rb
  obtain ⟨us, ru, lu, _⟩ := I1.list gx
  obtain ⟨ws, rw, lw, _⟩ := I1.tuple gy
  obtain ⟨o2, ho2, _⟩ := id lw
  refine zip_begins2 (begins_list a us.toArray) (begins_tuple b ws.toArray) lu.isList lw fun h' hz hTI hTO h1 h2 hsz hk => wpAny_pyIter_zip hz ?_
  have I2 : Inv X pins σ H1 { t with heap := h' } := I1.kept (t' := t.toks) hk
  have la : a < t.heap.objs.size := lu.lt
  have lb : b < t.heap.objs.size := Heap.lt_size ho2
  refine ⟨_, [t.heap.objs.size + 4, t.heap.objs.size + 2, t.heap.objs.size + 3, t.heap.objs.size, t.heap.objs.size + 1], _, _, H1, rfl, I2, turn_zipM (zip_sep2 (fp1 := [a]) (fp2 := [b]) (fun c hc => ?_) (fun c hc => ?_)) (Nat.ne_of_lt la) (Nat.ne_of_lt (Nat.lt_succ_of_lt lb)), ⟨hz, hTI, ⟨_, _, hTO⟩, ⟨_, h1, rfl, rfl⟩, ⟨_, h2, rfl, rfl⟩⟩, fun c hc => ?_, q⟩
  · rw [List.mem_singleton.mp hc]; exact la
  · rw [List.mem_singleton.mp hc]; exact lb
  · have hle : t.heap.objs.size ≤ c := by
      rcases five hc with y | y | y | y | y
      · rw [y]; exact Nat.le_add_right _ _
      · rw [y]; exact Nat.le_add_right _ _
      · rw [y]; exact Nat.le_add_right _ _
      · rw [y]; exact Nat.le_refl _
      · rw [y]; exact Nat.le_add_right _ _
    exact I1.fpOk hle (I1.hok.fresh hle)
section
variable {X : Cx} {u : U} {E : XK} {rho : Nat → Addr} {w : W} {H : Hp}
theorem rit_zipM (r : RW u rho w H) {j : Nat} {m : List D} {b : Addr} {ys : List V} (hj : j < w.n) (hq : SqT u.K H b ys) (hr : RVs u rho w.n H m ys) : RIt u rho w H (.zlt j m) (ItzM u.K (rho j) b) := by
  intro rho' w' H' i e r'
  have gy := e.tups.sqT hq
  have ry := e.rvs hr
  show match (match wl w' j with
    | some xs => bif Nat.ble i xs.length then bif Nat.ble i m.length then (match lat xs i, lat m i with
      | .it x, .it y => IR.it (.tup [x, y])
      | .it _, .stop => .stop
      | .stop, .it _ => .stop
      | .stop, .stop => .stop
      | _, _ => .bad) else .bad else .bad
    | none => .bad) with | .it d => _ | .stop => _ | .bad => _
  cases e1 : wl w' j with
  | none => exact True.intro
  | some l =>
    obtain ⟨xs, gx, rx⟩ := r'.wl e1
    rw [e.rh j hj] at gx
    dsimp only
    cases b1 : Nat.ble i l.length with
    | false => exact True.intro
    | true =>
      cases b2 : Nat.ble i m.length with
      | false => exact True.intro
      | true =>
        have n1 : i ≤ xs.length := by rw [← rx.length]; exact Nat.le_of_ble_eq_true b1
        have n2 : i ≤ ys.length := by rw [← ry.length]; exact Nat.le_of_ble_eq_true b2
        dsimp only [cond_true]
        have stop : (xs.length ≤ i ∨ ys.length ≤ i) → (ItzM u.K (rho j) b).stop i H' := fun h => ⟨xs, ys, gx, gy, h, n1, n2⟩
        cases q1 : lat l i with
        | bad => exact True.intro
        | stop =>
          have h := stop (.inl (by rw [← rx.length]; exact lat_stop q1))
          cases q2 : lat m i with
          | bad => exact True.intro
          | stop => exact h
          | it d2 => exact h
        | it d =>
          obtain ⟨v, h1, h2⟩ := rx.get (lat_it q1)
          cases q2 : lat m i with
          | bad => exact True.intro
          | stop => exact stop (.inr (by rw [← ry.length]; exact lat_stop q2))
          | it d2 =>
            obtain ⟨v2, g1, g2⟩ := ry.get (lat_it q2)
            refine ⟨⟨xs, ys, v, v2, gx, gy, h1, g1⟩, fun x G ⟨C, p, q, ex, hC, eG, a1, a2⟩ => ?_⟩
            subst ex eG
            have c1 := a1 xs gx
            have c2 := a2 ys gy
            rw [h1] at c1; cases c1
            rw [g1] at c2; cases c2
            obtain ⟨r2, e2⟩ := r'.tup (o := .tup [v, v2]) hC
            exact ⟨r2, e2, .tup (.inl (.inl upd_same)) (.cons (e2.rv h2) (.cons (e2.rv g2) .nil))⟩
/-- zip(x, y), also of a list and a tuple -/
def iZipX (mas : MA) : MI := fun s w => match mas s w with
  | .ok [.ref r, .tup l] w1 => (match wl w1 r with
    | some _ => .ok (.zlt r l) w1
    | none => .bad)
  | .ok [.ref r, .ref k] w1 => (match wl w1 r, wl w1 k with
    | some _, some _ => .ok (.zip (.lst r) (.lst k)) w1
    | _, _ => .bad)
  | .ok [.tup l, .tup m] w1 => .ok (.zip (.tup l) (.tup m)) w1
  | .ex c p w1 => .ex c p w1
  | _ => .bad
theorem si_zipX {tg e : Expr} {mas : MA} (h : PI X tg e (RZ.iZipA u.K (tMA u E mas))) (h2 : PI X tg e (iZipLT u.K (tMA u E mas))) : PI X tg e (tMI u E (iZipX mas)) := by
  refine PI_imp (PI_or h h2) fun σ H R ⟨rho, s, w, r, Z, q⟩ => ?_
  unfold iZipX at q
  cases em : mas s w with
  | bad => rw [em] at q; exact q.elim
  | ex c p w1 =>
    rw [em] at q
    refine .inl (tMA_then r Z ?_)
    rw [em]
    exact q
  | ok ds w1 =>
    rw [em] at q
    split at q
    · rename_i j l w2 ez
      cases ez
      split at q
      · rename_i xs f1
        refine .inr (tMA_then r Z ?_)
        rw [em]
        intro rho1 H1 vs e1 r1 Z1 rv
        obtain ⟨ys, hs, hr⟩ := r1.wl f1
        cases rv with
        | cons ra rb =>
          cases rb with
          | cons rb rc =>
            cases rc
            cases ra with
            | ref _ hj ej =>
              subst ej
              cases rb with
              | tup hq hrt => exact ⟨_, _, ys, _, rfl, hs, hq, q rho1 H1 _ e1 r1 (rit_zipM r1 hj hq hrt) rdone_id⟩
      · exact q.elim
    · rename_i j k w2 ez
      cases ez
      split at q
      · rename_i l l2 f1 f2
        refine .inl (tMA_then r Z ?_)
        rw [em]
        intro rho1 H1 vs e1 r1 Z1 rv
        obtain ⟨xs, hs, hr⟩ := r1.wl f1
        obtain ⟨ys, hs2, hr2⟩ := r1.wl f2
        cases rv with
        | cons ra rb =>
          cases rb with
          | cons rb rc =>
            cases rc
            cases ra with
            | ref _ hj ej =>
              subst ej
              cases rb with
              | ref _ hk ek =>
                subst ek
                exact ⟨_, _, xs, ys, rfl, .inl ⟨hs, hs2, q rho1 H1 _ e1 r1 (rit_zipL r1 hj hk) rdone_id⟩⟩
      · exact q.elim
    · rename_i l l2 w2 ez
      cases ez
      refine .inl (tMA_then r Z ?_)
      rw [em]
      intro rho1 H1 vs e1 r1 Z1 rv
      cases rv with
      | cons ra rb =>
        cases rb with
        | cons rb rc =>
          cases rc
          cases ra with
          | tup hq hr =>
            cases rb with
            | tup hq2 hr2 => exact ⟨_, _, _, _, rfl, .inr ⟨hq, hq2, q rho1 H1 _ e1 r1 (rit_zipT hq hr hq2 hr2) rdone_id⟩⟩
    · rename_i ez; cases ez
    · exact q.elim
theorem i_zipX {e e2 : Expr} {mas : MA} {p2 p3 pos : Pos} {elts : List Expr} {kk : Nat} (C : CO X u E) (hm : X.mg "zip" = none) (ha : PA X [e, e2] (tMA u E mas)) (hg : Gl X "zip" := by rfl) (hs : starEach [e, e2] X.env = (false, eval e X.env) :: starEach [e2] X.env := by rfl) (hpl : (backTo pos (starEach [e2] X.env)).any (·.1) = false := by rfl) :
    PI X (.Tuple elts kk p3) (.Call (.Name "zip" p2) [e, e2] [] pos) (tMI u E (iZipX mas)) := si_zipX (by rw [← C.hK]; exact RZ.pi_zipA hg hm ha hs hpl) (by rw [← C.hK]; exact pi_zipM hg hm ha hs hpl)
/-! ### isinstance of a dict -/
def rIsD (u : U) : List V → Hp → VK → Prop := fun xs H Q => ∃ (a : Addr) (ob : Obj) (c : V) (t : Value) (b : Bool), xs = [.ref a, c] ∧ ClsV c t ∧ H a = some (rawO a ob) ∧ ob.cls = .type "dict" ∧ PySem.W.kitOne u.K (.type "dict") t = some b ∧ Q (.bl b) H
theorem call_isD (hK : X.K = u.K) : CallR X (.builtin "isinstance") (rIsD u) := fun pins s σ H xs us Q I r ⟨a, ob, c, t, b, e0, hc, hat, hcl, e, q⟩ => by
  subst e0
  obtain ⟨u1, u2, rfl, r1, r2⟩ := vals2 r
  have ec := hc.eq r2
  cases r1
  subst ec
  have hr : ObjOk X.prog X.w H s.heap a (rawO a ob) := I.hok a _ hat
  rw [← hK] at e
  refine PySem.W.kia_one PySem.W.kitx_dict I.kIn ⟨ob, hr.1, hcl⟩ e (fun z => by cases z) fun tk => ?_
  exact ⟨.bl b, H, I.kept (t' := tk) fun _ _ z => z, rfl, q⟩
def isDct (w : W) (i : Nat) : Bool := match w.get i with
  | some (.dct _ _) => true
  | some (.ik _) => true
  | _ => false
def fIsID (nc : Nat) : FN := fun ds w => match ds with
  | [.ref i, t] => bif isDct w i then (match isT nc (.inl 5) t with
    | some b => .ok (.bl b) w
    | none => .bad) else fIsI nc ds w
  | _ => fIsI nc ds w
theorem fits_isID {nc : Nat} (O : UOk u nc) : FitsN u E (fun xs H Q => rIsi u.K xs H Q ∨ rIsD u xs H Q) (fIsID nc) := by
  intro rho w H ds vs Q r rv q
  unfold fIsID at q
  split at q
  · rename_i i t
    cases hb : isDct w i with
    | false => rw [hb] at q; exact .inl (fits_isI O rho w H _ vs Q r rv q)
    | true =>
      rw [hb] at q
      dsimp only [cond_true] at q
      split at q
      · rename_i b eb
        cases rv with
        | cons ra rb =>
          cases rb with
          | cons rb rc =>
            cases rc
            cases ra with
            | ref _ hi ei =>
              subst ei
              obtain ⟨ut, hc, hk⟩ := isT_ok O rb (fun k e => by cases e; decide) eb
              unfold isDct at hb
              split at hb
              · rename_i k l e0
                obtain ⟨ob, es, ep, ys, rd⟩ := r.obj _ _ e0
                exact .inr ⟨_, ob, _, ut, b, rfl, hc, rd.at_, rd.ex.1, hk, q rho H _ .refl r (.bl _)⟩
              · rename_i l e0
                obtain ⟨ob, es, ep, kvs, hat, hex, _⟩ := r.obj _ _ e0
                exact .inr ⟨_, ob, _, ut, b, rfl, hc, hat, hex.1, hk, q rho H _ .refl r (.bl _)⟩
              · cases hb
      · exact q.elim
  · exact .inl (fits_isI O rho w H _ vs Q r rv q)
theorem b_isID {nc : Nat} (C : CO X u E) (O : UOk u nc) : Bi X u E "isinstance" (fIsID nc) := .fn PyProof.Rows.boot_isinstance (call_isi.or (call_isD C.hK)) (by rw [C.hK]; exact fits_isID O)
end
end Ev

set_option Elab.async false
set_option linter.all false
set_option maxRecDepth 100000
set_option maxHeartbeats 4000000
namespace Ev
namespace K49X
open PySem PySem.Spec PyProof.Rows L2
abbrev top (i : Nat) : Stmt := PySem.Challenge.pw_memoryviews_k49_refused.main.body.getD i (.Pass ⟨0, 0, 0, 0⟩)
abbrev mth (i j : Nat) : Stmt := (match top i with | .ClassDef _ _ _ b _ _ _ _ _ _ _ => b | _ => []).getD j (.Pass ⟨0, 0, 0, 0⟩)
def ncl : Nat := 12
def nkd : Nat := 1
def kdT : Nat → List (List Nat × D)
  | 0 => [([112, 117, 116], (.tup [(.int 3), (.int 3)])), ([103, 105, 118, 101], (.tup [(.int 3), (.int 2)])), ([103, 101, 116], (.tup [(.int 2), (.int 3)])), ([115, 119, 97, 112], (.tup [(.int 2), (.int 3), (.int 3)])), ([102, 101, 110, 99, 101], (.tup [])), ([111, 110, 108, 121], (.tup [(.int 2), (.int 3), (.int 16)]))]
  | _ => []
def kdN : Nat → List (List Nat)
  | 0 => [[100, 111], [102, 105, 110, 101], [108, 97, 110, 101, 115], [108, 97, 114, 103, 101], [109, 111, 118, 101], [111, 110, 101], [111, 110, 101, 115], [111, 116, 104, 101, 114], [111, 117, 116, 99, 111, 109, 101], [111, 118, 101, 114], [112, 97, 115, 116], [112, 114, 105, 99, 101, 115], [112, 114, 111, 103, 114, 97, 109], [113, 117, 101, 117, 101, 115], [114], [114, 101, 97, 100], [114, 111, 119], [114, 111, 119, 115], [114, 117, 108, 101], [116, 119, 105, 110, 115], [116, 119, 111], [118, 105, 101, 119, 115]]
  | _ => []
def okc : Nat → Bool
  | 12 => true
  | 13 => true
  | 14 => true
  | 15 => true
  | 16 => true
  | 17 => true
  | 18 => true
  | 19 => true
  | _ => false
def wordsN : Nat → List Nat
  | 12 => [111, 116, 104, 101, 114]
  | 13 => [112, 114, 111, 103, 114, 97, 109]
  | 14 => [114, 117, 108, 101]
  | 15 => [111, 117, 116, 99, 111, 109, 101]
  | 16 => [112, 114, 105, 99, 101, 115]
  | 17 => [114, 111, 119, 115]
  | 18 => [116, 119, 105, 110, 115]
  | 19 => [108, 97, 114, 103, 101]
  | _ => []
def wordsS (c : Nat) : Str := ⟨(wordsN c).toArray⟩
def fineN : List Nat := [102, 105, 110, 101]
def fineS : Str := ⟨fineN.toArray⟩
def tb_choice : List (Nat × Nat) := [(7, 0)]
def tb_circle : List (Nat × Nat) := [(6, 1)]
def tb_fences : List (Nat × Nat) := [(0, 3), (1, 2)]
def tb_left : List (Nat × Nat) := [(0, 4)]
def tb_reads : List (Nat × Nat) := [(0, 2), (1, 0)]
def tb_sources : List (Nat × Nat) := [(0, 1)]
def tb_stands : List (Nat × Nat) := [(0, 0)]
def tb_story : List (Nat × Nat) := [(2, 0), (6, 0)]
-- is_worded: ['thing']
def b_is_worded : MS := (sRet (mAnd (mN (fIsID ncl) (aCons (mVar 0) (aCons (mC (.ty 3)) aNil))) (mAnd (mBin fGt (mN fLenA (aCons (mVar 0) aNil)) (mC (.int 0))) (mN (fIsID ncl) (aCons (mBin (fIxC nkd kdT) (mVar 0) (mC (.int 0))) (aCons (mC (.ty 2)) aNil))))))
def d_is_worded : FN := fDef 1 0 b_is_worded
-- is_number: ['thing']
def b_is_number : MS := (sRet (mAnd (mN (fIsID ncl) (aCons (mVar 0) (aCons (mC (.ty 0)) aNil))) (mUn fNot (mN (fIsID ncl) (aCons (mVar 0) (aCons (mC (.ty 1)) aNil))))))
def d_is_number : FN := fDef 1 0 b_is_number
-- is_between: ['thing', 'low', 'high']
def b_is_between : MS := (sRet (mAnd (mCall d_is_number [] (aCons (mVar 0) aNil)) (mChain fLe fLe (mVar 1) (mVar 0) (mVar 2))))
def d_is_between : FN := fDef 3 0 b_is_between
-- has_numbers: ['thing', 'limits', 'number', 'limit']
def b_has_numbers : MS := (sSeq (sIf (mBin fNe (mN fLenA (aCons (mVar 0) aNil)) (mBin fAdd (mN fLenA (aCons (mVar 1) aNil)) (mC (.int 1)))) (sRet (mC (.bl false))) sNil)
    (sRet (mFuse (finBools allB) (iZipX (aCons (mSl (mVar 0) (some (mC (.int 1))) none) (aCons (mVar 1) aNil))) (gpTup 2 (gpsCons (gpName 2) (gpsCons (gpName 3) gpsNil))) mYes (mCall d_is_between [] (aCons (mVar 2) (aCons (mC (.int 0)) (aCons (mVar 3) aNil)))) [2, 3])))
def d_has_numbers : FN := fDef 2 2 b_has_numbers
-- is_row: ['thing', 'behind']
def b_is_row : MS := (sSeq (sIf (mOr (mUn fNot (mCall d_is_worded [] (aCons (mVar 0) aNil))) (mOr (mBin (fInKB nkd kdT kdN fun b => bif b then false else true) (mBin (fIxC nkd kdT) (mVar 0) (mC (.int 0))) (mC (.kd 0))) (mUn fNot (mCall d_has_numbers [] (aCons (mVar 0) (aCons (mBin (fIxC nkd kdT) (mC (.kd 0)) (mBin (fIxC nkd kdT) (mVar 0) (mC (.int 0)))) aNil)))))) (sRet (mC (.bl false))) sNil)
    (sRet (mOr (mBin fNe (mBin (fIxC nkd kdT) (mVar 0) (mC (.int 0))) (mC (.str [111, 110, 108, 121]))) (mChain fLe fLe (mC (.int 1)) (mBin (fIxC nkd kdT) (mVar 0) (mC (.int 3))) (mVar 1)))))
def d_is_row : FN := fDef 2 0 b_is_row
-- is_hand: ['thing', 'at', 'row']
def b_is_hand : MS := (sSeq (sIf (mOr (mUn fNot (mN (fIsID ncl) (aCons (mVar 0) (aCons (mC (.ty 3)) aNil)))) (mBin fGt (mN fLenA (aCons (mVar 0) aNil)) (mC (.int 16)))) (sRet (mC (.bl false))) sNil)
    (sRet (mFuse (finBools allB) (iEnumM (aCons (mVar 0) aNil)) (gpTup 2 (gpsCons (gpName 1) (gpsCons (gpName 2) gpsNil))) mYes (mCall d_is_row [] (aCons (mVar 2) (aCons (mBin fSub (mBin fSub (mN fLenA (aCons (mVar 0) aNil)) (mVar 1)) (mC (.int 1))) aNil))) [1, 2])))
def d_is_hand : FN := fDef 1 2 b_is_hand
-- is_program: ['thing', 'hand']
def b_is_program : MS := (sRet (mAnd (mN (fIsID ncl) (aCons (mVar 0) (aCons (mC (.ty 3)) aNil))) (mAnd (mChain fLe fLe (mC (.int 1)) (mN fLenA (aCons (mVar 0) aNil)) (mC (.int 4))) (mFuse (finBools allB) (iSeqA (mVar 0)) (gpName 1) mYes (mCall d_is_hand [] (aCons (mVar 1) aNil)) [1]))))
def d_is_program : FN := fDef 1 1 b_is_program
-- check_program: ['program']
def b_check_program : MS := (sIf (mUn fNot (mCall d_is_program [] (aCons (mVar 0) aNil))) (sRaise 13) sNil)
def d_check_program : FN := fDef 1 0 b_check_program
-- is_rule: ['thing']
def b_is_rule : MS := (sRet (mAnd (mN (fIsID ncl) (aCons (mVar 0) (aCons (mC (.ty 2)) aNil))) (mBin (fInKB nkd kdT kdN fun b => b) (mVar 0) (mC (.tup [(.str [111, 110, 101]), (.str [113, 117, 101, 117, 101, 115]), (.str [108, 97, 110, 101, 115]), (.str [118, 105, 101, 119, 115])])))))
def d_is_rule : FN := fDef 1 0 b_is_rule
-- check_rule: ['rule']
def b_check_rule : MS := (sIf (mUn fNot (mCall d_is_rule [] (aCons (mVar 0) aNil))) (sRaise 14) sNil)
def d_check_rule : FN := fDef 1 0 b_check_rule
-- is_tuple_of: ['thing', 'many']
def b_is_tuple_of : MS := (sRet (mAnd (mN (fIsID ncl) (aCons (mVar 0) (aCons (mC (.ty 3)) aNil))) (mBin fEq (mN fLenA (aCons (mVar 0) aNil)) (mVar 1))))
def d_is_tuple_of : FN := fDef 2 0 b_is_tuple_of
-- is_there: ['thing', 'value']
def b_is_there : MS := (sRet (mAnd (mCall d_is_tuple_of [] (aCons (mVar 0) (aCons (mC (.int 4)) aNil))) (mFuse (finBools allB) (iSeqA (mVar 0)) (gpName 1) mYes (mCall d_is_between [] (aCons (mVar 1) (aCons (mC (.int 0)) (aCons (mC (.int 3)) aNil)))) [1])))
def d_is_there : FN := fDef 1 1 b_is_there
-- is_held: ['thing', 'value']
def b_is_held : MS := (sRet (mAnd (mCall d_is_tuple_of [] (aCons (mVar 0) (aCons (mC (.int 3)) aNil))) (mFuse (finBools allB) (iSeqA (mVar 0)) (gpName 1) mYes (mCall d_is_between [] (aCons (mVar 1) (aCons (mC (.int 0)) (aCons (mC (.int 3)) aNil)))) [1])))
def d_is_held : FN := fDef 1 1 b_is_held
-- check_outcome: ['program', 'outcome', 'held']
def b_check_outcome : MS := (sSeq (sIf (mOr (mUn fNot (mCall d_is_tuple_of [] (aCons (mVar 1) (aCons (mC (.int 2)) aNil)))) (mUn fNot (mCall d_is_tuple_of [] (aCons (mBin (fIxC nkd kdT) (mVar 1) (mC (.int 0))) (aCons (mN fLenA (aCons (mVar 0) aNil)) aNil))))) (sRaise 15) sNil)
    (sIf (mOr (mUn fNot (mFuse (finBools allB) (iSeqA (mBin (fIxC nkd kdT) (mVar 1) (mC (.int 0)))) (gpName 2) mYes (mCall d_is_held [] (aCons (mVar 2) aNil)) [2])) (mUn fNot (mCall d_is_there [] (aCons (mBin (fIxC nkd kdT) (mVar 1) (mC (.int 1))) aNil)))) (sRaise 15) sNil))
def d_check_outcome : FN := fDef 2 1 b_check_outcome
-- Reading.__init__: ['self', 'stands', 'sources', 'reads', 'fences', 'left']
def b_Reading___init__ : MS := (sSeq (sFldSet 0 0 (mVar 0) (mVar 1))
    (sSeq (sFldSet 0 1 (mVar 0) (mVar 2))
    (sSeq (sFldSet 0 2 (mVar 0) (mVar 3))
    (sSeq (sFldSet 0 3 (mVar 0) (mVar 4))
    (sFldSet 0 4 (mVar 0) (mVar 5))))))
def d_Reading___init__ : FN := fDef 6 0 b_Reading___init__
-- first_reading: ['program', 'stands', 'sources', '_', 'place']
def b_first_reading : MS := (sSeq (sAsg (mLc (iSeqA (mVar 0)) (gpName 3) mYes (mN fTup (aCons (mC (.int 0)) (aCons (mC (.tup [(.int 0), (.int 0), (.int 0)])) aNil))) [3]) (gLift (gpName 1)))
    (sSeq (sAsg (mLc (iRange (aCons (mC (.int 4)) aNil)) (gpName 4) mYes (mN fTup (aCons (mN fTup (aCons (mN fTup (aCons (mC .non) (aCons (mVar 4) aNil))) (aCons (mC (.int 0)) aNil))) aNil)) [4]) (gLift (gpName 2)))
    (sRet (mMake 0 d_Reading___init__ (aCons (mVar 1) (aCons (mVar 2) (aCons (mN fTup aNil) (aCons (mN fTup aNil) (aCons (mLc (iSeqA (mVar 0)) (gpName 3) mYes (mC (.int 0)) [3]) aNil)))))))))
def d_first_reading : FN := fDef 1 4 b_first_reading
-- is_whole: ['program', 'reading', 'at', '_', 'rows']
def b_is_whole : MS := (sRet (mUn fNot (mFuse (finBools anyB) (iZipX (aCons (mUn (fFld tb_stands) (mVar 1)) (aCons (mVar 0) aNil))) (gpTup 2 (gpsCons (gpTup 2 (gpsCons (gpName 2) (gpsCons (gpName 3) gpsNil))) (gpsCons (gpName 4) gpsNil))) mYes (mBin fLt (mVar 2) (mN fLenA (aCons (mVar 4) aNil))) [2, 3, 4])))
def d_is_whole : FN := fDef 2 3 b_is_whole
-- fences_by: ['program', 'reading', 'hand', 'doing']
def b_fences_by : MS := (sRet (mLc (iRange (aCons (mN fLenA (aCons (mVar 0) aNil)) aNil)) (gpName 2) mYes (mLc (iSeqA (mUn (fFld tb_fences) (mVar 1))) (gpName 3) (mBin fEq (mBin (fIxC nkd kdT) (mVar 3) (mC (.int 0))) (mVar 2)) (mVar 3) [3]) [2]))
def d_fences_by : FN := fDef 2 2 b_fences_by
-- is_getting: ['row']
def b_is_getting : MS := (sRet (mBin (fInKB nkd kdT kdN fun b => b) (mBin (fIxC nkd kdT) (mVar 0) (mC (.int 0))) (mN fTup (aCons (mC (.str [103, 101, 116])) (aCons (mC (.str [115, 119, 97, 112])) aNil)))))
def d_is_getting : FN := fDef 1 0 b_is_getting
-- heads_at: ['program', 'reading', 'place', 'doings', 'doing', '_', 'hand', 'at']
def b_heads_at : MS := (sSeq (sAsg (mLc (iSeqA (mSl (mBin (fIxC nkd kdT) (mUn (fFld tb_sources) (mVar 1)) (mVar 2)) (some (mC (.int 1))) none)) (gpTup 2 (gpsCons (gpName 4) (gpsCons (gpName 5) gpsNil))) mYes (mVar 4) [4, 5]) (gLift (gpName 3)))
    (sRet (mLc (iSeqA (mVar 3)) (gpTup 2 (gpsCons (gpName 6) (gpsCons (gpName 7) gpsNil))) (mUn fNot (mCall d_is_getting [] (aCons (mBin (fIxC nkd kdT) (mBin (fIxC nkd kdT) (mVar 0) (mVar 6)) (mVar 7)) aNil))) (mN fTup (aCons (mVar 6) (aCons (mVar 7) aNil))) [6, 7])))
def d_heads_at : FN := fDef 3 5 b_heads_at
-- count_with: ['program', 'rule', 'reading', 'many', 'place', 'fences']
def b_count_with : MS := (sSeq (sAsg (mC (.int 1)) (gLift (gpName 3)))
    (sSeq (sFor (iRange (aCons (mC (.int 4)) aNil)) (gpName 4) (sAsg (mBin fMul (mVar 3) (mN fFact (aCons (mN fLenA (aCons (mCall d_heads_at [] (aCons (mVar 0) (aCons (mVar 2) (aCons (mVar 4) aNil)))) aNil)) aNil))) (gLift (gpName 3))))
    (sSeq (sIf (mBin fNe (mVar 1) (mC (.str [118, 105, 101, 119, 115]))) (sRet (mVar 3)) sNil)
    (sSeq (sAsg (mBin fMul (mVar 3) (mN fFact (aCons (mN fLenA (aCons (mUn (fFld tb_fences) (mVar 2)) aNil)) aNil))) (gLift (gpName 3)))
    (sSeq (sFor (iSeqA (mCall d_fences_by [] (aCons (mVar 0) (aCons (mVar 2) aNil)))) (gpName 5) (sAsg (mBin fDiv (mVar 3) (mN fFact (aCons (mN fLenA (aCons (mVar 5) aNil)) aNil))) (gLift (gpName 3))))
    (sRet (mVar 3)))))))
def d_count_with : FN := fDef 3 3 b_count_with
-- place_of: ['row']
def b_place_of : MS := (sSeq (sIf (mBin (fInKB nkd kdT kdN fun b => b) (mBin (fIxC nkd kdT) (mVar 0) (mC (.int 0))) (mN fTup (aCons (mC (.str [112, 117, 116])) (aCons (mC (.str [103, 105, 118, 101])) aNil)))) (sRet (mBin (fIxC nkd kdT) (mVar 0) (mC (.int 1)))) sNil)
    (sSeq (sIf (mBin (fInKB nkd kdT kdN fun b => b) (mBin (fIxC nkd kdT) (mVar 0) (mC (.int 0))) (mN fTup (aCons (mC (.str [103, 101, 116])) (aCons (mC (.str [115, 119, 97, 112])) aNil)))) (sRet (mBin (fIxC nkd kdT) (mVar 0) (mC (.int 2)))) sNil)
    (sRet (mC .non))))
def d_place_of : FN := fDef 1 0 b_place_of
-- has_choice: ['program', 'reading', 'hand', 'at', 'row']
def b_has_choice : MS := (sSeq (sAsg (mBin (fIxC nkd kdT) (mBin (fIxC nkd kdT) (mUn (fFld tb_stands) (mVar 1)) (mVar 2)) (mC (.int 0))) (gLift (gpName 3)))
    (sSeq (sIf (mBin fEq (mVar 3) (mN fLenA (aCons (mBin (fIxC nkd kdT) (mVar 0) (mVar 2)) aNil))) (sRet (mC (.bl false))) sNil)
    (sSeq (sAsg (mBin (fIxC nkd kdT) (mBin (fIxC nkd kdT) (mVar 0) (mVar 2)) (mVar 3)) (gLift (gpName 4)))
    (sRet (mOr (mUn fNot (mCall d_is_getting [] (aCons (mVar 4) aNil))) (mBin fLt (mBin (fIxC nkd kdT) (mUn (fFld tb_left) (mVar 1)) (mVar 2)) (mN fLenA (aCons (mBin (fIxC nkd kdT) (mUn (fFld tb_sources) (mVar 1)) (mCall d_place_of [] (aCons (mVar 4) aNil))) aNil))))))))
def d_has_choice : FN := fDef 3 2 b_has_choice
-- leaving_all: ['reading', 'hand', 'place', 'leaving']
def b_leaving_all : MS := (sSeq (sAsg (mN fListA (aCons (mUn (fFld tb_left) (mVar 0)) aNil)) (gLift (gpName 3)))
    (sSeq (sAsg (mN fLenA (aCons (mBin (fIxC nkd kdT) (mUn (fFld tb_sources) (mVar 0)) (mVar 2)) aNil)) (gSubA (mVar 3) (mVar 1)))
    (sRet (mMake 0 d_Reading___init__ (aCons (mUn (fFld tb_stands) (mVar 0)) (aCons (mUn (fFld tb_sources) (mVar 0)) (aCons (mUn (fFld tb_reads) (mVar 0)) (aCons (mUn (fFld tb_fences) (mVar 0)) (aCons (mVar 3) aNil)))))))))
def d_leaving_all : FN := fDef 3 1 b_leaving_all
-- is_putting: ['row']
def b_is_putting : MS := (sRet (mBin (fInKB nkd kdT kdN fun b => b) (mBin (fIxC nkd kdT) (mVar 0) (mC (.int 0))) (mN fTup (aCons (mC (.str [112, 117, 116])) (aCons (mC (.str [103, 105, 118, 101])) (aCons (mC (.str [115, 119, 97, 112])) aNil))))))
def d_is_putting : FN := fDef 1 0 b_is_putting
-- replaced: ['row', 'at', 'thing']
def b_replaced : MS := (sRet (mBin fAdd (mBin fAdd (mSl (mVar 0) none (some (mVar 1))) (mN fTup (aCons (mVar 2) aNil))) (mSl (mVar 0) (some (mBin fAdd (mVar 1) (mC (.int 1)))) none)))
def d_replaced : FN := fDef 3 0 b_replaced
-- stand_behind: ['stand', 'row', 'got', 'at', 'held']
def b_stand_behind : MS := (sSeq (sAsg (mVar 0) (gLift (gpTup 2 (gpsCons (gpName 3) (gpsCons (gpName 4) gpsNil)))))
    (sSeq (sIf (mAnd (mBin fEq (mBin (fIxC nkd kdT) (mVar 1) (mC (.int 0))) (mC (.str [111, 110, 108, 121]))) (mBin fNe (mBin (fIxC nkd kdT) (mVar 4) (mBin (fIxC nkd kdT) (mVar 1) (mC (.int 1)))) (mBin (fIxC nkd kdT) (mVar 1) (mC (.int 2))))) (sRet (mN fTup (aCons (mBin fAdd (mBin fAdd (mVar 3) (mC (.int 1))) (mBin (fIxC nkd kdT) (mVar 1) (mC (.int 3)))) (aCons (mVar 4) aNil)))) sNil)
    (sSeq (sIf (mCall d_is_getting [] (aCons (mVar 1) aNil)) (sRet (mN fTup (aCons (mBin fAdd (mVar 3) (mC (.int 1))) (aCons (mCall d_replaced [] (aCons (mVar 4) (aCons (mBin (fIxC nkd kdT) (mVar 1) (mC (.int 1))) (aCons (mVar 2) aNil)))) aNil)))) sNil)
    (sRet (mN fTup (aCons (mBin fAdd (mVar 3) (mC (.int 1))) (aCons (mVar 4) aNil)))))))
def d_stand_behind : FN := fDef 3 2 b_stand_behind
-- value_put: ['row', 'held']
def b_value_put : MS := (sSeq (sIf (mBin fEq (mBin (fIxC nkd kdT) (mVar 0) (mC (.int 0))) (mC (.str [103, 105, 118, 101]))) (sRet (mBin (fIxC nkd kdT) (mVar 1) (mBin (fIxC nkd kdT) (mVar 0) (mC (.int 2))))) sNil)
    (sRet (mBin (fIxC nkd kdT) (mVar 0) (mC (.int (-1))))))
def d_value_put : FN := fDef 2 0 b_value_put
-- done: ['program', 'reading', 'hand', 'source', 'at', 'held', 'row', 'doing', 'stands', 'sources', 'reads', 'fences', 'got', 'freed']
def b_done : MS := (sSeq (sAsg (mBin (fIxC nkd kdT) (mUn (fFld tb_stands) (mVar 1)) (mVar 2)) (gLift (gpTup 2 (gpsCons (gpName 4) (gpsCons (gpName 5) gpsNil)))))
    (sSeq (sAsg (mBin (fIxC nkd kdT) (mBin (fIxC nkd kdT) (mVar 0) (mVar 2)) (mVar 4)) (gLift (gpName 6)))
    (sSeq (sAsg (mN fTup (aCons (mVar 2) (aCons (mVar 4) aNil))) (gLift (gpName 7)))
    (sSeq (sPar2 8 9 (aCons (mN fListA (aCons (mUn (fFld tb_stands) (mVar 1)) aNil)) (aCons (mN fListA (aCons (mUn (fFld tb_sources) (mVar 1)) aNil)) aNil)))
    (sSeq (sPar2 10 11 (aCons (mUn (fFld tb_reads) (mVar 1)) (aCons (mUn (fFld tb_fences) (mVar 1)) aNil)))
    (sSeq (sAsg (mC .non) (gLift (gpName 12)))
    (sSeq (sIf (mUn fNotN (mVar 3)) (sSeq (sAsg (mBin (fIxC nkd kdT) (mVar 3) (mC (.int 1))) (gLift (gpName 12)))
    (sAsg (mBin fAdd (mVar 10) (mN fTup (aCons (mN fTup (aCons (mVar 7) (aCons (mBin (fIxC nkd kdT) (mVar 3) (mC (.int 0))) aNil))) aNil))) (gLift (gpName 10)))) sNil)
    (sSeq (sIf (mCall d_is_putting [] (aCons (mVar 6) aNil)) (sAsg (mBin fAdd (mBin (fIxC nkd kdT) (mVar 9) (mCall d_place_of [] (aCons (mVar 6) aNil))) (mN fTup (aCons (mN fTup (aCons (mVar 7) (aCons (mCall d_value_put [] (aCons (mVar 6) (aCons (mVar 5) aNil))) aNil))) aNil))) (gSubA (mVar 9) (mCall d_place_of [] (aCons (mVar 6) aNil)))) sNil)
    (sSeq (sIf (mBin fEq (mBin (fIxC nkd kdT) (mVar 6) (mC (.int 0))) (mC (.str [102, 101, 110, 99, 101]))) (sAsg (mBin fAdd (mVar 11) (mN fTup (aCons (mVar 7) aNil))) (gLift (gpName 11))) sNil)
    (sSeq (sAsg (mCall d_stand_behind [] (aCons (mBin (fIxC nkd kdT) (mUn (fFld tb_stands) (mVar 1)) (mVar 2)) (aCons (mVar 6) (aCons (mVar 12) aNil)))) (gSubA (mVar 8) (mVar 2)))
    (sSeq (sAsg (mN fListA (aCons (mUn (fFld tb_left) (mVar 1)) aNil)) (gLift (gpName 13)))
    (sSeq (sAsg (mC (.int 0)) (gSubA (mVar 13) (mVar 2)))
    (sRet (mMake 0 d_Reading___init__ (aCons (mVar 8) (aCons (mVar 9) (aCons (mVar 10) (aCons (mVar 11) (aCons (mVar 13) aNil)))))))))))))))))))
def d_done : FN := fDef 4 10 b_done
-- choices_of: ['reading', 'hand', 'row', 'sources', 'fresh', 'swaps', 'taken', 'doing', '_', 'source']
def b_choices_of : MS := (sSeq (sAsg (mBin (fIxC nkd kdT) (mUn (fFld tb_sources) (mVar 0)) (mCall d_place_of [] (aCons (mVar 2) aNil))) (gLift (gpName 3)))
    (sSeq (sAsg (mSl (mVar 3) (some (mBin (fIxC nkd kdT) (mUn (fFld tb_left) (mVar 0)) (mVar 1))) none) (gLift (gpName 4)))
    (sSeq (sIf (mBin fEq (mBin (fIxC nkd kdT) (mVar 2) (mC (.int 0))) (mC (.str [103, 101, 116]))) (sRet (mVar 4)) sNil)
    (sSeq (sAsg (mLc (iSeqA (mVar 3)) (gpTup 2 (gpsCons (gpName 7) (gpsCons (gpName 8) gpsNil))) mYes (mVar 7) [7, 8]) (gLift (gpName 5)))
    (sSeq (sAsg (mLc (iSeqA (mUn (fFld tb_reads) (mVar 0))) (gpTup 2 (gpsCons (gpName 7) (gpsCons (gpName 9) gpsNil))) (mBin (fInKB nkd kdT kdN fun b => b) (mVar 7) (mVar 5)) (mVar 9) [7, 9]) (gLift (gpName 6)))
    (sRet (mLc (iSeqA (mVar 4)) (gpName 9) (mBin (fInKB nkd kdT kdN fun b => bif b then false else true) (mBin (fIxC nkd kdT) (mVar 9) (mC (.int 0))) (mVar 6)) (mVar 9) [9])))))))
def d_choices_of : FN := fDef 3 7 b_choices_of
-- readings_behind: ['program', 'reading', 'hand', 'rows', 'row', 'choices', 'waiting', 'source']
def b_readings_behind : MS := (sSeq (sFor (iEnumM (aCons (mVar 0) aNil)) (gpTup 2 (gpsCons (gpName 2) (gpsCons (gpName 3) gpsNil))) (sIf (mCall d_has_choice [] (aCons (mVar 0) (aCons (mVar 1) (aCons (mVar 2) aNil)))) (sSeq (sAsg (mBin (fIxC nkd kdT) (mVar 3) (mBin (fIxC nkd kdT) (mBin (fIxC nkd kdT) (mUn (fFld tb_stands) (mVar 1)) (mVar 2)) (mC (.int 0)))) (gLift (gpName 4)))
    (sSeq (sIf (mUn fNot (mCall d_is_getting [] (aCons (mVar 4) aNil))) (sRet (mN fLst (aCons (mCall d_done [] (aCons (mVar 0) (aCons (mVar 1) (aCons (mVar 2) (aCons (mC .non) aNil))))) aNil))) sNil)
    (sSeq (sAsg (mLc (iSeqA (mCall d_choices_of [] (aCons (mVar 1) (aCons (mVar 2) (aCons (mVar 4) aNil))))) (gpName 7) mYes (mCall d_done [] (aCons (mVar 0) (aCons (mVar 1) (aCons (mVar 2) (aCons (mVar 7) aNil))))) [7]) (gLift (gpName 5)))
    (sSeq (sAsg (mCall d_leaving_all [] (aCons (mVar 1) (aCons (mVar 2) (aCons (mCall d_place_of [] (aCons (mVar 4) aNil)) aNil)))) (gLift (gpName 6)))
    (sRet (mBin fAdd (mVar 5) (mN fLst (aCons (mVar 6) aNil)))))))) sNil))
    (sRet (mN fLst aNil)))
def d_readings_behind : FN := fDef 2 6 b_readings_behind
-- is_waiting: ['program', 'reading', 'hand', 'at']
def b_is_waiting : MS := (sSeq (sAsg (mBin (fIxC nkd kdT) (mBin (fIxC nkd kdT) (mUn (fFld tb_stands) (mVar 1)) (mVar 2)) (mC (.int 0))) (gLift (gpName 3)))
    (sRet (mAnd (mBin fLt (mVar 3) (mN fLenA (aCons (mBin (fIxC nkd kdT) (mVar 0) (mVar 2)) aNil))) (mUn fNot (mCall d_has_choice [] (aCons (mVar 0) (aCons (mVar 1) (aCons (mVar 2) aNil))))))))
def d_is_waiting : FN := fDef 3 1 b_is_waiting
-- place_waited: ['program', 'reading', 'hand']
def b_place_waited : MS := (sRet (mCall d_place_of [] (aCons (mBin (fIxC nkd kdT) (mBin (fIxC nkd kdT) (mVar 0) (mVar 2)) (mBin (fIxC nkd kdT) (mBin (fIxC nkd kdT) (mUn (fFld tb_stands) (mVar 1)) (mVar 2)) (mC (.int 0)))) aNil)))
def d_place_waited : FN := fDef 3 0 b_place_waited
-- has_hope: ['program', 'reading', 'hands', 'moving', 'rows', 'places', 'freed', 'hand', 'row']
def b_has_hope : MS := (sSeq (sAsg (mListRg1 (mN fLenA (aCons (mVar 0) aNil))) (gLift (gpName 2)))
    (sSeq (sAsg (mLc (iSeqA (mVar 2)) (gpName 7) (mUn fNot (mCall d_is_waiting [] (aCons (mVar 0) (aCons (mVar 1) (aCons (mVar 7) aNil))))) (mVar 7) [7]) (gLift (gpName 3)))
    (sSeq (sWhile (mBin fLt (mN fLenA (aCons (mVar 3) aNil)) (mN fLenA (aCons (mVar 0) aNil))) (sSeq (sAsg (mLc2 (iSeqA (mVar 3)) (gpName 7) mYes (iSeqA (mSl (mBin (fIxC nkd kdT) (mVar 0) (mVar 7)) (some (mBin (fIxC nkd kdT) (mBin (fIxC nkd kdT) (mUn (fFld tb_stands) (mVar 1)) (mVar 7)) (mC (.int 0)))) none)) (gpName 8) mYes (mVar 8) [7, 8] [8]) (gLift (gpName 4)))
    (sSeq (sAsg (mLc (iSeqA (mVar 4)) (gpName 8) (mCall d_is_putting [] (aCons (mVar 8) aNil)) (mCall d_place_of [] (aCons (mVar 8) aNil)) [8]) (gLift (gpName 5)))
    (sSeq (sAsg (mLc (iSeqA (mVar 2)) (gpName 7) (mAnd (mBin (fInKB nkd kdT kdN fun b => bif b then false else true) (mVar 7) (mVar 3)) (mBin (fInKB nkd kdT kdN fun b => b) (mCall d_place_waited [] (aCons (mVar 0) (aCons (mVar 1) (aCons (mVar 7) aNil)))) (mVar 5))) (mVar 7) [7]) (gLift (gpName 6)))
    (sSeq (sIf (mUn fNot (mUn fTruth (mVar 6))) (sRet (mC (.bl false))) sNil)
    (sAsg (mBin fAdd (mVar 3) (mVar 6)) (gLift (gpName 3))))))))
    (sRet (mC (.bl true))))))
def d_has_hope : FN := fDef 2 7 b_has_hope
-- whole_readings: ['program', 'rule', 'whole', 'many', 'waiting', 'reading', 'behind', 'that']
def b_whole_readings : MS := (sSeq (sAsg (mN fLst aNil) (gLift (gpName 2)))
    (sSeq (sAsg (mC (.int 0)) (gLift (gpName 3)))
    (sSeq (sAsg (mN fLst (aCons (mCall d_first_reading [] (aCons (mVar 0) aNil)) aNil)) (gLift (gpName 4)))
    (sSeq (sWhile (mUn fTruth (mVar 4)) (sSeq (sAsg (mUn fPop (mVar 4)) (gLift (gpName 5)))
    (sIf (mCall d_is_whole [] (aCons (mVar 0) (aCons (mVar 5) aNil))) (sSeq (sDrop (mMethL fAppend (mVar 2) (aCons (mVar 5) aNil)))
    (sSeq (sAug 3 (mCall d_count_with [] (aCons (mVar 0) (aCons (mVar 1) (aCons (mVar 5) aNil)))))
    (sIf (mBin fGt (mVar 3) (mC (.int 600))) (sRaise 19) sNil))) (sSeq (sAsg (mCall d_readings_behind [] (aCons (mVar 0) (aCons (mVar 5) aNil))) (gLift (gpName 6)))
    (sDrop (mMethL fExtend (mVar 4) (aCons (mLc (iSeqA (mUn fRev (mVar 6))) (gpName 7) (mCall d_has_hope [] (aCons (mVar 0) (aCons (mVar 7) aNil))) (mVar 7) [7]) aNil)))))))
    (sRet (mVar 2))))))
def d_whole_readings : FN := fDef 2 6 b_whole_readings
-- all_stories: ['program', 'rule', 'reading', 'pair']
def b_all_stories : MS := (sRet (mLc2 (iSeqA (mCall d_whole_readings [] (aCons (mVar 0) (aCons (mVar 1) aNil)))) (gpName 2) mYes (iSeqA mBad) (gpName 3) mYes (mVar 3) [2, 3] [3]))
def d_all_stories : FN := fDef 2 2 b_all_stories
-- stories_for: ['program', 'rule', 'outcome', 'story', 'end']
def b_stories_for : MS := (sSeq (sDrop (mCall d_check_program [] (aCons (mVar 0) aNil)))
    (sSeq (sDrop (mCall d_check_rule [] (aCons (mVar 1) aNil)))
    (sSeq (sDrop (mCall d_check_outcome [] (aCons (mVar 0) (aCons (mVar 2) aNil))))
    (sRet (mLc (iSeqA (mCall d_all_stories [] (aCons (mVar 0) (aCons (mVar 1) aNil)))) (gpTup 2 (gpsCons (gpName 3) (gpsCons (gpName 4) gpsNil))) (mBin fEq (mVar 4) (mVar 2)) (mVar 3) [3, 4])))))
def d_stories_for : FN := fDef 3 2 b_stories_for
-- judge_story: ['program', 'rule', 'outcome', 'rows', 'story', 'circle']
def b_judge_story : MS := (sSeq (sAsg (mN fLst aNil) (gLift (gpName 3)))
    (sSeq (sFor (iSeqA (mCall d_stories_for [] (aCons (mVar 0) (aCons (mVar 1) (aCons (mVar 2) aNil))))) (gpName 4) (sSeq (sAsg mBad (gLift (gpName 5)))
    (sSeq (sIf (mUn fIsN (mVar 5)) (sRet mBad) sNil)
    (sDrop (mMethL fAppend (mVar 3) (aCons (mN fTup (aCons (mVar 4) (aCons (mVar 5) aNil))) aNil))))))
    (sRet mBad)))
def d_judge_story : FN := fDef 3 3 b_judge_story
-- reaching: ['row', 'at', 'gaps', 'gap']
def b_reaching : MS := (sSeq (sIf (mBin fNe (mBin (fIxC nkd kdT) (mVar 0) (mC (.int 0))) (mC (.str [111, 110, 108, 121]))) (sRet (mVar 0)) sNil)
    (sRet (mBin fAdd (mSl (mVar 0) none (some (mC (.int 3)))) (mN fTup (aCons (mBin fAdd (mBin (fIxC nkd kdT) (mVar 0) (mC (.int 3))) (mN fLenA (aCons (mLc (iSeqA (mVar 2)) (gpName 3) (mChain fLt fLe (mVar 1) (mVar 3) (mBin fAdd (mVar 1) (mBin (fIxC nkd kdT) (mVar 0) (mC (.int 3))))) (mVar 3) [3]) aNil))) aNil)))))
def d_reaching : FN := fDef 3 1 b_reaching
-- filled: ['rows', 'gaps', 'found', 'at', 'row']
def b_filled : MS := (sSeq (sAsg (mN fLst aNil) (gLift (gpName 2)))
    (sSeq (sFor (iEnumM (aCons (mVar 0) aNil)) (gpTup 2 (gpsCons (gpName 3) (gpsCons (gpName 4) gpsNil))) (sSeq (sIf (mBin (fInKB nkd kdT kdN fun b => b) (mVar 3) (mVar 1)) (sDrop (mMethL fAppend (mVar 2) (aCons (mN fTup (aCons (mC (.str [102, 101, 110, 99, 101])) aNil)) aNil))) sNil)
    (sDrop (mMethL fAppend (mVar 2) (aCons (mCall d_reaching [] (aCons (mVar 4) (aCons (mVar 3) (aCons (mVar 1) aNil)))) aNil)))))
    (sSeq (sIf (mBin (fInKB nkd kdT kdN fun b => b) (mN fLenA (aCons (mVar 0) aNil)) (mVar 1)) (sDrop (mMethL fAppend (mVar 2) (aCons (mN fTup (aCons (mC (.str [102, 101, 110, 99, 101])) aNil)) aNil))) sNil)
    (sRet (mN fTupOf (aCons (mVar 2) aNil))))))
def d_filled : FN := fDef 2 3 b_filled
-- with_fences: ['program', 'choice', 'hands', 'hand', 'rows', 'where', 'at']
def b_with_fences : MS := (sSeq (sAsg (mN fLst aNil) (gLift (gpName 2)))
    (sSeq (sFor (iEnumM (aCons (mVar 0) aNil)) (gpTup 2 (gpsCons (gpName 3) (gpsCons (gpName 4) gpsNil))) (sDrop (mMethL fAppend (mVar 2) (aCons (mCall d_filled [] (aCons (mVar 4) (aCons (mLc (iSeqA (mVar 1)) (gpTup 2 (gpsCons (gpName 5) (gpsCons (gpName 6) gpsNil))) (mBin fEq (mVar 5) (mVar 3)) (mVar 6) [5, 6]) aNil))) aNil))))
    (sRet (mN fTupOf (aCons (mVar 2) aNil)))))
def d_with_fences : FN := fDef 2 5 b_with_fences
-- is_gap: ['program', 'thing']
def b_is_gap : MS := (sSeq (sIf (mOr (mUn fNot (mCall d_is_tuple_of [] (aCons (mVar 1) (aCons (mC (.int 2)) aNil)))) (mUn fNot (mCall d_is_between [] (aCons (mBin (fIxC nkd kdT) (mVar 1) (mC (.int 0))) (aCons (mC (.int 0)) (aCons (mBin fSub (mN fLenA (aCons (mVar 0) aNil)) (mC (.int 1))) aNil)))))) (sRet (mC (.bl false))) sNil)
    (sRet (mCall d_is_between [] (aCons (mBin (fIxC nkd kdT) (mVar 1) (mC (.int 1))) (aCons (mC (.int 0)) (aCons (mN fLenA (aCons (mBin (fIxC nkd kdT) (mVar 0) (mBin (fIxC nkd kdT) (mVar 1) (mC (.int 0)))) aNil)) aNil))))))
def d_is_gap : FN := fDef 2 0 b_is_gap
-- check_prices: ['program', 'prices', 'most', 'gap']
def b_check_prices : MS := (sSeq (sIf (mOr (mUn fNot (mN (fIsID ncl) (aCons (mVar 1) (aCons (mC (.ty 5)) aNil)))) (mUn fNot (mChain fLe fLe (mC (.int 1)) (mN fLenA (aCons (mVar 1) aNil)) (mVar 2)))) (sRaise 16) sNil)
    (sSeq (sIf (mUn fNot (mFuse (finBools allB) (iSeqA (mVar 1)) (gpName 3) mYes (mAnd (mCall d_is_gap [] (aCons (mVar 0) (aCons (mVar 3) aNil))) (mCall d_is_between [] (aCons (mBin (fIxC nkd kdT) (mVar 1) (mVar 3)) (aCons (mC (.int 1)) (aCons (mC (.int 9)) aNil))))) [3])) (sRaise 16) sNil)
    (sIf (mUn fNot (mCall d_is_program [] (aCons (mCall d_with_fences [] (aCons (mVar 0) (aCons (mN fSortedA (aCons (mVar 1) aNil)) aNil))) aNil))) (sRaise 16) sNil)))
def d_check_prices : FN := fDef 3 1 b_check_prices
-- count_stories: ['program', 'rule', 'reading']
def b_count_stories : MS := (sSeq (sDrop (mCall d_check_program [] (aCons (mVar 0) aNil)))
    (sSeq (sDrop (mCall d_check_rule [] (aCons (mVar 1) aNil)))
    (sRet (mN fSum (aCons (mLc (iSeqA (mCall d_whole_readings [] (aCons (mVar 0) (aCons (mVar 1) aNil)))) (gpName 2) mYes (mCall d_count_with [] (aCons (mVar 0) (aCons (mVar 1) (aCons (mVar 2) aNil)))) [2]) aNil)))))
def d_count_stories : FN := fDef 2 1 b_count_stories
-- cost_of: ['choice', 'prices', 'gap']
def b_cost_of : MS := (sRet (mN fSum (aCons (mLc (iSeqA (mVar 0)) (gpName 2) mYes (mBin (fIxC nkd kdT) (mVar 1) (mVar 2)) [2]) aNil)))
def d_cost_of : FN := fDef 2 1 b_cost_of
-- all_choices: ['prices', 'gaps', 'choices', 'priced', 'many', 'choice', '_']
def b_all_choices : MS := (sSeq (sAsg (mN fSortedA (aCons (mVar 0) aNil)) (gLift (gpName 1)))
    (sSeq (sAsg (mLc2 (iRange (aCons (mBin fAdd (mN fLenA (aCons (mVar 1) aNil)) (mC (.int 1))) aNil)) (gpName 4) mYes (iSeqA mBad) (gpName 5) mYes (mVar 5) [4, 5] [5]) (gLift (gpName 2)))
    (sSeq (sAsg (mN fSortedA (aCons (mLc (iSeqA (mVar 2)) (gpName 5) mYes (mN fTup (aCons (mCall d_cost_of [] (aCons (mVar 5) (aCons (mVar 0) aNil))) (aCons (mVar 5) aNil))) [5]) aNil)) (gLift (gpName 3)))
    (sRet (mLc (iSeqA (mVar 3)) (gpTup 2 (gpsCons (gpName 6) (gpsCons (gpName 5) gpsNil))) mYes (mVar 5) [6, 5])))))
def d_all_choices : FN := fDef 1 6 b_all_choices
-- choices_by: ['program', 'rule', 'prices']
def b_choices_by : MS := (sSeq (sDrop (mCall d_check_program [] (aCons (mVar 0) aNil)))
    (sSeq (sDrop (mCall d_check_rule [] (aCons (mVar 1) aNil)))
    (sSeq (sDrop (mCall d_check_prices [] (aCons (mVar 0) (aCons (mVar 2) (aCons (mC (.int 4)) aNil)))))
    (sSeq (sDrop (mCall d_count_stories [] (aCons (mCall d_with_fences [] (aCons (mVar 0) (aCons (mN fSortedA (aCons (mVar 2) aNil)) aNil))) (aCons (mVar 1) aNil))))
    (sRet (mCall d_all_choices [] (aCons (mVar 2) aNil)))))))
def d_choices_by : FN := fDef 3 0 b_choices_by
-- stories_by: ['program', 'rule']
def b_stories_by : MS := (sSeq (sDrop (mCall d_check_program [] (aCons (mVar 0) aNil)))
    (sSeq (sDrop (mCall d_check_rule [] (aCons (mVar 1) aNil)))
    (sRet (mCall d_all_stories [] (aCons (mVar 0) (aCons (mVar 1) aNil))))))
def d_stories_by : FN := fDef 2 0 b_stories_by
-- judge_lines: ['program', 'rule', 'lines', 'story', '_', 'circle']
def b_judge_lines : MS := (sSeq (sAsg (mN fLst aNil) (gLift (gpName 2)))
    (sSeq (sFor (iSeqA (mCall d_stories_by [] (aCons (mVar 0) (aCons (mVar 1) aNil)))) (gpTup 2 (gpsCons (gpName 3) (gpsCons (gpName 4) gpsNil))) (sIf (mUn fIsN mBad) (sSeq (sAsg mBad (gLift (gpName 5)))
    (sSeq (sIf (mUn fNotN (mVar 5)) (sRet mBad) sNil)
    (sDrop (mMethL fAppend (mVar 2) (aCons (mN fTup (aCons (mVar 3) (aCons mBad aNil))) aNil))))) sNil))
    (sRet mBad)))
def d_judge_lines : FN := fDef 2 4 b_judge_lines
-- cheaper_than: ['choice', 'choices', 'prices', 'cost', 'other']
def b_cheaper_than : MS := (sSeq (sAsg (mCall d_cost_of [] (aCons (mVar 0) (aCons (mVar 2) aNil))) (gLift (gpName 3)))
    (sRet (mLc (iSeqA (mVar 1)) (gpName 4) (mBin fLt (mCall d_cost_of [] (aCons (mVar 4) (aCons (mVar 2) aNil))) (mVar 3)) (mVar 4) [4])))
def d_cheaper_than : FN := fDef 3 2 b_cheaper_than
-- cheapest_fences: ['program', 'rule', 'prices', 'against', 'choices', 'choice', 'judged', 'cheaper', 'other']
def b_cheapest_fences : MS := (sSeq (sAsg mDict0 (gLift (gpName 3)))
    (sSeq (sAsg (mCall d_choices_by [] (aCons (mVar 0) (aCons (mVar 1) (aCons (mVar 2) aNil)))) (gLift (gpName 4)))
    (sSeq (sFor (iSeqA (mVar 4)) (gpName 5) (sSeq (sAsg (mCall d_judge_lines [] (aCons (mCall d_with_fences [] (aCons (mVar 0) (aCons (mVar 5) aNil))) (aCons (mVar 1) aNil))) (gLift (gpName 6)))
    (sSeq (sIf (mN (fIsID ncl) (aCons (mVar 6) (aCons (mC (.cls 5)) aNil))) (sSeq (sAsg (mCall d_cheaper_than [] (aCons (mVar 5) (aCons (mVar 4) (aCons (mVar 2) aNil)))) (gLift (gpName 7)))
    (sRet mBad)) sNil)
    (sAsg (mN fTup (aCons (mUn (fFld tb_story) (mVar 6)) (aCons (mUn (fFld tb_circle) (mVar 6)) aNil))) (gSubA (mVar 3) (mVar 5))))))
    (sRet mBad))))
def d_cheapest_fences : FN := fDef 3 6 b_cheapest_fences
-- least_cost: ['program', 'rule', 'prices', 'judged']
def b_least_cost : MS := (sSeq (sAsg (mCall d_cheapest_fences [] (aCons (mVar 0) (aCons (mVar 1) (aCons (mVar 2) aNil)))) (gLift (gpName 3)))
    (sRet (mIf (mN (fIsID ncl) (aCons (mVar 3) (aCons (mC (.cls 7)) aNil))) (mCall d_cost_of [] (aCons (mUn (fFld tb_choice) (mVar 3)) (aCons (mVar 2) aNil))) (mC .non))))
def d_least_cost : FN := fDef 3 1 b_least_cost
-- is_told: ['program', 'rule', 'outcome']
def b_is_told : MS := (sRet (mN (fIsID ncl) (aCons (mCall d_judge_story [] (aCons (mVar 0) (aCons (mVar 1) (aCons (mVar 2) aNil)))) (aCons (mC (.cls 2)) aNil))))
def d_is_told : FN := fDef 3 0 b_is_told
-- explore_twins: ['one', 'other', 'rule']
def b_explore_twins : MS := (sSeq (sDrop (mCall d_check_program [] (aCons (mVar 0) aNil)))
    (sSeq (sDrop (mCall d_check_program [] (aCons (mVar 1) aNil)))
    (sSeq (sIf (mBin fNe (mN fLenA (aCons (mVar 0) aNil)) (mN fLenA (aCons (mVar 1) aNil))) (sRaise 18) sNil)
    (sSeq (sDrop (mCall d_check_rule [] (aCons (mVar 2) aNil)))
    (sRet (mN fTup (aCons mBad (aCons mBad aNil))))))))
def d_explore_twins : FN := fDef 3 0 b_explore_twins
-- compare: ['one', 'other', 'rule', 'origins', 'ends', 'which', 'outcome']
def b_compare : MS := (sSeq (sAsg (mCall d_explore_twins [] (aCons (mVar 0) (aCons (mVar 1) (aCons (mVar 2) aNil)))) (gLift (gpName 3)))
    (sSeq (sAsg (mN fTup (aCons mBad (aCons mBad aNil))) (gLift (gpName 4)))
    (sSeq (sFor (iRange (aCons (mC (.int 2)) aNil)) (gpName 5) (sFor (iSeqA (mBin (fIxC nkd kdT) (mVar 4) (mVar 5))) (gpName 6) (sIf (mBin (fInKB nkd kdT kdN fun b => bif b then false else true) (mVar 6) (mBin (fIxC nkd kdT) (mVar 4) (mBin fSub (mC (.int 1)) (mVar 5)))) (sRet mBad) sNil)))
    (sRet (mC .non)))))
def d_compare : FN := fDef 3 4 b_compare
-- value_of: ['row']
def b_value_of : MS := (sRet (mIf (mBin (fInKB nkd kdT kdN fun b => b) (mBin (fIxC nkd kdT) (mVar 0) (mC (.int 0))) (mN fTup (aCons (mC (.str [112, 117, 116])) (aCons (mC (.str [115, 119, 97, 112])) aNil)))) (mBin (fIxC nkd kdT) (mVar 0) (mC (.int (-1)))) (mC .non)))
def d_value_of : FN := fDef 1 0 b_value_of
-- is_changeable: ['thing']
def b_is_changeable : MS := (sRet (mAnd (mCall d_is_row [] (aCons (mVar 0) (aCons (mC (.int 0)) aNil))) (mBin fNe (mCall d_value_of [] (aCons (mVar 0) aNil)) (mC (.int 0)))))
def d_is_changeable : FN := fDef 1 0 b_is_changeable
-- check_rows: ['rule', 'one', 'other']
def b_check_rows : MS := (sSeq (sDrop (mCall d_check_rule [] (aCons (mVar 0) aNil)))
    (sIf (mOr (mUn fNot (mCall d_is_changeable [] (aCons (mVar 1) aNil))) (mUn fNot (mCall d_is_changeable [] (aCons (mVar 2) aNil)))) (sRaise 17) sNil))
def d_check_rows : FN := fDef 3 0 b_check_rows
-- is_harmless: ['rule', 'one', 'other', 'leaving']
def b_is_harmless : MS := (sSeq (sDrop (mCall d_check_rows [] (aCons (mVar 0) (aCons (mVar 1) (aCons (mVar 2) aNil)))))
    (sRet (mIf (mUn fTruth (mVar 3)) mBad mBad)))
def d_is_harmless : FN := fDef 4 0 b_is_harmless
-- harm_of: ['rule', 'one', 'other', 'leaving', 'ahead', 'behind', 'others', 'program', 'outcomes']
def b_harm_of : MS := (sSeq (sIf (mCall d_is_harmless [] (aCons (mVar 0) (aCons (mVar 1) (aCons (mVar 2) (aCons (mVar 3) aNil))))) (sRet (mC .non)) sNil)
    (sSeq (sFor (iSeqA mBad) (gpTup 3 (gpsCons (gpName 4) (gpsCons (gpName 5) (gpsCons (gpName 6) gpsNil)))) (sSeq (sAsg (mBin fAdd (mN fTup (aCons (mBin fAdd (mBin fAdd (mVar 4) (mN fTup (aCons (mVar 1) (aCons (mVar 2) aNil)))) (mVar 5)) aNil)) (mVar 6)) (gLift (gpName 7)))
    (sSeq (sAsg mBad (gLift (gpName 8)))
    (sIf (mUn fTruth (mVar 8)) (sRet mBad) sNil))))
    (sRet (mC .non))))
def d_harm_of : FN := fDef 4 5 b_harm_of
-- exchange: ['rule', 'one', 'other']
def b_exchange : MS := (sRet (mCall d_harm_of [] (aCons (mVar 0) (aCons (mVar 1) (aCons (mVar 2) (aCons (mC (.bl false)) aNil))))))
def d_exchange : FN := fDef 3 0 b_exchange
-- leave_out: ['rule', 'one', 'other']
def b_leave_out : MS := (sRet (mCall d_harm_of [] (aCons (mVar 0) (aCons (mVar 1) (aCons (mVar 2) (aCons (mC (.bl true)) aNil))))))
def d_leave_out : FN := fDef 3 0 b_leave_out
-- _law_others_right: ['program', 'end', 'found', 'prices', 'full', 'rows', 'row', 'great', 'some', 'at', 'hand']
def b__law_others_right : MS := (sSeq (sAsg (mN fTup (aCons (mN fTup (aCons (mN fTup (aCons (mC (.int 0)) (aCons (mC (.int 0)) (aCons (mC (.int 0)) aNil)))) aNil)) (aCons (mN fTup (aCons (mC (.int 0)) (aCons (mC (.int 0)) (aCons (mC (.int 0)) (aCons (mC (.int 0)) aNil))))) aNil))) (gLift (gpName 1)))
    (sSeq (sAsg (mLc (iSeqA (mN fTup (aCons (mC .non) (aCons (mVar 1) (aCons (mN fTup (aCons (mBin fMul (mBin (fIxC nkd kdT) (mVar 1) (mC (.int 0))) (mC (.int 2))) (aCons (mN fTup (aCons (mC (.int 0)) (aCons (mC (.int 0)) (aCons (mC (.int 0)) aNil)))) aNil))) aNil))))) (gpName 8) mYes (mWord okc wordsN fineN (mCall d_judge_story [] (aCons (mVar 0) (aCons (mC (.str [111, 110, 101])) (aCons (mVar 8) aNil))))) [8]) (gLift (gpName 2)))
    (sSeq (sAsg (mBin fAdd (mVar 2) (mN fLst (aCons (mWord okc wordsN fineN (mCall d_is_told [] (aCons (mVar 0) (aCons (mC (.str [118, 105, 101, 119, 115])) (aCons (mN fTup (aCons (mBin fMul (mN fLst (aCons (mN fTup (aCons (mC (.int 0)) (aCons (mC (.int 0)) (aCons (mC (.int 0)) aNil)))) aNil)) (mC (.int 2))) (aCons (mN fTup (aCons (mC (.int 0)) (aCons (mC (.int 0)) (aCons (mC (.int 0)) (aCons (mC (.int 0)) aNil))))) aNil))) aNil))))) aNil))) (gLift (gpName 2)))
    (sSeq (sIf (mOr (mBin fNe (mVar 2) (mBin fMul (mN fLst (aCons (mC (.str [111, 117, 116, 99, 111, 109, 101])) aNil)) (mC (.int 4)))) (mBin fNe (mWord okc wordsN fineN (mCall d_compare [] (aCons (mVar 0) (aCons (mSl (mVar 0) none (some (mC (.int 1)))) (aCons (mC .non) aNil))))) (mC (.str [116, 119, 105, 110, 115])))) (sRet (mC (.bl false))) sNil)
    (sSeq (sAsg (mN fLst (aCons (mC .non) (aCons mDict0 (aCons (mN fDictP (aCons (mN fLst (aCons (mN fTup (aCons (mN fTup (aCons (mC (.int 0)) (aCons (mC (.int 0)) aNil))) (aCons (mC (.int 0)) aNil))) aNil)) aNil)) (aCons (mN fDictP (aCons (mN fLst (aCons (mN fTup (aCons (mN fTup (aCons (mC (.int 0)) (aCons (mC (.int 9)) aNil))) (aCons (mC (.int 1)) aNil))) aNil)) aNil)) (aCons (mN fDictP (aCons (mN fLst (aCons (mN fTup (aCons (mN fTup (aCons (mC (.int 2)) (aCons (mC (.int 0)) aNil))) (aCons (mC (.int 1)) aNil))) aNil)) aNil)) (aCons (mN fDictP (aCons (mN fLst (aCons (mN fTup (aCons (mC (.int 0)) (aCons (mC (.int 1)) aNil))) aNil)) aNil)) (aCons (mN fDictP (aCons (mN fLst (aCons (mN fTup (aCons (mN fTup (aCons (mC (.int 0)) (aCons (mC (.int 0)) aNil))) (aCons (mC (.bl true)) aNil))) aNil)) aNil)) aNil)))))))) (gLift (gpName 3)))
    (sSeq (sAsg (mBin fAdd (mVar 3) (mN fLst (aCons (mN fDictP (aCons (mBin fAdd (mLc (iRange (aCons (mC (.int 2)) aNil)) (gpName 9) mYes (mN fTup (aCons (mN fTup (aCons (mC (.int 0)) (aCons (mVar 9) aNil))) (aCons (mC (.int 1)) aNil))) [9]) (mLc (iRange (aCons (mC (.int 3)) aNil)) (gpName 9) mYes (mN fTup (aCons (mN fTup (aCons (mC (.int 1)) (aCons (mVar 9) aNil))) (aCons (mC (.int 1)) aNil))) [9])) aNil)) (aCons (mN fLst (aCons (mN fTup (aCons (mN fTup (aCons (mC (.int 0)) (aCons (mC (.int 0)) aNil))) (aCons (mC (.int 1)) aNil))) aNil)) aNil)))) (gLift (gpName 3)))
    (sSeq (sIf (mBin fNe (mLc (iSeqA (mVar 3)) (gpName 8) mYes (mWord okc wordsN fineN (mCall d_cheapest_fences [] (aCons (mVar 0) (aCons (mC (.str [111, 110, 101])) (aCons (mVar 8) aNil))))) [8]) (mBin fMul (mN fLst (aCons (mC (.str [112, 114, 105, 99, 101, 115])) aNil)) (mC (.int 9)))) (sRet (mC (.bl false))) sNil)
    (sSeq (sAsg (mN fTup (aCons (mBin fMul (mN fTup (aCons (mN fTup (aCons (mC (.str [102, 101, 110, 99, 101])) aNil)) aNil)) (mC (.int 16))) (aCons (mN fTup (aCons (mN fTup (aCons (mC (.str [102, 101, 110, 99, 101])) aNil)) aNil)) aNil))) (gLift (gpName 4)))
    (sSeq (sIf (mBin fNe (mWord okc wordsN fineN (mCall d_least_cost [] (aCons (mVar 4) (aCons (mC (.str [111, 110, 101])) (aCons (mN fDictP (aCons (mN fLst (aCons (mN fTup (aCons (mN fTup (aCons (mC (.int 0)) (aCons (mC (.int 3)) aNil))) (aCons (mC (.int 1)) aNil))) aNil)) aNil)) aNil))))) (mC (.str [112, 114, 105, 99, 101, 115]))) (sRet (mC (.bl false))) sNil)
    (sSeq (sAsg (mN fLst (aCons (mN fTup (aCons (mC (.str [112, 117, 116])) (aCons (mC (.int 0)) (aCons (mC (.int 0)) aNil)))) (aCons (mN fTup (aCons (mC (.str [111, 110, 108, 121])) (aCons (mC (.int 0)) (aCons (mC (.int 1)) (aCons (mC (.int 1)) aNil))))) (aCons (mN fTup (aCons (mC (.str [112, 117, 116])) (aCons (mC (.int 0)) aNil))) (aCons (mC .non) (aCons (mN fLst (aCons (mC (.str [102, 101, 110, 99, 101])) aNil)) (aCons (mN fTup (aCons (mC (.str [115, 119, 97, 112])) (aCons (mC (.int 0)) (aCons (mC (.int 0)) (aCons (mC (.int 0)) aNil))))) (aCons (mN fTup (aCons (mC (.str [103, 101, 116])) (aCons (mC (.int 3)) (aCons (mC (.int 0)) aNil)))) (aCons (mN fTup (aCons (mC (.str [112, 117, 116])) (aCons (mC (.int 0)) (aCons (mC (.int 4)) aNil)))) aNil))))))))) (gLift (gpName 5)))
    (sSeq (sFor (iSeqA (mVar 5)) (gpName 6) (sSeq (sAsg (mN fLst (aCons (mWord okc wordsN fineN (mCall d_exchange [] (aCons (mC (.str [111, 110, 101])) (aCons (mVar 6) (aCons (mN fTup (aCons (mC (.str [102, 101, 110, 99, 101])) aNil)) aNil))))) aNil)) (gLift (gpName 2)))
    (sSeq (sAsg (mBin fAdd (mVar 2) (mN fLst (aCons (mWord okc wordsN fineN (mCall d_leave_out [] (aCons (mC (.str [111, 110, 101])) (aCons (mN fTup (aCons (mC (.str [102, 101, 110, 99, 101])) aNil)) (aCons (mVar 6) aNil))))) aNil))) (gLift (gpName 2)))
    (sIf (mOr (mBin fNe (mVar 2) (mBin fMul (mN fLst (aCons (mC (.str [114, 111, 119, 115])) aNil)) (mC (.int 2)))) (mBin fNe (mWord okc wordsN fineN (mCall d_is_harmless [] (aCons (mC (.str [118, 105, 101, 119, 115])) (aCons (mVar 6) (aCons (mVar 6) (aCons (mC (.bl true)) aNil)))))) (mC (.str [114, 111, 119, 115])))) (sRet (mC (.bl false))) sNil))))
    (sSeq (sAsg (mFuse finTup (iRange (aCons (mC (.int 4)) aNil)) (gpName 10) mYes (mN fTup (aCons (mN fTup (aCons (mC (.str [112, 117, 116])) (aCons (mC (.int 0)) (aCons (mBin fAdd (mC (.int 1)) (mBin fMod (mVar 10) (mC (.int 3)))) aNil)))) (aCons (mN fTup (aCons (mC (.str [112, 117, 116])) (aCons (mC (.int 0)) (aCons (mC (.int 2)) aNil)))) (aCons (mN fTup (aCons (mC (.str [103, 101, 116])) (aCons (mC (.int 0)) (aCons (mC (.int 0)) aNil)))) aNil)))) [10]) (gLift (gpName 7)))
    (sSeq (sAsg (mN fLst (aCons (mWord okc wordsN fineN (mCall d_count_stories [] (aCons (mVar 7) (aCons (mC (.str [111, 110, 101])) aNil)))) aNil)) (gLift (gpName 2)))
    (sSeq (sAsg (mBin fAdd (mVar 2) (mN fLst (aCons (mWord okc wordsN fineN (mCall d_judge_lines [] (aCons (mVar 7) (aCons (mC (.str [113, 117, 101, 117, 101, 115])) aNil)))) aNil))) (gLift (gpName 2)))
    (sSeq (sAsg (mBin fAdd (mVar 2) (mN fLst (aCons (mWord okc wordsN fineN (mCall d_cheapest_fences [] (aCons (mVar 7) (aCons (mC (.str [108, 97, 110, 101, 115])) (aCons (mN fDictP (aCons (mN fLst (aCons (mN fTup (aCons (mN fTup (aCons (mC (.int 0)) (aCons (mC (.int 0)) aNil))) (aCons (mC (.int 1)) aNil))) aNil)) aNil)) aNil))))) aNil))) (gLift (gpName 2)))
    (sRet (mBin fEq (mVar 2) (mBin fMul (mN fLst (aCons (mC (.str [108, 97, 114, 103, 101])) aNil)) (mC (.int 3))))))))))))))))))))
def d__law_others_right : FN := fDef 1 10 b__law_others_right
-- frozen: ['thing', 'item']
def b_frozen (d_frozen : FN) : MS := (sSeq (sIf (mIsI2 ncl 4 3 (mVar 0)) (sRet (mFuse finTup (iSeqA (mVar 0)) (gpName 1) mYes (mCall d_frozen [] (aCons (mVar 1) aNil)) [1])) sNil)
    (sRet (mVar 0)))
def d_frozen : Nat → FN := @Nat.rec (fun _ => FN) (fun _ _ => .bad) (fun _ ih => fDef 1 1 (b_frozen ih))
-- Story.__init__: ['self', 'reads', 'puts', 'fences', 'doing']
def b_Story___init__ : MS := (sSeq (sFldSet 1 0 (mVar 0) (mAcc (iSeqA (mSortKE (mVar 1))) (gpName 4) mYes (stD (mVar 4) (mCall (d_frozen 8) [] (aCons (mBin (fIxC nkd kdT) (mVar 1) (mVar 4)) aNil))) [] (.dct false) [4]))
    (sSeq (sFldSet 1 1 (mVar 0) (mCall (d_frozen 8) [] (aCons (mVar 2) aNil)))
    (sFldSet 1 2 (mVar 0) (mCall (d_frozen 8) [] (aCons (mVar 3) aNil)))))
def d_Story___init__ : FN := fDef 4 1 b_Story___init__
-- story_outcome: ['program', 'rule', 'story']
def b_story_outcome : MS := (sSeq (sDrop (mCall d_check_program [] (aCons (mVar 0) aNil)))
    (sSeq (sDrop (mCall d_check_rule [] (aCons (mVar 1) aNil)))
    (sRet mBad)))
def d_story_outcome : FN := fDef 3 0 b_story_outcome
-- is_let: ['program', 'rule', 'story']
def b_is_let : MS := (sSeq (sDrop (mCall d_check_program [] (aCons (mVar 0) aNil)))
    (sSeq (sDrop (mCall d_check_rule [] (aCons (mVar 1) aNil)))
    (sRet (mAnd (mUn fNotN mBad) (mUn fIsN mBad)))))
def d_is_let : FN := fDef 3 0 b_is_let
-- let_by: ['program', 'rule', 'pairs', 'story', 'end']
def b_let_by : MS := (sSeq (sAsg (mCall d_stories_by [] (aCons (mVar 0) (aCons (mVar 1) aNil))) (gLift (gpName 2)))
    (sRet (mLc (iSeqA (mVar 2)) (gpTup 2 (gpsCons (gpName 3) (gpsCons (gpName 4) gpsNil))) (mUn fIsN mBad) (mN fTup (aCons (mVar 3) (aCons (mVar 4) aNil))) [3, 4])))
def d_let_by : FN := fDef 2 3 b_let_by
-- outcomes_told: ['program', 'rule', '_', 'end']
def b_outcomes_told : MS := (sRet (mN fSortedA (aCons (mAcc (iSeqA (mCall d_let_by [] (aCons (mVar 0) (aCons (mVar 1) aNil)))) (gpTup 2 (gpsCons (gpName 2) (gpsCons (gpName 3) gpsNil))) mYes (stI (mVar 3)) [] .iset [2, 3]) aNil)))
def d_outcomes_told : FN := fDef 2 2 b_outcomes_told
-- count_let: ['program', 'rule']
def b_count_let : MS := (sRet (mN fLenA (aCons (mCall d_let_by [] (aCons (mVar 0) (aCons (mVar 1) aNil))) aNil)))
def d_count_let : FN := fDef 2 0 b_count_let
-- explore_race: ['program']
def b_explore_race : MS := (sSeq (sDrop (mCall d_check_program [] (aCons (mVar 0) aNil)))
    (sRet mBad))
def d_explore_race : FN := fDef 1 0 b_explore_race
-- judge_race: ['program', 'origins', 'state', 'pairs']
def b_judge_race : MS := (sSeq (sAsg (mCall d_explore_race [] (aCons (mVar 0) aNil)) (gLift (gpName 1)))
    (sSeq (sFor (iSeqA (mVar 1)) (gpName 2) (sSeq (sAsg mBad (gLift (gpName 3)))
    (sIf (mUn fTruth (mVar 3)) (sRet mBad) sNil)))
    (sRet mBad)))
def d_judge_race : FN := fDef 1 3 b_judge_race
-- is_raceless: ['program']
def b_is_raceless : MS := (sRet (mN (fIsID ncl) (aCons (mCall d_judge_race [] (aCons (mVar 0) aNil)) (aCons (mC (.cls 10)) aNil))))
def d_is_raceless : FN := fDef 1 0 b_is_raceless
-- races_of: ['program', 'origins', 'state', 'pair']
def b_races_of : MS := (sSeq (sAsg (mCall d_explore_race [] (aCons (mVar 0) aNil)) (gLift (gpName 1)))
    (sRet (mN fSortedA (aCons mBad aNil))))
def d_races_of : FN := fDef 1 3 b_races_of
-- is_as_by_one: ['program', 'rule']
def b_is_as_by_one : MS := (sRet (mN (fIsID ncl) (aCons (mCall d_judge_lines [] (aCons (mVar 0) (aCons (mVar 1) aNil))) (aCons (mC (.cls 5)) aNil))))
def d_is_as_by_one : FN := fDef 2 0 b_is_as_by_one
-- program_text: ['program', 'hand']
def b_program_text : MS := (sSeq (sDrop (mCall d_check_program [] (aCons (mVar 0) aNil)))
    (sRet mBad))
def d_program_text : FN := fDef 1 1 b_program_text
-- are_twins: ['one', 'other', 'rule']
def b_are_twins : MS := (sRet (mUn fIsN (mCall d_compare [] (aCons (mVar 0) (aCons (mVar 1) (aCons (mVar 2) aNil))))))
def d_are_twins : FN := fDef 3 0 b_are_twins
-- _law_first_right: ['program', 'bad', 'story', 'found']
def b__law_first_right : MS := (sSeq (sAsg (mMake 1 d_Story___init__ (aCons mDict0 (aCons (mN fTup (aCons (mN fTup aNil) (aCons (mN fTup aNil) (aCons (mN fTup aNil) (aCons (mN fTup aNil) aNil))))) (aCons (mN fTup aNil) aNil)))) (gLift (gpName 2)))
    (sSeq (sAsg (mN fLst (aCons (mWord okc wordsN fineN (mCall d_count_stories [] (aCons (mVar 1) (aCons (mC .non) aNil)))) aNil)) (gLift (gpName 3)))
    (sSeq (sAsg (mBin fAdd (mVar 3) (mN fLst (aCons (mWord okc wordsN fineN (mCall d_story_outcome [] (aCons (mVar 1) (aCons (mC .non) (aCons (mVar 2) aNil))))) aNil))) (gLift (gpName 3)))
    (sSeq (sAsg (mBin fAdd (mVar 3) (mN fLst (aCons (mWord okc wordsN fineN (mCall d_is_let [] (aCons (mVar 1) (aCons (mC .non) (aCons (mVar 2) aNil))))) aNil))) (gLift (gpName 3)))
    (sSeq (sAsg (mBin fAdd (mVar 3) (mN fLst (aCons (mWord okc wordsN fineN (mCall d_judge_story [] (aCons (mVar 1) (aCons (mC .non) (aCons (mC .non) aNil))))) aNil))) (gLift (gpName 3)))
    (sSeq (sAsg (mBin fAdd (mVar 3) (mN fLst (aCons (mWord okc wordsN fineN (mCall d_is_told [] (aCons (mVar 1) (aCons (mC (.str [111, 110, 101])) (aCons (mC .non) aNil))))) aNil))) (gLift (gpName 3)))
    (sSeq (sAsg (mBin fAdd (mVar 3) (mN fLst (aCons (mWord okc wordsN fineN (mCall d_outcomes_told [] (aCons (mVar 1) (aCons (mC (.str [111, 110, 101, 115])) aNil)))) aNil))) (gLift (gpName 3)))
    (sSeq (sAsg (mBin fAdd (mVar 3) (mN fLst (aCons (mWord okc wordsN fineN (mCall d_count_let [] (aCons (mVar 1) (aCons (mC (.str [111, 110, 101])) aNil)))) aNil))) (gLift (gpName 3)))
    (sSeq (sAsg (mBin fAdd (mVar 3) (mN fLst (aCons (mWord okc wordsN fineN (mCall d_judge_race [] (aCons (mVar 1) aNil))) aNil))) (gLift (gpName 3)))
    (sSeq (sAsg (mBin fAdd (mVar 3) (mN fLst (aCons (mWord okc wordsN fineN (mCall d_is_raceless [] (aCons (mVar 1) aNil))) aNil))) (gLift (gpName 3)))
    (sSeq (sAsg (mBin fAdd (mVar 3) (mN fLst (aCons (mWord okc wordsN fineN (mCall d_races_of [] (aCons (mVar 1) aNil))) aNil))) (gLift (gpName 3)))
    (sSeq (sAsg (mBin fAdd (mVar 3) (mN fLst (aCons (mWord okc wordsN fineN (mCall d_judge_lines [] (aCons (mVar 1) (aCons (mC .non) aNil)))) aNil))) (gLift (gpName 3)))
    (sSeq (sAsg (mBin fAdd (mVar 3) (mN fLst (aCons (mWord okc wordsN fineN (mCall d_is_as_by_one [] (aCons (mVar 1) (aCons (mC .non) aNil)))) aNil))) (gLift (gpName 3)))
    (sSeq (sAsg (mBin fAdd (mVar 3) (mN fLst (aCons (mWord okc wordsN fineN (mCall d_cheapest_fences [] (aCons (mVar 1) (aCons (mC .non) (aCons (mC .non) aNil))))) aNil))) (gLift (gpName 3)))
    (sSeq (sAsg (mBin fAdd (mVar 3) (mN fLst (aCons (mWord okc wordsN fineN (mCall d_program_text [] (aCons (mVar 1) aNil))) aNil))) (gLift (gpName 3)))
    (sSeq (sAsg (mBin fAdd (mVar 3) (mN fLst (aCons (mWord okc wordsN fineN (mCall d_compare [] (aCons (mVar 1) (aCons (mC .non) (aCons (mC .non) aNil))))) aNil))) (gLift (gpName 3)))
    (sSeq (sAsg (mBin fAdd (mVar 3) (mN fLst (aCons (mWord okc wordsN fineN (mCall d_are_twins [] (aCons (mVar 0) (aCons (mVar 1) (aCons (mC .non) aNil))))) aNil))) (gLift (gpName 3)))
    (sSeq (sIf (mBin fNe (mVar 3) (mBin fMul (mN fLst (aCons (mC (.str [112, 114, 111, 103, 114, 97, 109])) aNil)) (mC (.int 16)))) (sRet (mC (.bl false))) sNil)
    (sSeq (sAsg (mN fLst (aCons (mWord okc wordsN fineN (mCall d_count_stories [] (aCons (mVar 0) (aCons (mC (.str [111, 110, 101, 115])) aNil)))) aNil)) (gLift (gpName 3)))
    (sSeq (sAsg (mBin fAdd (mVar 3) (mN fLst (aCons (mWord okc wordsN fineN (mCall d_judge_story [] (aCons (mVar 0) (aCons (mC .non) (aCons (mC .non) aNil))))) aNil))) (gLift (gpName 3)))
    (sSeq (sAsg (mBin fAdd (mVar 3) (mN fLst (aCons (mWord okc wordsN fineN (mCall d_is_as_by_one [] (aCons (mVar 0) (aCons (mC (.int 1)) aNil)))) aNil))) (gLift (gpName 3)))
    (sSeq (sAsg (mBin fAdd (mVar 3) (mN fLst (aCons (mWord okc wordsN fineN (mCall d_least_cost [] (aCons (mVar 0) (aCons (mC (.str [])) (aCons (mC .non) aNil))))) aNil))) (gLift (gpName 3)))
    (sSeq (sAsg (mBin fAdd (mVar 3) (mN fLst (aCons (mWord okc wordsN fineN (mCall d_compare [] (aCons (mVar 0) (aCons (mVar 0) (aCons (mC (.str [116, 119, 111])) aNil))))) aNil))) (gLift (gpName 3)))
    (sSeq (sAsg (mBin fAdd (mVar 3) (mN fLst (aCons (mWord okc wordsN fineN (mCall d_exchange [] (aCons (mC .non) (aCons (mC .non) (aCons (mC .non) aNil))))) aNil))) (gLift (gpName 3)))
    (sRet (mBin fEq (mVar 3) (mBin fMul (mN fLst (aCons (mC (.str [114, 117, 108, 101])) aNil)) (mC (.int 6)))))))))))))))))))))))))))))
def d__law_first_right : FN := fDef 2 2 b__law_first_right
-- law: ['script', 'program', 'row', 'bads', 'bad']
def b_law : MS := (sSeq (sAsg (mN fTup (aCons (mN fTup (aCons (mN fTup (aCons (mC (.str [112, 117, 116])) (aCons (mC (.int 0)) (aCons (mC (.int 1)) aNil)))) (aCons (mN fTup (aCons (mC (.str [103, 101, 116])) (aCons (mC (.int 0)) (aCons (mC (.int 1)) aNil)))) aNil))) (aCons (mN fTup (aCons (mN fTup (aCons (mC (.str [112, 117, 116])) (aCons (mC (.int 1)) (aCons (mC (.int 1)) aNil)))) (aCons (mN fTup (aCons (mC (.str [103, 101, 116])) (aCons (mC (.int 0)) (aCons (mC (.int 0)) aNil)))) aNil))) aNil))) (gLift (gpName 1)))
    (sSeq (sAsg (mN fTup (aCons (mC (.str [112, 117, 116])) (aCons (mC (.int 0)) (aCons (mC (.bl true)) aNil)))) (gLift (gpName 2)))
    (sSeq (sAsg (mN fLst (aCons (mC .non) (aCons (mN fTup aNil) (aCons (mN fTup (aCons (mVar 2) aNil)) (aCons (mN fTup (aCons (mN fTup (aCons (mVar 2) aNil)) aNil)) (aCons (mN fLst (aCons (mN fTup aNil) aNil)) (aCons (mBin fMul (mN fTup (aCons (mN fTup aNil) aNil)) (mC (.int 5))) (aCons (mN fTup (aCons (mBin fMul (mN fTup (aCons (mN fTup (aCons (mC (.str [102, 101, 110, 99, 101])) aNil)) aNil)) (mC (.int 17))) aNil)) (aCons (mN fTup (aCons (mN fTup (aCons (mN fTup (aCons (mC (.str [111, 110, 108, 121])) (aCons (mC (.int 0)) (aCons (mC (.int 0)) (aCons (mC (.int 1)) aNil))))) aNil)) aNil)) (aCons (mN fTup (aCons (mN fTup (aCons (mN fTup aNil) aNil)) aNil)) aNil)))))))))) (gLift (gpName 3)))
    (sSeq (sIf (mUn fNot (mFuse (finBools allB) (iSeqA (mVar 3)) (gpName 4) mYes (mCall d__law_first_right [] (aCons (mVar 1) (aCons (mVar 4) aNil))) [4])) (sRet (mC (.bl false))) sNil)
    (sRet (mAnd (mCall d__law_others_right [] (aCons (mVar 1) aNil)) (mN (fIsID ncl) (aCons (mVar 0) (aCons (mC (.ty 4)) aNil)))))))))
def d_law : FN := fDef 1 4 b_law
structure Fx (u : U) (mg : Str → Option Value) (base : Heap) : Prop where
  uok : UOk u ncl
  kdok : KDOk u nkd kdT kdN
  n_all : mg "all" = none
  n_any : mg "any" = none
  n_bool : mg "bool" = none
  n_dict : mg "dict" = none
  n_enumerate : mg "enumerate" = none
  n_int : mg "int" = none
  n_isinstance : mg "isinstance" = none
  n_len : mg "len" = none
  n_list : mg "list" = none
  n_range : mg "range" = none
  n_sorted : mg "sorted" = none
  n_str : mg "str" = none
  n_sum : mg "sum" = none
  n_tuple : mg "tuple" = none
  n_zip : mg "zip" = none
  c_Cheapest : ConOk u mg "Cheapest" (.cls 7)
  c_FORMS : ConOk u mg "FORMS" (.kd 0)
  c_HANDS : ConOk u mg "HANDS" (.int 4)
  c_HIGHEST_PRICE : ConOk u mg "HIGHEST_PRICE" (.int 9)
  c_HIGHEST_VALUE : ConOk u mg "HIGHEST_VALUE" (.int 3)
  c_Lined : ConOk u mg "Lined" (.cls 5)
  c_MOST_GAPS : ConOk u mg "MOST_GAPS" (.int 4)
  c_MOST_STORIES : ConOk u mg "MOST_STORIES" (.int 600)
  c_NOTHING_HELD : ConOk u mg "NOTHING_HELD" (.tup [(.int 0), (.int 0), (.int 0)])
  c_PLACES : ConOk u mg "PLACES" (.int 4)
  c_ROWS : ConOk u mg "ROWS" (.int 16)
  c_RULES : ConOk u mg "RULES" (.tup [(.str [111, 110, 101]), (.str [113, 117, 101, 117, 101, 115]), (.str [108, 97, 110, 101, 115]), (.str [118, 105, 101, 119, 115])])
  c_Raceless : ConOk u mg "Raceless" (.cls 10)
  c_Told : ConOk u mg "Told" (.cls 2)
  a_choice : FldsOk u "choice" tb_choice
  a_circle : FldsOk u "circle" tb_circle
  a_fences : FldsOk u "fences" tb_fences
  a_left : FldsOk u "left" tb_left
  a_reads : FldsOk u "reads" tb_reads
  a_sources : FldsOk u "sources" tb_sources
  a_stands : FldsOk u "stands" tb_stands
  a_story : FldsOk u "story" tb_story
  e_BadOutcome : ExcOk u mg "BadOutcome" 15
  e_BadPrices : ExcOk u mg "BadPrices" 16
  e_BadProgram : ExcOk u mg "BadProgram" 13
  e_BadRows : ExcOk u mg "BadRows" 17
  e_BadRule : ExcOk u mg "BadRule" 14
  e_BadTwins : ExcOk u mg "BadTwins" 18
  e_TooLarge : ExcOk u mg "TooLarge" 19
  v_order_of : ∃ q, mg "order_of" = some (.ref q)
  factorial : mg "factorial" = some (.builtin "math.factorial")
  word : WordOk u mg base "_law_word" "call" "error" "ViewError" "_law_of" fineS okc wordsS 1 (defArgs (top 224)) (defBody (top 224)) (defScope (top 224))
  f_is_worded : ∃ f fd, mg "is_worded" = some (.ref f) ∧ FunD u.K "is_worded" "is_worded" (defArgs (top 15)) (defBody (top 15)) (defScope (top 15)) [] [] f fd
  f_is_number : ∃ f fd, mg "is_number" = some (.ref f) ∧ FunD u.K "is_number" "is_number" (defArgs (top 12)) (defBody (top 12)) (defScope (top 12)) [] [] f fd
  f_is_between : ∃ f fd, mg "is_between" = some (.ref f) ∧ FunD u.K "is_between" "is_between" (defArgs (top 13)) (defBody (top 13)) (defScope (top 13)) [] [] f fd
  f_has_numbers : ∃ f fd, mg "has_numbers" = some (.ref f) ∧ FunD u.K "has_numbers" "has_numbers" (defArgs (top 16)) (defBody (top 16)) (defScope (top 16)) [] [] f fd
  f_is_row : ∃ f fd, mg "is_row" = some (.ref f) ∧ FunD u.K "is_row" "is_row" (defArgs (top 36)) (defBody (top 36)) (defScope (top 36)) [] [] f fd
  f_is_hand : ∃ f fd, mg "is_hand" = some (.ref f) ∧ FunD u.K "is_hand" "is_hand" (defArgs (top 35)) (defBody (top 35)) (defScope (top 35)) [] [] f fd
  f_is_program : ∃ f fd, mg "is_program" = some (.ref f) ∧ FunD u.K "is_program" "is_program" (defArgs (top 34)) (defBody (top 34)) (defScope (top 34)) [] [] f fd
  f_check_program : ∃ f fd, mg "check_program" = some (.ref f) ∧ FunD u.K "check_program" "check_program" (defArgs (top 37)) (defBody (top 37)) (defScope (top 37)) [] [] f fd
  f_is_rule : ∃ f fd, mg "is_rule" = some (.ref f) ∧ FunD u.K "is_rule" "is_rule" (defArgs (top 66)) (defBody (top 66)) (defScope (top 66)) [] [] f fd
  f_check_rule : ∃ f fd, mg "check_rule" = some (.ref f) ∧ FunD u.K "check_rule" "check_rule" (defArgs (top 67)) (defBody (top 67)) (defScope (top 67)) [] [] f fd
  f_is_tuple_of : ∃ f fd, mg "is_tuple_of" = some (.ref f) ∧ FunD u.K "is_tuple_of" "is_tuple_of" (defArgs (top 14)) (defBody (top 14)) (defScope (top 14)) [] [] f fd
  f_is_there : ∃ f fd, mg "is_there" = some (.ref f) ∧ FunD u.K "is_there" "is_there" (defArgs (top 44)) (defBody (top 44)) (defScope (top 44)) [] [] f fd
  f_is_held : ∃ f fd, mg "is_held" = some (.ref f) ∧ FunD u.K "is_held" "is_held" (defArgs (top 43)) (defBody (top 43)) (defScope (top 43)) [] [] f fd
  f_check_outcome : ∃ f fd, mg "check_outcome" = some (.ref f) ∧ FunD u.K "check_outcome" "check_outcome" (defArgs (top 45)) (defBody (top 45)) (defScope (top 45)) [] [] f fd
  m_Reading : ∃ f fd, mg "Reading" = some (.ref (u.cl 0)) ∧ Mk u.K (u.cl 0) f ∧ FunD u.K "__init__" "Reading.__init__" (defArgs (mth 85 0)) (defBody (mth 85 0)) (defScope (mth 85 0)) [] [] f fd
  k_Reading : FldOk u 0 ["stands", "sources", "reads", "fences", "left"]
  f_first_reading : ∃ f fd, mg "first_reading" = some (.ref f) ∧ FunD u.K "first_reading" "first_reading" (defArgs (top 86)) (defBody (top 86)) (defScope (top 86)) [] [] f fd
  f_is_whole : ∃ f fd, mg "is_whole" = some (.ref f) ∧ FunD u.K "is_whole" "is_whole" (defArgs (top 87)) (defBody (top 87)) (defScope (top 87)) [] [] f fd
  f_fences_by : ∃ f fd, mg "fences_by" = some (.ref f) ∧ FunD u.K "fences_by" "fences_by" (defArgs (top 98)) (defBody (top 98)) (defScope (top 98)) [] [] f fd
  f_is_getting : ∃ f fd, mg "is_getting" = some (.ref f) ∧ FunD u.K "is_getting" "is_getting" (defArgs (top 41)) (defBody (top 41)) (defScope (top 41)) [] [] f fd
  f_heads_at : ∃ f fd, mg "heads_at" = some (.ref f) ∧ FunD u.K "heads_at" "heads_at" (defArgs (top 97)) (defBody (top 97)) (defScope (top 97)) [] [] f fd
  f_count_with : ∃ f fd, mg "count_with" = some (.ref f) ∧ FunD u.K "count_with" "count_with" (defArgs (top 99)) (defBody (top 99)) (defScope (top 99)) [] [] f fd
  f_place_of : ∃ f fd, mg "place_of" = some (.ref f) ∧ FunD u.K "place_of" "place_of" (defArgs (top 38)) (defBody (top 38)) (defScope (top 38)) [] [] f fd
  f_has_choice : ∃ f fd, mg "has_choice" = some (.ref f) ∧ FunD u.K "has_choice" "has_choice" (defArgs (top 88)) (defBody (top 88)) (defScope (top 88)) [] [] f fd
  f_leaving_all : ∃ f fd, mg "leaving_all" = some (.ref f) ∧ FunD u.K "leaving_all" "leaving_all" (defArgs (top 92)) (defBody (top 92)) (defScope (top 92)) [] [] f fd
  f_is_putting : ∃ f fd, mg "is_putting" = some (.ref f) ∧ FunD u.K "is_putting" "is_putting" (defArgs (top 40)) (defBody (top 40)) (defScope (top 40)) [] [] f fd
  f_replaced : ∃ f fd, mg "replaced" = some (.ref f) ∧ FunD u.K "replaced" "replaced" (defArgs (top 24)) (defBody (top 24)) (defScope (top 24)) [] [] f fd
  f_stand_behind : ∃ f fd, mg "stand_behind" = some (.ref f) ∧ FunD u.K "stand_behind" "stand_behind" (defArgs (top 82)) (defBody (top 82)) (defScope (top 82)) [] [] f fd
  f_value_put : ∃ f fd, mg "value_put" = some (.ref f) ∧ FunD u.K "value_put" "value_put" (defArgs (top 42)) (defBody (top 42)) (defScope (top 42)) [] [] f fd
  f_done : ∃ f fd, mg "done" = some (.ref f) ∧ FunD u.K "done" "done" (defArgs (top 91)) (defBody (top 91)) (defScope (top 91)) [] [] f fd
  f_choices_of : ∃ f fd, mg "choices_of" = some (.ref f) ∧ FunD u.K "choices_of" "choices_of" (defArgs (top 90)) (defBody (top 90)) (defScope (top 90)) [] [] f fd
  f_readings_behind : ∃ f fd, mg "readings_behind" = some (.ref f) ∧ FunD u.K "readings_behind" "readings_behind" (defArgs (top 89)) (defBody (top 89)) (defScope (top 89)) [] [] f fd
  f_is_waiting : ∃ f fd, mg "is_waiting" = some (.ref f) ∧ FunD u.K "is_waiting" "is_waiting" (defArgs (top 94)) (defBody (top 94)) (defScope (top 94)) [] [] f fd
  f_place_waited : ∃ f fd, mg "place_waited" = some (.ref f) ∧ FunD u.K "place_waited" "place_waited" (defArgs (top 95)) (defBody (top 95)) (defScope (top 95)) [] [] f fd
  f_has_hope : ∃ f fd, mg "has_hope" = some (.ref f) ∧ FunD u.K "has_hope" "has_hope" (defArgs (top 93)) (defBody (top 93)) (defScope (top 93)) [] [] f fd
  f_whole_readings : ∃ f fd, mg "whole_readings" = some (.ref f) ∧ FunD u.K "whole_readings" "whole_readings" (defArgs (top 96)) (defBody (top 96)) (defScope (top 96)) [] [] f fd
  f_all_stories : ∃ f fd, mg "all_stories" = some (.ref f) ∧ FunD u.K "all_stories" "all_stories" (defArgs (top 120)) (defBody (top 120)) (defScope (top 120)) [] [] f fd
  f_stories_for : ∃ f fd, mg "stories_for" = some (.ref f) ∧ FunD u.K "stories_for" "stories_for" (defArgs (top 139)) (defBody (top 139)) (defScope (top 139)) [] [] f fd
  f_judge_story : ∃ f fd, mg "judge_story" = some (.ref f) ∧ FunD u.K "judge_story" "judge_story" (defArgs (top 141)) (defBody (top 141)) (defScope (top 141)) [] [] f fd
  f_reaching : ∃ f fd, mg "reaching" = some (.ref f) ∧ FunD u.K "reaching" "reaching" (defArgs (top 202)) (defBody (top 202)) (defScope (top 202)) [] [] f fd
  f_filled : ∃ f fd, mg "filled" = some (.ref f) ∧ FunD u.K "filled" "filled" (defArgs (top 201)) (defBody (top 201)) (defScope (top 201)) [] [] f fd
  f_with_fences : ∃ f fd, mg "with_fences" = some (.ref f) ∧ FunD u.K "with_fences" "with_fences" (defArgs (top 200)) (defBody (top 200)) (defScope (top 200)) [] [] f fd
  f_is_gap : ∃ f fd, mg "is_gap" = some (.ref f) ∧ FunD u.K "is_gap" "is_gap" (defArgs (top 194)) (defBody (top 194)) (defScope (top 194)) [] [] f fd
  f_check_prices : ∃ f fd, mg "check_prices" = some (.ref f) ∧ FunD u.K "check_prices" "check_prices" (defArgs (top 195)) (defBody (top 195)) (defScope (top 195)) [] [] f fd
  f_count_stories : ∃ f fd, mg "count_stories" = some (.ref f) ∧ FunD u.K "count_stories" "count_stories" (defArgs (top 105)) (defBody (top 105)) (defScope (top 105)) [] [] f fd
  f_cost_of : ∃ f fd, mg "cost_of" = some (.ref f) ∧ FunD u.K "cost_of" "cost_of" (defArgs (top 198)) (defBody (top 198)) (defScope (top 198)) [] [] f fd
  f_all_choices : ∃ f fd, mg "all_choices" = some (.ref f) ∧ FunD u.K "all_choices" "all_choices" (defArgs (top 197)) (defBody (top 197)) (defScope (top 197)) [] [] f fd
  f_choices_by : ∃ f fd, mg "choices_by" = some (.ref f) ∧ FunD u.K "choices_by" "choices_by" (defArgs (top 196)) (defBody (top 196)) (defScope (top 196)) [] [] f fd
  f_stories_by : ∃ f fd, mg "stories_by" = some (.ref f) ∧ FunD u.K "stories_by" "stories_by" (defArgs (top 138)) (defBody (top 138)) (defScope (top 138)) [] [] f fd
  f_judge_lines : ∃ f fd, mg "judge_lines" = some (.ref f) ∧ FunD u.K "judge_lines" "judge_lines" (defArgs (top 184)) (defBody (top 184)) (defScope (top 184)) [] [] f fd
  f_cheaper_than : ∃ f fd, mg "cheaper_than" = some (.ref f) ∧ FunD u.K "cheaper_than" "cheaper_than" (defArgs (top 199)) (defBody (top 199)) (defScope (top 199)) [] [] f fd
  f_cheapest_fences : ∃ f fd, mg "cheapest_fences" = some (.ref f) ∧ FunD u.K "cheapest_fences" "cheapest_fences" (defArgs (top 203)) (defBody (top 203)) (defScope (top 203)) [] [] f fd
  f_least_cost : ∃ f fd, mg "least_cost" = some (.ref f) ∧ FunD u.K "least_cost" "least_cost" (defArgs (top 204)) (defBody (top 204)) (defScope (top 204)) [] [] f fd
  f_is_told : ∃ f fd, mg "is_told" = some (.ref f) ∧ FunD u.K "is_told" "is_told" (defArgs (top 142)) (defBody (top 142)) (defScope (top 142)) [] [] f fd
  f_explore_twins : ∃ f fd, mg "explore_twins" = some (.ref f) ∧ FunD u.K "explore_twins" "explore_twins" (defArgs (top 220)) (defBody (top 220)) (defScope (top 220)) [] [] f fd
  f_compare : ∃ f fd, mg "compare" = some (.ref f) ∧ FunD u.K "compare" "compare" (defArgs (top 221)) (defBody (top 221)) (defScope (top 221)) [] [] f fd
  f_value_of : ∃ f fd, mg "value_of" = some (.ref f) ∧ FunD u.K "value_of" "value_of" (defArgs (top 160)) (defBody (top 160)) (defScope (top 160)) [] [] f fd
  f_is_changeable : ∃ f fd, mg "is_changeable" = some (.ref f) ∧ FunD u.K "is_changeable" "is_changeable" (defArgs (top 161)) (defBody (top 161)) (defScope (top 161)) [] [] f fd
  f_check_rows : ∃ f fd, mg "check_rows" = some (.ref f) ∧ FunD u.K "check_rows" "check_rows" (defArgs (top 162)) (defBody (top 162)) (defScope (top 162)) [] [] f fd
  f_is_harmless : ∃ f fd, mg "is_harmless" = some (.ref f) ∧ FunD u.K "is_harmless" "is_harmless" (defArgs (top 163)) (defBody (top 163)) (defScope (top 163)) [] [] f fd
  f_harm_of : ∃ f fd, mg "harm_of" = some (.ref f) ∧ FunD u.K "harm_of" "harm_of" (defArgs (top 168)) (defBody (top 168)) (defScope (top 168)) [] [] f fd
  f_exchange : ∃ f fd, mg "exchange" = some (.ref f) ∧ FunD u.K "exchange" "exchange" (defArgs (top 166)) (defBody (top 166)) (defScope (top 166)) [] [] f fd
  f_leave_out : ∃ f fd, mg "leave_out" = some (.ref f) ∧ FunD u.K "leave_out" "leave_out" (defArgs (top 167)) (defBody (top 167)) (defScope (top 167)) [] [] f fd
  l__law_others_right : LamF u mg base "_law_others_right"
  f__law_others_right : ∃ f fd, mg "_law_others_right" = some (.ref f) ∧ FunD u.K "_law_others_right" "_law_others_right" (defArgs (top 227)) (defBody (top 227)) (defScope (top 227)) [] [] f fd
  f_frozen : ∃ f fd, mg "frozen" = some (.ref f) ∧ FunD u.K "frozen" "frozen" (defArgs (top 20)) (defBody (top 20)) (defScope (top 20)) [] [] f fd
  m_Story : ∃ f fd, mg "Story" = some (.ref (u.cl 1)) ∧ Mk u.K (u.cl 1) f ∧ FunD u.K "__init__" "Story.__init__" (defArgs (mth 101 0)) (defBody (mth 101 0)) (defScope (mth 101 0)) [] [] f fd
  k_Story : FldOk u 1 ["reads", "puts", "fences"]
  f_story_outcome : ∃ f fd, mg "story_outcome" = some (.ref f) ∧ FunD u.K "story_outcome" "story_outcome" (defArgs (top 106)) (defBody (top 106)) (defScope (top 106)) [] [] f fd
  f_is_let : ∃ f fd, mg "is_let" = some (.ref f) ∧ FunD u.K "is_let" "is_let" (defArgs (top 125)) (defBody (top 125)) (defScope (top 125)) [] [] f fd
  f_let_by : ∃ f fd, mg "let_by" = some (.ref f) ∧ FunD u.K "let_by" "let_by" (defArgs (top 140)) (defBody (top 140)) (defScope (top 140)) [] [] f fd
  f_outcomes_told : ∃ f fd, mg "outcomes_told" = some (.ref f) ∧ FunD u.K "outcomes_told" "outcomes_told" (defArgs (top 143)) (defBody (top 143)) (defScope (top 143)) [] [] f fd
  f_count_let : ∃ f fd, mg "count_let" = some (.ref f) ∧ FunD u.K "count_let" "count_let" (defArgs (top 144)) (defBody (top 144)) (defScope (top 144)) [] [] f fd
  f_explore_race : ∃ f fd, mg "explore_race" = some (.ref f) ∧ FunD u.K "explore_race" "explore_race" (defArgs (top 208)) (defBody (top 208)) (defScope (top 208)) [] [] f fd
  f_judge_race : ∃ f fd, mg "judge_race" = some (.ref f) ∧ FunD u.K "judge_race" "judge_race" (defArgs (top 211)) (defBody (top 211)) (defScope (top 211)) [] [] f fd
  f_is_raceless : ∃ f fd, mg "is_raceless" = some (.ref f) ∧ FunD u.K "is_raceless" "is_raceless" (defArgs (top 212)) (defBody (top 212)) (defScope (top 212)) [] [] f fd
  f_races_of : ∃ f fd, mg "races_of" = some (.ref f) ∧ FunD u.K "races_of" "races_of" (defArgs (top 213)) (defBody (top 213)) (defScope (top 213)) [] [] f fd
  f_is_as_by_one : ∃ f fd, mg "is_as_by_one" = some (.ref f) ∧ FunD u.K "is_as_by_one" "is_as_by_one" (defArgs (top 185)) (defBody (top 185)) (defScope (top 185)) [] [] f fd
  f_program_text : ∃ f fd, mg "program_text" = some (.ref f) ∧ FunD u.K "program_text" "program_text" (defArgs (top 215)) (defBody (top 215)) (defScope (top 215)) [] [] f fd
  f_are_twins : ∃ f fd, mg "are_twins" = some (.ref f) ∧ FunD u.K "are_twins" "are_twins" (defArgs (top 222)) (defBody (top 222)) (defScope (top 222)) [] [] f fd
  l__law_first_right : LamF u mg base "_law_first_right"
  f__law_first_right : ∃ f fd, mg "_law_first_right" = some (.ref f) ∧ FunD u.K "_law_first_right" "_law_first_right" (defArgs (top 226)) (defBody (top 226)) (defScope (top 226)) [] [] f fd
  f_law : ∃ f fd, mg "law" = some (.ref f) ∧ FunD u.K "law" "law" (defArgs (top 228)) (defBody (top 228)) (defScope (top 228)) [] [] f fd
section
variable {u : U} {mg : Str → Option Value} {base : Heap}
theorem ok_is_worded (T : Fx u mg base) : DefOk u mg base "is_worded" ["thing"] 1 d_is_worded 1 [] :=
  DefOk.of (N := ["thing"]) (k := 0) T.f_is_worded ⟨rfl, rfl, rfl, by decide +kernel, rfl, by decide +kernel, by decide +kernel⟩ rfl rfl (fun _ _ _ _ _ _ us hl => match us, hl with | [_], _ => rfl) fun f cdv A outer s H E C hr =>
  (ss_one (s_ret (d_and (d_bi (b_isID C T.uok) T.n_isinstance (sa_cons (dv 0) (sa_cons (d_ty 3 T.n_tuple PyProof.Rows.boot_tuple) sa_nil))) (d_and (d_cmp (c_gt C) (d_bi (b_len C) T.n_len (sa_cons (dv 0) sa_nil)) d_int) (d_one (d_bi (b_isID C T.uok) T.n_isinstance (sa_cons (d_ix C T.kdok (dv 0) d_int) (sa_cons (d_ty 2 T.n_str PyProof.Rows.boot_str) sa_nil))))))))
theorem ok_is_number (T : Fx u mg base) : DefOk u mg base "is_number" ["thing"] 1 d_is_number 1 [] :=
  DefOk.of (N := ["thing"]) (k := 0) T.f_is_number ⟨rfl, rfl, rfl, by decide +kernel, rfl, by decide +kernel, by decide +kernel⟩ rfl rfl (fun _ _ _ _ _ _ us hl => match us, hl with | [_], _ => rfl) fun f cdv A outer s H E C hr =>
  (ss_one (s_ret (d_and (d_bi (b_isID C T.uok) T.n_isinstance (sa_cons (dv 0) (sa_cons (d_ty 0 T.n_int PyProof.Rows.boot_int) sa_nil))) (d_one (d_not (d_bi (b_isID C T.uok) T.n_isinstance (sa_cons (dv 0) (sa_cons (d_ty 1 T.n_bool PyProof.Rows.boot_bool) sa_nil))))))))
theorem ok_is_between (T : Fx u mg base) : DefOk u mg base "is_between" ["thing", "low", "high"] 2 d_is_between 3 [] :=
  DefOk.of (N := ["thing", "low", "high"]) (k := 1) T.f_is_between ⟨rfl, rfl, rfl, by decide +kernel, rfl, by decide +kernel, by decide +kernel⟩ rfl rfl (fun _ _ _ _ _ _ us hl => match us, hl with | [_, _, _], _ => rfl) fun f cdv A outer s H E C hr =>
  (ss_one (s_ret (d_and (d_call C (ok_is_number T) (hr.mono (by decide)) (sa_cons (dv 0) sa_nil)) (d_one (d_chain (c_le C) (c_le C) (dv 1) (dv 0) (dv 2))))))
theorem ok_has_numbers (T : Fx u mg base) : DefOk u mg base "has_numbers" ["thing", "limits"] 3 d_has_numbers 2 [] :=
  DefOk.of (N := ["thing", "limits", "number", "limit"]) (k := 2) T.f_has_numbers ⟨rfl, rfl, rfl, by decide +kernel, rfl, by decide +kernel, by decide +kernel⟩ rfl rfl (fun _ _ _ _ _ _ us hl => match us, hl with | [_, _], _ => rfl) fun f cdv A outer s H E C hr =>
  (ss_cons (s_if (t_cmp (c_ne C) (d_bi (b_len C) T.n_len (sa_cons (dv 0) sa_nil)) (d_op (o_add C) (d_bi (b_len C) T.n_len (sa_cons (dv 1) sa_nil)) d_int)) (ss_one (s_ret d_bl)) ss_nil)
    (ss_one (s_ret (d_allC [("number", 2), ("limit", 3)] C T.n_all (by kernel_rfl) (gok_tup (gsok_cons (gok_name (by decide)) (gsok_cons (gok_name (by decide)) gsok_nil))) (i_zipX C T.n_zip (sa_cons (d_slice C (dv 0) (d_some d_int) d_none) (sa_cons (dv 1) sa_nil))) (fun _ _ _ _ _ C => (g_tup C (pgs_cons (g_name C 2) (pgs_cons (g_name C 3) pgs_nil)))) (fun _ _ _ _ _ C => d_yes) (fun _ _ _ _ _ C => (d_call C (ok_is_between T) (hr.mono (by decide)) (sa_cons (dv 2) (sa_cons d_int (sa_cons (dv 3) sa_nil)))))))))
theorem ok_is_row (T : Fx u mg base) : DefOk u mg base "is_row" ["thing", "behind"] 4 d_is_row 2 [] :=
  DefOk.of (N := ["thing", "behind"]) (k := 3) T.f_is_row ⟨rfl, rfl, rfl, by decide +kernel, rfl, by decide +kernel, by decide +kernel⟩ rfl rfl (fun _ _ _ _ _ _ us hl => match us, hl with | [_, _], _ => rfl) fun f cdv A outer s H E C hr =>
  (ss_cons (s_if (t_w (w_or (t_not (t_val (d_call C (ok_is_worded T) (hr.mono (by decide)) (sa_cons (dv 0) sa_nil)))) (w_or (t_cmp (c_notIn C T.kdok) (d_ix C T.kdok (dv 0) d_int) (d_con T.c_FORMS)) (w_or1 (t_not (t_val (d_call C (ok_has_numbers T) (hr.mono (by decide)) (sa_cons (dv 0) (sa_cons (d_ix C T.kdok (d_con T.c_FORMS) (d_ix C T.kdok (dv 0) d_int)) sa_nil))))))))) (ss_one (s_ret d_bl)) ss_nil)
    (ss_one (s_ret (d_or (d_cmp (c_ne C) (d_ix C T.kdok (dv 0) d_int) d_str) (d_one (d_chain (c_le C) (c_le C) d_int (d_ix C T.kdok (dv 0) d_int) (dv 1)))))))
theorem ok_is_hand (T : Fx u mg base) : DefOk u mg base "is_hand" ["thing"] 5 d_is_hand 1 [] :=
  DefOk.of (N := ["thing", "at", "row"]) (k := 4) T.f_is_hand ⟨rfl, rfl, rfl, by decide +kernel, rfl, by decide +kernel, by decide +kernel⟩ rfl rfl (fun _ _ _ _ _ _ us hl => match us, hl with | [_], _ => rfl) fun f cdv A outer s H E C hr =>
  (ss_cons (s_if (t_w (w_or (t_not (t_val (d_bi (b_isID C T.uok) T.n_isinstance (sa_cons (dv 0) (sa_cons (d_ty 3 T.n_tuple PyProof.Rows.boot_tuple) sa_nil))))) (w_or1 (t_cmp (c_gt C) (d_bi (b_len C) T.n_len (sa_cons (dv 0) sa_nil)) (d_con T.c_ROWS))))) (ss_one (s_ret d_bl)) ss_nil)
    (ss_one (s_ret (d_allC [("at", 1), ("row", 2)] C T.n_all (by kernel_rfl) (gok_tup (gsok_cons (gok_name (by decide)) (gsok_cons (gok_name (by decide)) gsok_nil))) (i_enum C T.n_enumerate (sa_cons (dv 0) sa_nil)) (fun _ _ _ _ _ C => (g_tup C (pgs_cons (g_name C 1) (pgs_cons (g_name C 2) pgs_nil)))) (fun _ _ _ _ _ C => d_yes) (fun _ _ _ _ _ C => (d_call C (ok_is_row T) (hr.mono (by decide)) (sa_cons (dv 2) (sa_cons (d_op (o_sub C) (d_op (o_sub C) (d_bi (b_len C) T.n_len (sa_cons (dv 0) sa_nil)) (dv 1)) d_int) sa_nil))))))))
theorem ok_is_program (T : Fx u mg base) : DefOk u mg base "is_program" ["thing"] 6 d_is_program 1 [] :=
  DefOk.of (N := ["thing", "hand"]) (k := 5) T.f_is_program ⟨rfl, rfl, rfl, by decide +kernel, rfl, by decide +kernel, by decide +kernel⟩ rfl rfl (fun _ _ _ _ _ _ us hl => match us, hl with | [_], _ => rfl) fun f cdv A outer s H E C hr =>
  (ss_one (s_ret (d_and (d_bi (b_isID C T.uok) T.n_isinstance (sa_cons (dv 0) (sa_cons (d_ty 3 T.n_tuple PyProof.Rows.boot_tuple) sa_nil))) (d_and (d_chain (c_le C) (c_le C) d_int (d_bi (b_len C) T.n_len (sa_cons (dv 0) sa_nil)) (d_con T.c_HANDS)) (d_one (d_allC [("hand", 1)] C T.n_all (by kernel_rfl) (gok_name (by decide)) (i_seq C (dv 0)) (fun _ _ _ _ _ C => (g_name C 1)) (fun _ _ _ _ _ C => d_yes) (fun _ _ _ _ _ C => (d_call C (ok_is_hand T) (hr.mono (by decide)) (sa_cons (dv 1) sa_nil)))))))))
theorem ok_check_program (T : Fx u mg base) : DefOk u mg base "check_program" ["program"] 7 d_check_program 1 [] :=
  DefOk.of (N := ["program"]) (k := 6) T.f_check_program ⟨rfl, rfl, rfl, by decide +kernel, rfl, by decide +kernel, by decide +kernel⟩ rfl rfl (fun _ _ _ _ _ _ us hl => match us, hl with | [_], _ => rfl) fun f cdv A outer s H E C hr =>
  (ss_one (s_if (t_not (t_val (d_call C (ok_is_program T) (hr.mono (by decide)) (sa_cons (dv 0) sa_nil)))) (ss_one (s_raise C T.e_BadProgram)) ss_nil))
theorem ok_is_rule (T : Fx u mg base) : DefOk u mg base "is_rule" ["thing"] 1 d_is_rule 1 [] :=
  DefOk.of (N := ["thing"]) (k := 0) T.f_is_rule ⟨rfl, rfl, rfl, by decide +kernel, rfl, by decide +kernel, by decide +kernel⟩ rfl rfl (fun _ _ _ _ _ _ us hl => match us, hl with | [_], _ => rfl) fun f cdv A outer s H E C hr =>
  (ss_one (s_ret (d_and (d_bi (b_isID C T.uok) T.n_isinstance (sa_cons (dv 0) (sa_cons (d_ty 2 T.n_str PyProof.Rows.boot_str) sa_nil))) (d_one (d_cmp (c_in C T.kdok) (dv 0) (d_con T.c_RULES))))))
theorem ok_check_rule (T : Fx u mg base) : DefOk u mg base "check_rule" ["rule"] 2 d_check_rule 1 [] :=
  DefOk.of (N := ["rule"]) (k := 1) T.f_check_rule ⟨rfl, rfl, rfl, by decide +kernel, rfl, by decide +kernel, by decide +kernel⟩ rfl rfl (fun _ _ _ _ _ _ us hl => match us, hl with | [_], _ => rfl) fun f cdv A outer s H E C hr =>
  (ss_one (s_if (t_not (t_val (d_call C (ok_is_rule T) (hr.mono (by decide)) (sa_cons (dv 0) sa_nil)))) (ss_one (s_raise C T.e_BadRule)) ss_nil))
theorem ok_is_tuple_of (T : Fx u mg base) : DefOk u mg base "is_tuple_of" ["thing", "many"] 1 d_is_tuple_of 2 [] :=
  DefOk.of (N := ["thing", "many"]) (k := 0) T.f_is_tuple_of ⟨rfl, rfl, rfl, by decide +kernel, rfl, by decide +kernel, by decide +kernel⟩ rfl rfl (fun _ _ _ _ _ _ us hl => match us, hl with | [_, _], _ => rfl) fun f cdv A outer s H E C hr =>
  (ss_one (s_ret (d_and (d_bi (b_isID C T.uok) T.n_isinstance (sa_cons (dv 0) (sa_cons (d_ty 3 T.n_tuple PyProof.Rows.boot_tuple) sa_nil))) (d_one (d_cmp (c_eq C) (d_bi (b_len C) T.n_len (sa_cons (dv 0) sa_nil)) (dv 1))))))
theorem ok_is_there (T : Fx u mg base) : DefOk u mg base "is_there" ["thing"] 3 d_is_there 1 [] :=
  DefOk.of (N := ["thing", "value"]) (k := 2) T.f_is_there ⟨rfl, rfl, rfl, by decide +kernel, rfl, by decide +kernel, by decide +kernel⟩ rfl rfl (fun _ _ _ _ _ _ us hl => match us, hl with | [_], _ => rfl) fun f cdv A outer s H E C hr =>
  (ss_one (s_ret (d_and (d_call C (ok_is_tuple_of T) (hr.mono (by decide)) (sa_cons (dv 0) (sa_cons (d_con T.c_PLACES) sa_nil))) (d_one (d_allC [("value", 1)] C T.n_all (by kernel_rfl) (gok_name (by decide)) (i_seq C (dv 0)) (fun _ _ _ _ _ C => (g_name C 1)) (fun _ _ _ _ _ C => d_yes) (fun _ _ _ _ _ C => (d_call C (ok_is_between T) (hr.mono (by decide)) (sa_cons (dv 1) (sa_cons d_int (sa_cons (d_con T.c_HIGHEST_VALUE) sa_nil))))))))))
theorem ok_is_held (T : Fx u mg base) : DefOk u mg base "is_held" ["thing"] 3 d_is_held 1 [] :=
  DefOk.of (N := ["thing", "value"]) (k := 2) T.f_is_held ⟨rfl, rfl, rfl, by decide +kernel, rfl, by decide +kernel, by decide +kernel⟩ rfl rfl (fun _ _ _ _ _ _ us hl => match us, hl with | [_], _ => rfl) fun f cdv A outer s H E C hr =>
  (ss_one (s_ret (d_and (d_call C (ok_is_tuple_of T) (hr.mono (by decide)) (sa_cons (dv 0) (sa_cons d_int sa_nil))) (d_one (d_allC [("value", 1)] C T.n_all (by kernel_rfl) (gok_name (by decide)) (i_seq C (dv 0)) (fun _ _ _ _ _ C => (g_name C 1)) (fun _ _ _ _ _ C => d_yes) (fun _ _ _ _ _ C => (d_call C (ok_is_between T) (hr.mono (by decide)) (sa_cons (dv 1) (sa_cons d_int (sa_cons (d_con T.c_HIGHEST_VALUE) sa_nil))))))))))
theorem ok_check_outcome (T : Fx u mg base) : DefOk u mg base "check_outcome" ["program", "outcome"] 4 d_check_outcome 2 [] :=
  DefOk.of (N := ["program", "outcome", "held"]) (k := 3) T.f_check_outcome ⟨rfl, rfl, rfl, by decide +kernel, rfl, by decide +kernel, by decide +kernel⟩ rfl rfl (fun _ _ _ _ _ _ us hl => match us, hl with | [_, _], _ => rfl) fun f cdv A outer s H E C hr =>
  (ss_cons (s_if (t_w (w_or (t_not (t_val (d_call C (ok_is_tuple_of T) (hr.mono (by decide)) (sa_cons (dv 1) (sa_cons d_int sa_nil))))) (w_or1 (t_not (t_val (d_call C (ok_is_tuple_of T) (hr.mono (by decide)) (sa_cons (d_ix C T.kdok (dv 1) d_int) (sa_cons (d_bi (b_len C) T.n_len (sa_cons (dv 0) sa_nil)) sa_nil)))))))) (ss_one (s_raise C T.e_BadOutcome)) ss_nil)
    (ss_one (s_if (t_w (w_or (t_not (t_val (d_allC [("held", 2)] C T.n_all (by kernel_rfl) (gok_name (by decide)) (i_seq C (d_ix C T.kdok (dv 1) d_int)) (fun _ _ _ _ _ C => (g_name C 2)) (fun _ _ _ _ _ C => d_yes) (fun _ _ _ _ _ C => (d_call C (ok_is_held T) (hr.mono (by decide)) (sa_cons (dv 2) sa_nil)))))) (w_or1 (t_not (t_val (d_call C (ok_is_there T) (hr.mono (by decide)) (sa_cons (d_ix C T.kdok (dv 1) d_int) sa_nil))))))) (ss_one (s_raise C T.e_BadOutcome)) ss_nil)))
theorem ok_Reading___init__ (T : Fx u mg base) : MkOk u mg base "Reading" 0 ["self", "stands", "sources", "reads", "fences", "left"] 1 d_Reading___init__ 6 :=
  MkOk.of (N := ["self", "stands", "sources", "reads", "fences", "left"]) (k := 0) T.m_Reading ⟨rfl, rfl, rfl, by decide +kernel, rfl, by decide +kernel, by decide +kernel⟩ rfl rfl (fun _ _ _ _ _ _ us hl => match us, hl with | [_, _, _, _, _, _], _ => rfl) fun f cdv A outer s H E C hr =>
  (ss_cons (s_fld 0 C T.k_Reading (dv 0) (dv 1) rfl (by decide) (by decide))
    (ss_cons (s_fld 1 C T.k_Reading (dv 0) (dv 2) rfl (by decide) (by decide))
    (ss_cons (s_fld 2 C T.k_Reading (dv 0) (dv 3) rfl (by decide) (by decide))
    (ss_cons (s_fld 3 C T.k_Reading (dv 0) (dv 4) rfl (by decide) (by decide))
    (ss_one (s_fld 4 C T.k_Reading (dv 0) (dv 5) rfl (by decide) (by decide)))))))
theorem ok_first_reading (T : Fx u mg base) : DefOk u mg base "first_reading" ["program"] 3 d_first_reading 1 [] :=
  DefOk.of (N := ["program", "stands", "sources", "_", "place"]) (k := 2) T.f_first_reading ⟨rfl, rfl, rfl, by decide +kernel, rfl, by decide +kernel, by decide +kernel⟩ rfl rfl (fun _ _ _ _ _ _ us hl => match us, hl with | [_], _ => rfl) fun f cdv A outer s H E C hr =>
  (ss_cons (s_setLc 1 [("_", 3)] C rfl rfl (sw_true rfl rfl rfl (by decide +kernel)) (by kernel_rfl) (gok_name (by decide)) (i_seq C (dv 0)) (fun _ _ _ _ _ C => (g_name C 3)) (fun _ _ _ _ _ C => d_yes) (fun _ _ _ _ _ C => (d_tup (sa_cons d_int (sa_cons (d_con T.c_NOTHING_HELD) sa_nil)))))
    (ss_cons (s_setLc 2 [("place", 4)] C rfl rfl (sw_true rfl rfl rfl (by decide +kernel)) (by kernel_rfl) (gok_name (by decide)) (i_range1 (pr := default) T.n_range (d_con T.c_PLACES)) (fun _ _ _ _ _ C => (g_name C 4)) (fun _ _ _ _ _ C => d_yes) (fun _ _ _ _ _ C => (d_tup (sa_cons (d_tup (sa_cons (d_tup (sa_cons d_non (sa_cons (dv 4) sa_nil))) (sa_cons d_int sa_nil))) sa_nil))))
    (ss_one (s_ret (d_make C (ok_Reading___init__ T) (hr.mono (by decide)) (sa_cons (dv 1) (sa_cons (dv 2) (sa_cons (d_tup sa_nil) (sa_cons (d_tup sa_nil) (sa_cons (d_lc [("_", 3)] C (by kernel_rfl) (gok_name (by decide)) (i_seq C (dv 0)) (fun _ _ _ _ _ C => (g_name C 3)) (fun _ _ _ _ _ C => d_yes) (fun _ _ _ _ _ C => d_int)) sa_nil))))))))))
theorem ok_is_whole (T : Fx u mg base) : DefOk u mg base "is_whole" ["program", "reading"] 1 d_is_whole 2 [] :=
  DefOk.of (N := ["program", "reading", "at", "_", "rows"]) (k := 0) T.f_is_whole ⟨rfl, rfl, rfl, by decide +kernel, rfl, by decide +kernel, by decide +kernel⟩ rfl rfl (fun _ _ _ _ _ _ us hl => match us, hl with | [_, _], _ => rfl) fun f cdv A outer s H E C hr =>
  (ss_one (s_ret (d_not (d_anyC [("at", 2), ("_", 3), ("rows", 4)] C T.n_any (by kernel_rfl) (gok_tup (gsok_cons (gok_tup (gsok_cons (gok_name (by decide)) (gsok_cons (gok_name (by decide)) gsok_nil))) (gsok_cons (gok_name (by decide)) gsok_nil))) (i_zipX C T.n_zip (sa_cons (d_fld C T.a_stands (dv 1)) (sa_cons (dv 0) sa_nil))) (fun _ _ _ _ _ C => (g_tup C (pgs_cons (g_tup C (pgs_cons (g_name C 2) (pgs_cons (g_name C 3) pgs_nil))) (pgs_cons (g_name C 4) pgs_nil)))) (fun _ _ _ _ _ C => d_yes) (fun _ _ _ _ _ C => (d_cmp (c_lt C) (dv 2) (d_bi (b_len C) T.n_len (sa_cons (dv 4) sa_nil))))))))
theorem ok_fences_by (T : Fx u mg base) : DefOk u mg base "fences_by" ["program", "reading"] 1 d_fences_by 2 [] :=
  DefOk.of (N := ["program", "reading", "hand", "doing"]) (k := 0) T.f_fences_by ⟨rfl, rfl, rfl, by decide +kernel, rfl, by decide +kernel, by decide +kernel⟩ rfl rfl (fun _ _ _ _ _ _ us hl => match us, hl with | [_, _], _ => rfl) fun f cdv A outer s H E C hr =>
  (ss_one (s_ret (d_lc [("hand", 2)] C (by kernel_rfl) (gok_name (by decide)) (i_range1 (pr := default) T.n_range (d_bi (b_len C) T.n_len (sa_cons (dv 0) sa_nil))) (fun _ _ _ _ _ C => (g_name C 2)) (fun _ _ _ _ _ C => d_yes) (fun _ _ _ _ _ C => (d_lc [("doing", 3)] C (by kernel_rfl) (gok_name (by decide)) (i_seq C (d_fld C T.a_fences (dv 1))) (fun _ _ _ _ _ C => (g_name C 3)) (fun _ _ _ _ _ C => (d_if1 (t_cmp (c_eq C) (d_ix C T.kdok (dv 3) d_int) (dv 2)))) (fun _ _ _ _ _ C => (dv 3)))))))
theorem ok_is_getting (T : Fx u mg base) : DefOk u mg base "is_getting" ["row"] 1 d_is_getting 1 [] :=
  DefOk.of (N := ["row"]) (k := 0) T.f_is_getting ⟨rfl, rfl, rfl, by decide +kernel, rfl, by decide +kernel, by decide +kernel⟩ rfl rfl (fun _ _ _ _ _ _ us hl => match us, hl with | [_], _ => rfl) fun f cdv A outer s H E C hr =>
  (ss_one (s_ret (d_cmp (c_in C T.kdok) (d_ix C T.kdok (dv 0) d_int) (d_tup (sa_cons d_str (sa_cons d_str sa_nil))))))
theorem ok_heads_at (T : Fx u mg base) : DefOk u mg base "heads_at" ["program", "reading", "place"] 2 d_heads_at 3 [] :=
  DefOk.of (N := ["program", "reading", "place", "doings", "doing", "_", "hand", "at"]) (k := 1) T.f_heads_at ⟨rfl, rfl, rfl, by decide +kernel, rfl, by decide +kernel, by decide +kernel⟩ rfl rfl (fun _ _ _ _ _ _ us hl => match us, hl with | [_, _, _], _ => rfl) fun f cdv A outer s H E C hr =>
  (ss_cons (s_setLc 3 [("doing", 4), ("_", 5)] C rfl rfl (sw_true rfl rfl rfl (by decide +kernel)) (by kernel_rfl) (gok_tup (gsok_cons (gok_name (by decide)) (gsok_cons (gok_name (by decide)) gsok_nil))) (i_seq C (d_slice C (d_ix C T.kdok (d_fld C T.a_sources (dv 1)) (dv 2)) (d_some d_int) d_none)) (fun _ _ _ _ _ C => (g_tup C (pgs_cons (g_name C 4) (pgs_cons (g_name C 5) pgs_nil)))) (fun _ _ _ _ _ C => d_yes) (fun _ _ _ _ _ C => (dv 4)))
    (ss_one (s_ret (d_lc [("hand", 6), ("at", 7)] C (by kernel_rfl) (gok_tup (gsok_cons (gok_name (by decide)) (gsok_cons (gok_name (by decide)) gsok_nil))) (i_seq C (dv 3)) (fun _ _ _ _ _ C => (g_tup C (pgs_cons (g_name C 6) (pgs_cons (g_name C 7) pgs_nil)))) (fun _ _ _ _ _ C => (d_if1 (t_not (t_val (d_call C (ok_is_getting T) (hr.mono (by decide)) (sa_cons (d_ix C T.kdok (d_ix C T.kdok (dv 0) (dv 6)) (dv 7)) sa_nil)))))) (fun _ _ _ _ _ C => (d_tup (sa_cons (dv 6) (sa_cons (dv 7) sa_nil))))))))
theorem ok_count_with (T : Fx u mg base) : DefOk u mg base "count_with" ["program", "rule", "reading"] 3 d_count_with 3 [] :=
  DefOk.of (N := ["program", "rule", "reading", "many", "place", "fences"]) (k := 2) T.f_count_with ⟨rfl, rfl, rfl, by decide +kernel, rfl, by decide +kernel, by decide +kernel⟩ rfl rfl (fun _ _ _ _ _ _ us hl => match us, hl with | [_, _, _], _ => rfl) fun f cdv A outer s H E C hr =>
  (ss_cons (s_asg [3] C (gok_name (by decide)) (g_name C 3) d_int)
    (ss_cons (s_for [4] C (gok_name (by decide)) (i_range1 (pr := default) T.n_range (d_con T.c_PLACES)) (g_name C 4) (ss_one (s_asg [3] C (gok_name (by decide)) (g_name C 3) (d_op (o_mul C) (dv 3) (d_fact T.factorial (sa_cons (d_bi (b_len C) T.n_len (sa_cons (d_call C (ok_heads_at T) (hr.mono (by decide)) (sa_cons (dv 0) (sa_cons (dv 2) (sa_cons (dv 4) sa_nil)))) sa_nil)) sa_nil))))))
    (ss_cons (s_if (t_cmp (c_ne C) (dv 1) d_str) (ss_one (s_ret (dv 3))) ss_nil)
    (ss_cons (s_asg [3] C (gok_name (by decide)) (g_name C 3) (d_op (o_mul C) (dv 3) (d_fact T.factorial (sa_cons (d_bi (b_len C) T.n_len (sa_cons (d_fld C T.a_fences (dv 2)) sa_nil)) sa_nil))))
    (ss_cons (s_for [5] C (gok_name (by decide)) (i_seq C (d_call C (ok_fences_by T) (hr.mono (by decide)) (sa_cons (dv 0) (sa_cons (dv 2) sa_nil)))) (g_name C 5) (ss_one (s_asg [3] C (gok_name (by decide)) (g_name C 3) (d_op (o_div C) (dv 3) (d_fact T.factorial (sa_cons (d_bi (b_len C) T.n_len (sa_cons (dv 5) sa_nil)) sa_nil))))))
    (ss_one (s_ret (dv 3))))))))
theorem ok_place_of (T : Fx u mg base) : DefOk u mg base "place_of" ["row"] 1 d_place_of 1 [] :=
  DefOk.of (N := ["row"]) (k := 0) T.f_place_of ⟨rfl, rfl, rfl, by decide +kernel, rfl, by decide +kernel, by decide +kernel⟩ rfl rfl (fun _ _ _ _ _ _ us hl => match us, hl with | [_], _ => rfl) fun f cdv A outer s H E C hr =>
  (ss_cons (s_if (t_cmp (c_in C T.kdok) (d_ix C T.kdok (dv 0) d_int) (d_tup (sa_cons d_str (sa_cons d_str sa_nil)))) (ss_one (s_ret (d_ix C T.kdok (dv 0) d_int))) ss_nil)
    (ss_cons (s_if (t_cmp (c_in C T.kdok) (d_ix C T.kdok (dv 0) d_int) (d_tup (sa_cons d_str (sa_cons d_str sa_nil)))) (ss_one (s_ret (d_ix C T.kdok (dv 0) d_int))) ss_nil)
    (ss_one (s_ret d_non))))
theorem ok_has_choice (T : Fx u mg base) : DefOk u mg base "has_choice" ["program", "reading", "hand"] 2 d_has_choice 3 [] :=
  DefOk.of (N := ["program", "reading", "hand", "at", "row"]) (k := 1) T.f_has_choice ⟨rfl, rfl, rfl, by decide +kernel, rfl, by decide +kernel, by decide +kernel⟩ rfl rfl (fun _ _ _ _ _ _ us hl => match us, hl with | [_, _, _], _ => rfl) fun f cdv A outer s H E C hr =>
  (ss_cons (s_asg [3] C (gok_name (by decide)) (g_name C 3) (d_ix C T.kdok (d_ix C T.kdok (d_fld C T.a_stands (dv 1)) (dv 2)) d_int))
    (ss_cons (s_if (t_cmp (c_eq C) (dv 3) (d_bi (b_len C) T.n_len (sa_cons (d_ix C T.kdok (dv 0) (dv 2)) sa_nil))) (ss_one (s_ret d_bl)) ss_nil)
    (ss_cons (s_asg [4] C (gok_name (by decide)) (g_name C 4) (d_ix C T.kdok (d_ix C T.kdok (dv 0) (dv 2)) (dv 3)))
    (ss_one (s_ret (d_or (d_not (d_call C (ok_is_getting T) (hr.mono (by decide)) (sa_cons (dv 4) sa_nil))) (d_one (d_cmp (c_lt C) (d_ix C T.kdok (d_fld C T.a_left (dv 1)) (dv 2)) (d_bi (b_len C) T.n_len (sa_cons (d_ix C T.kdok (d_fld C T.a_sources (dv 1)) (d_call C (ok_place_of T) (hr.mono (by decide)) (sa_cons (dv 4) sa_nil))) sa_nil))))))))))
theorem ok_leaving_all (T : Fx u mg base) : DefOk u mg base "leaving_all" ["reading", "hand", "place"] 3 d_leaving_all 3 [] :=
  DefOk.of (N := ["reading", "hand", "place", "leaving"]) (k := 2) T.f_leaving_all ⟨rfl, rfl, rfl, by decide +kernel, rfl, by decide +kernel, by decide +kernel⟩ rfl rfl (fun _ _ _ _ _ _ us hl => match us, hl with | [_, _, _], _ => rfl) fun f cdv A outer s H E C hr =>
  (ss_cons (s_asg [3] C (gok_name (by decide)) (g_name C 3) (d_bi (b_list C) T.n_list (sa_cons (d_fld C T.a_left (dv 0)) sa_nil)))
    (ss_cons (s_sub C (dv 3) (dv 1) (d_bi (b_len C) T.n_len (sa_cons (d_ix C T.kdok (d_fld C T.a_sources (dv 0)) (dv 2)) sa_nil)))
    (ss_one (s_ret (d_make C (ok_Reading___init__ T) (hr.mono (by decide)) (sa_cons (d_fld C T.a_stands (dv 0)) (sa_cons (d_fld C T.a_sources (dv 0)) (sa_cons (d_fld C T.a_reads (dv 0)) (sa_cons (d_fld C T.a_fences (dv 0)) (sa_cons (dv 3) sa_nil))))))))))
theorem ok_is_putting (T : Fx u mg base) : DefOk u mg base "is_putting" ["row"] 1 d_is_putting 1 [] :=
  DefOk.of (N := ["row"]) (k := 0) T.f_is_putting ⟨rfl, rfl, rfl, by decide +kernel, rfl, by decide +kernel, by decide +kernel⟩ rfl rfl (fun _ _ _ _ _ _ us hl => match us, hl with | [_], _ => rfl) fun f cdv A outer s H E C hr =>
  (ss_one (s_ret (d_cmp (c_in C T.kdok) (d_ix C T.kdok (dv 0) d_int) (d_tup (sa_cons d_str (sa_cons d_str (sa_cons d_str sa_nil)))))))
theorem ok_replaced (T : Fx u mg base) : DefOk u mg base "replaced" ["row", "at", "thing"] 1 d_replaced 3 [] :=
  DefOk.of (N := ["row", "at", "thing"]) (k := 0) T.f_replaced ⟨rfl, rfl, rfl, by decide +kernel, rfl, by decide +kernel, by decide +kernel⟩ rfl rfl (fun _ _ _ _ _ _ us hl => match us, hl with | [_, _, _], _ => rfl) fun f cdv A outer s H E C hr =>
  (ss_one (s_ret (d_op (o_add C) (d_op (o_add C) (d_slice C (dv 0) d_none (d_some (dv 1))) (d_tup (sa_cons (dv 2) sa_nil))) (d_slice C (dv 0) (d_some (d_op (o_add C) (dv 1) d_int)) d_none))))
theorem ok_stand_behind (T : Fx u mg base) : DefOk u mg base "stand_behind" ["stand", "row", "got"] 2 d_stand_behind 3 [] :=
  DefOk.of (N := ["stand", "row", "got", "at", "held"]) (k := 1) T.f_stand_behind ⟨rfl, rfl, rfl, by decide +kernel, rfl, by decide +kernel, by decide +kernel⟩ rfl rfl (fun _ _ _ _ _ _ us hl => match us, hl with | [_, _, _], _ => rfl) fun f cdv A outer s H E C hr =>
  (ss_cons (s_asg [3, 4] C (gok_tup (gsok_cons (gok_name (by decide)) (gsok_cons (gok_name (by decide)) gsok_nil))) (g_tup C (pgs_cons (g_name C 3) (pgs_cons (g_name C 4) pgs_nil))) (dv 0))
    (ss_cons (s_if (t_w (w_and (t_cmp (c_eq C) (d_ix C T.kdok (dv 1) d_int) d_str) (w_and1 (t_cmp (c_ne C) (d_ix C T.kdok (dv 4) (d_ix C T.kdok (dv 1) d_int)) (d_ix C T.kdok (dv 1) d_int))))) (ss_one (s_ret (d_tup (sa_cons (d_op (o_add C) (d_op (o_add C) (dv 3) d_int) (d_ix C T.kdok (dv 1) d_int)) (sa_cons (dv 4) sa_nil))))) ss_nil)
    (ss_cons (s_if (t_val (d_call C (ok_is_getting T) (hr.mono (by decide)) (sa_cons (dv 1) sa_nil))) (ss_one (s_ret (d_tup (sa_cons (d_op (o_add C) (dv 3) d_int) (sa_cons (d_call C (ok_replaced T) (hr.mono (by decide)) (sa_cons (dv 4) (sa_cons (d_ix C T.kdok (dv 1) d_int) (sa_cons (dv 2) sa_nil)))) sa_nil))))) ss_nil)
    (ss_one (s_ret (d_tup (sa_cons (d_op (o_add C) (dv 3) d_int) (sa_cons (dv 4) sa_nil))))))))
theorem ok_value_put (T : Fx u mg base) : DefOk u mg base "value_put" ["row", "held"] 1 d_value_put 2 [] :=
  DefOk.of (N := ["row", "held"]) (k := 0) T.f_value_put ⟨rfl, rfl, rfl, by decide +kernel, rfl, by decide +kernel, by decide +kernel⟩ rfl rfl (fun _ _ _ _ _ _ us hl => match us, hl with | [_, _], _ => rfl) fun f cdv A outer s H E C hr =>
  (ss_cons (s_if (t_cmp (c_eq C) (d_ix C T.kdok (dv 0) d_int) d_str) (ss_one (s_ret (d_ix C T.kdok (dv 1) (d_ix C T.kdok (dv 0) d_int)))) ss_nil)
    (ss_one (s_ret (d_ix C T.kdok (dv 0) d_neg1))))
theorem ok_done (T : Fx u mg base) : DefOk u mg base "done" ["program", "reading", "hand", "source"] 3 d_done 4 [] :=
  DefOk.of (N := ["program", "reading", "hand", "source", "at", "held", "row", "doing", "stands", "sources", "reads", "fences", "got", "freed"]) (k := 2) T.f_done ⟨rfl, rfl, rfl, by decide +kernel, rfl, by decide +kernel, by decide +kernel⟩ rfl rfl (fun _ _ _ _ _ _ us hl => match us, hl with | [_, _, _, _], _ => rfl) fun f cdv A outer s H E C hr =>
  (ss_cons (s_asg [4, 5] C (gok_tup (gsok_cons (gok_name (by decide)) (gsok_cons (gok_name (by decide)) gsok_nil))) (g_tup C (pgs_cons (g_name C 4) (pgs_cons (g_name C 5) pgs_nil))) (d_ix C T.kdok (d_fld C T.a_stands (dv 1)) (dv 2)))
    (ss_cons (s_asg [6] C (gok_name (by decide)) (g_name C 6) (d_ix C T.kdok (d_ix C T.kdok (dv 0) (dv 2)) (dv 4)))
    (ss_cons (s_asg [7] C (gok_name (by decide)) (g_name C 7) (d_tup (sa_cons (dv 2) (sa_cons (dv 4) sa_nil))))
    (ss_cons (s_par2 8 9 C rfl rfl (by decide) rfl rfl (sa_cons (d_bi (b_list C) T.n_list (sa_cons (d_fld C T.a_stands (dv 1)) sa_nil)) (sa_cons (d_bi (b_list C) T.n_list (sa_cons (d_fld C T.a_sources (dv 1)) sa_nil)) sa_nil)) rfl)
    (ss_cons (s_par2 10 11 C rfl rfl (by decide) rfl rfl (sa_cons (d_fld C T.a_reads (dv 1)) (sa_cons (d_fld C T.a_fences (dv 1)) sa_nil)) rfl)
    (ss_cons (s_asg [12] C (gok_name (by decide)) (g_name C 12) d_non)
    (ss_cons (s_if (t_notN (dv 3)) (ss_cons (s_asg [12] C (gok_name (by decide)) (g_name C 12) (d_ix C T.kdok (dv 3) d_int))
    (ss_one (s_asg [10] C (gok_name (by decide)) (g_name C 10) (d_op (o_add C) (dv 10) (d_tup (sa_cons (d_tup (sa_cons (dv 7) (sa_cons (d_ix C T.kdok (dv 3) d_int) sa_nil))) sa_nil)))))) ss_nil)
    (ss_cons (s_if (t_val (d_call C (ok_is_putting T) (hr.mono (by decide)) (sa_cons (dv 6) sa_nil))) (ss_one (s_sub C (dv 9) (d_e0 C fun C => (d_call C (ok_place_of T) (hr.mono (by decide)) (sa_cons (dv 6) sa_nil))) (d_op (o_add C) (d_ix C T.kdok (dv 9) (d_call C (ok_place_of T) (hr.mono (by decide)) (sa_cons (dv 6) sa_nil))) (d_tup (sa_cons (d_tup (sa_cons (dv 7) (sa_cons (d_call C (ok_value_put T) (hr.mono (by decide)) (sa_cons (dv 6) (sa_cons (dv 5) sa_nil))) sa_nil))) sa_nil))))) ss_nil)
    (ss_cons (s_if (t_cmp (c_eq C) (d_ix C T.kdok (dv 6) d_int) d_str) (ss_one (s_asg [11] C (gok_name (by decide)) (g_name C 11) (d_op (o_add C) (dv 11) (d_tup (sa_cons (dv 7) sa_nil))))) ss_nil)
    (ss_cons (s_sub C (dv 8) (dv 2) (d_call C (ok_stand_behind T) (hr.mono (by decide)) (sa_cons (d_ix C T.kdok (d_fld C T.a_stands (dv 1)) (dv 2)) (sa_cons (dv 6) (sa_cons (dv 12) sa_nil)))))
    (ss_cons (s_asg [13] C (gok_name (by decide)) (g_name C 13) (d_bi (b_list C) T.n_list (sa_cons (d_fld C T.a_left (dv 1)) sa_nil)))
    (ss_cons (s_sub C (dv 13) (dv 2) d_int)
    (ss_one (s_ret (d_make C (ok_Reading___init__ T) (hr.mono (by decide)) (sa_cons (dv 8) (sa_cons (dv 9) (sa_cons (dv 10) (sa_cons (dv 11) (sa_cons (dv 13) sa_nil))))))))))))))))))))
theorem ok_choices_of (T : Fx u mg base) : DefOk u mg base "choices_of" ["reading", "hand", "row"] 2 d_choices_of 3 [] :=
  DefOk.of (N := ["reading", "hand", "row", "sources", "fresh", "swaps", "taken", "doing", "_", "source"]) (k := 1) T.f_choices_of ⟨rfl, rfl, rfl, by decide +kernel, rfl, by decide +kernel, by decide +kernel⟩ rfl rfl (fun _ _ _ _ _ _ us hl => match us, hl with | [_, _, _], _ => rfl) fun f cdv A outer s H E C hr =>
  (ss_cons (s_asg [3] C (gok_name (by decide)) (g_name C 3) (d_ix C T.kdok (d_fld C T.a_sources (dv 0)) (d_call C (ok_place_of T) (hr.mono (by decide)) (sa_cons (dv 2) sa_nil))))
    (ss_cons (s_asg [4] C (gok_name (by decide)) (g_name C 4) (d_slice C (dv 3) (d_some (d_ix C T.kdok (d_fld C T.a_left (dv 0)) (dv 1))) d_none))
    (ss_cons (s_if (t_cmp (c_eq C) (d_ix C T.kdok (dv 2) d_int) d_str) (ss_one (s_ret (dv 4))) ss_nil)
    (ss_cons (s_asg [5] C (gok_name (by decide)) (g_name C 5) (d_lc [("doing", 7), ("_", 8)] C (by kernel_rfl) (gok_tup (gsok_cons (gok_name (by decide)) (gsok_cons (gok_name (by decide)) gsok_nil))) (i_seq C (dv 3)) (fun _ _ _ _ _ C => (g_tup C (pgs_cons (g_name C 7) (pgs_cons (g_name C 8) pgs_nil)))) (fun _ _ _ _ _ C => d_yes) (fun _ _ _ _ _ C => (dv 7))))
    (ss_cons (s_asg [6] C (gok_name (by decide)) (g_name C 6) (d_lc [("doing", 7), ("source", 9)] C (by kernel_rfl) (gok_tup (gsok_cons (gok_name (by decide)) (gsok_cons (gok_name (by decide)) gsok_nil))) (i_seq C (d_fld C T.a_reads (dv 0))) (fun _ _ _ _ _ C => (g_tup C (pgs_cons (g_name C 7) (pgs_cons (g_name C 9) pgs_nil)))) (fun _ _ _ _ _ C => (d_if1 (t_cmp (c_in C T.kdok) (dv 7) (dv 5)))) (fun _ _ _ _ _ C => (dv 9))))
    (ss_one (s_ret (d_lc [("source", 9)] C (by kernel_rfl) (gok_name (by decide)) (i_seq C (dv 4)) (fun _ _ _ _ _ C => (g_name C 9)) (fun _ _ _ _ _ C => (d_if1 (t_cmp (c_notIn C T.kdok) (d_ix C T.kdok (dv 9) d_int) (dv 6)))) (fun _ _ _ _ _ C => (dv 9))))))))))
theorem ok_readings_behind (T : Fx u mg base) : DefOk u mg base "readings_behind" ["program", "reading"] 4 d_readings_behind 2 [] :=
  DefOk.of (N := ["program", "reading", "hand", "rows", "row", "choices", "waiting", "source"]) (k := 3) T.f_readings_behind ⟨rfl, rfl, rfl, by decide +kernel, rfl, by decide +kernel, by decide +kernel⟩ rfl rfl (fun _ _ _ _ _ _ us hl => match us, hl with | [_, _], _ => rfl) fun f cdv A outer s H E C hr =>
  (ss_cons (s_for [2, 3] C (gok_tup (gsok_cons (gok_name (by decide)) (gsok_cons (gok_name (by decide)) gsok_nil))) (i_enum C T.n_enumerate (sa_cons (dv 0) sa_nil)) (g_tup C (pgs_cons (g_name C 2) (pgs_cons (g_name C 3) pgs_nil))) (ss_one (s_if (t_val (d_call C (ok_has_choice T) (hr.mono (by decide)) (sa_cons (dv 0) (sa_cons (dv 1) (sa_cons (dv 2) sa_nil))))) (ss_cons (s_asg [4] C (gok_name (by decide)) (g_name C 4) (d_ix C T.kdok (dv 3) (d_ix C T.kdok (d_ix C T.kdok (d_fld C T.a_stands (dv 1)) (dv 2)) d_int)))
    (ss_cons (s_if (t_not (t_val (d_call C (ok_is_getting T) (hr.mono (by decide)) (sa_cons (dv 4) sa_nil)))) (ss_one (s_ret (d_lst (sa_cons (d_call C (ok_done T) (hr.mono (by decide)) (sa_cons (dv 0) (sa_cons (dv 1) (sa_cons (dv 2) (sa_cons d_non sa_nil))))) sa_nil)))) ss_nil)
    (ss_cons (s_setLc 5 [("source", 7)] C rfl rfl (sw_true rfl rfl rfl (by decide +kernel)) (by kernel_rfl) (gok_name (by decide)) (i_seq C (d_call C (ok_choices_of T) (hr.mono (by decide)) (sa_cons (dv 1) (sa_cons (dv 2) (sa_cons (dv 4) sa_nil))))) (fun _ _ _ _ _ C => (g_name C 7)) (fun _ _ _ _ _ C => d_yes) (fun _ _ _ _ _ C => (d_call C (ok_done T) (hr.mono (by decide)) (sa_cons (dv 0) (sa_cons (dv 1) (sa_cons (dv 2) (sa_cons (dv 7) sa_nil)))))))
    (ss_cons (s_asg [6] C (gok_name (by decide)) (g_name C 6) (d_call C (ok_leaving_all T) (hr.mono (by decide)) (sa_cons (dv 1) (sa_cons (dv 2) (sa_cons (d_call C (ok_place_of T) (hr.mono (by decide)) (sa_cons (dv 4) sa_nil)) sa_nil)))))
    (ss_one (s_ret (d_op (o_add C) (dv 5) (d_lst (sa_cons (dv 6) sa_nil))))))))) ss_nil)))
    (ss_one (s_ret (d_lst sa_nil))))
theorem ok_is_waiting (T : Fx u mg base) : DefOk u mg base "is_waiting" ["program", "reading", "hand"] 3 d_is_waiting 3 [] :=
  DefOk.of (N := ["program", "reading", "hand", "at"]) (k := 2) T.f_is_waiting ⟨rfl, rfl, rfl, by decide +kernel, rfl, by decide +kernel, by decide +kernel⟩ rfl rfl (fun _ _ _ _ _ _ us hl => match us, hl with | [_, _, _], _ => rfl) fun f cdv A outer s H E C hr =>
  (ss_cons (s_asg [3] C (gok_name (by decide)) (g_name C 3) (d_ix C T.kdok (d_ix C T.kdok (d_fld C T.a_stands (dv 1)) (dv 2)) d_int))
    (ss_one (s_ret (d_and (d_cmp (c_lt C) (dv 3) (d_bi (b_len C) T.n_len (sa_cons (d_ix C T.kdok (dv 0) (dv 2)) sa_nil))) (d_one (d_not (d_call C (ok_has_choice T) (hr.mono (by decide)) (sa_cons (dv 0) (sa_cons (dv 1) (sa_cons (dv 2) sa_nil))))))))))
theorem ok_place_waited (T : Fx u mg base) : DefOk u mg base "place_waited" ["program", "reading", "hand"] 2 d_place_waited 3 [] :=
  DefOk.of (N := ["program", "reading", "hand"]) (k := 1) T.f_place_waited ⟨rfl, rfl, rfl, by decide +kernel, rfl, by decide +kernel, by decide +kernel⟩ rfl rfl (fun _ _ _ _ _ _ us hl => match us, hl with | [_, _, _], _ => rfl) fun f cdv A outer s H E C hr =>
  (ss_one (s_ret (d_call C (ok_place_of T) (hr.mono (by decide)) (sa_cons (d_ix C T.kdok (d_ix C T.kdok (dv 0) (dv 2)) (d_ix C T.kdok (d_ix C T.kdok (d_fld C T.a_stands (dv 1)) (dv 2)) d_int)) sa_nil))))
theorem ok_has_hope (T : Fx u mg base) : DefOk u mg base "has_hope" ["program", "reading"] 4 d_has_hope 2 [] :=
  DefOk.of (N := ["program", "reading", "hands", "moving", "rows", "places", "freed", "hand", "row"]) (k := 3) T.f_has_hope ⟨rfl, rfl, rfl, by decide +kernel, rfl, by decide +kernel, by decide +kernel⟩ rfl rfl (fun _ _ _ _ _ _ us hl => match us, hl with | [_, _], _ => rfl) fun f cdv A outer s H E C hr =>
  (ss_cons (s_asg [2] C (gok_name (by decide)) (g_name C 2) (d_listRg1 C T.n_list T.n_range (d_bi (b_len C) T.n_len (sa_cons (dv 0) sa_nil))))
    (ss_cons (s_asg [3] C (gok_name (by decide)) (g_name C 3) (d_lc [("hand", 7)] C (by kernel_rfl) (gok_name (by decide)) (i_seq C (dv 2)) (fun _ _ _ _ _ C => (g_name C 7)) (fun _ _ _ _ _ C => (d_if1 (t_not (t_val (d_call C (ok_is_waiting T) (hr.mono (by decide)) (sa_cons (dv 0) (sa_cons (dv 1) (sa_cons (dv 7) sa_nil)))))))) (fun _ _ _ _ _ C => (dv 7))))
    (ss_cons (s_while C (t_cmp (c_lt C) (d_bi (b_len C) T.n_len (sa_cons (dv 3) sa_nil)) (d_bi (b_len C) T.n_len (sa_cons (dv 0) sa_nil))) (ss_cons (s_setLc2 4 [("hand", 7), ("row", 8)] (vs1 := [8]) C rfl rfl (sw_true rfl rfl rfl (by decide +kernel)) (by kernel_rfl) (by decide) (gok_name (by decide)) (gok_name (by decide)) (i_seq C (dv 3)) (fun _ _ _ _ _ C => (g_name C 7)) (fun _ _ _ _ _ C => d_yes) (fun _ _ _ _ _ C => (i_seq C (d_slice C (d_ix C T.kdok (dv 0) (dv 7)) (d_some (d_ix C T.kdok (d_ix C T.kdok (d_fld C T.a_stands (dv 1)) (dv 7)) d_int)) d_none))) (fun _ _ _ _ _ C => (g_name C 8)) (fun _ _ _ _ _ C => d_yes) (fun _ _ _ _ _ C => (dv 8)))
    (ss_cons (s_asg [5] C (gok_name (by decide)) (g_name C 5) (d_lc [("row", 8)] C (by kernel_rfl) (gok_name (by decide)) (i_seq C (dv 4)) (fun _ _ _ _ _ C => (g_name C 8)) (fun _ _ _ _ _ C => (d_if1 (t_val (d_call C (ok_is_putting T) (hr.mono (by decide)) (sa_cons (dv 8) sa_nil))))) (fun _ _ _ _ _ C => (d_call C (ok_place_of T) (hr.mono (by decide)) (sa_cons (dv 8) sa_nil)))))
    (ss_cons (s_setLc 6 [("hand", 7)] C rfl rfl (sw_true rfl rfl rfl (by decide +kernel)) (by kernel_rfl) (gok_name (by decide)) (i_seq C (dv 2)) (fun _ _ _ _ _ C => (g_name C 7)) (fun _ _ _ _ _ C => (d_if1 (t_w (w_and (t_cmp (c_notIn C T.kdok) (dv 7) (dv 3)) (w_and1 (t_cmp (c_in C T.kdok) (d_call C (ok_place_waited T) (hr.mono (by decide)) (sa_cons (dv 0) (sa_cons (dv 1) (sa_cons (dv 7) sa_nil)))) (dv 5))))))) (fun _ _ _ _ _ C => (dv 7)))
    (ss_cons (s_if (t_not (t_tru C (dv 6))) (ss_one (s_ret d_bl)) ss_nil)
    (ss_one (s_asg [3] C (gok_name (by decide)) (g_name C 3) (d_op (o_add C) (dv 3) (dv 6)))))))))
    (ss_one (s_ret d_bl)))))
theorem ok_whole_readings (T : Fx u mg base) : DefOk u mg base "whole_readings" ["program", "rule"] 5 d_whole_readings 2 [] :=
  DefOk.of (N := ["program", "rule", "whole", "many", "waiting", "reading", "behind", "that"]) (k := 4) T.f_whole_readings ⟨rfl, rfl, rfl, by decide +kernel, rfl, by decide +kernel, by decide +kernel⟩ rfl rfl (fun _ _ _ _ _ _ us hl => match us, hl with | [_, _], _ => rfl) fun f cdv A outer s H E C hr =>
  (ss_cons (s_asg [2] C (gok_name (by decide)) (g_name C 2) (d_lst sa_nil))
    (ss_cons (s_asg [3] C (gok_name (by decide)) (g_name C 3) d_int)
    (ss_cons (s_asg [4] C (gok_name (by decide)) (g_name C 4) (d_lst (sa_cons (d_call C (ok_first_reading T) (hr.mono (by decide)) (sa_cons (dv 0) sa_nil)) sa_nil)))
    (ss_cons (s_while C (t_tru C (dv 4)) (ss_cons (s_asg [5] C (gok_name (by decide)) (g_name C 5) (d_pop C (dv 4)))
    (ss_one (s_if (t_val (d_call C (ok_is_whole T) (hr.mono (by decide)) (sa_cons (dv 0) (sa_cons (dv 5) sa_nil)))) (ss_cons (s_expr (d_mth C m_append (dv 2) (sa_cons (dv 5) sa_nil)))
    (ss_cons (s_aug 3 C rfl (.inl rfl) (d_call C (ok_count_with T) (hr.mono (by decide)) (sa_cons (dv 0) (sa_cons (dv 1) (sa_cons (dv 5) sa_nil)))))
    (ss_one (s_if (t_cmp (c_gt C) (dv 3) (d_con T.c_MOST_STORIES)) (ss_one (s_raise C T.e_TooLarge)) ss_nil)))) (ss_cons (s_asg [6] C (gok_name (by decide)) (g_name C 6) (d_call C (ok_readings_behind T) (hr.mono (by decide)) (sa_cons (dv 0) (sa_cons (dv 5) sa_nil))))
    (ss_one (s_expr (d_mth C m_extend (dv 4) (sa_cons (d_lc [("that", 7)] C (by kernel_rfl) (gok_name (by decide)) (i_seq C (d_rev C (dv 6))) (fun _ _ _ _ _ C => (g_name C 7)) (fun _ _ _ _ _ C => (d_if1 (t_val (d_call C (ok_has_hope T) (hr.mono (by decide)) (sa_cons (dv 0) (sa_cons (dv 7) sa_nil)))))) (fun _ _ _ _ _ C => (dv 7))) sa_nil)))))))))
    (ss_one (s_ret (dv 2)))))))
theorem ok_all_stories (T : Fx u mg base) : DefOk u mg base "all_stories" ["program", "rule"] 6 d_all_stories 2 [] :=
  DefOk.of (N := ["program", "rule", "reading", "pair"]) (k := 5) T.f_all_stories ⟨rfl, rfl, rfl, by decide +kernel, rfl, by decide +kernel, by decide +kernel⟩ rfl rfl (fun _ _ _ _ _ _ us hl => match us, hl with | [_, _], _ => rfl) fun f cdv A outer s H E C hr =>
  (ss_one (s_ret (d_lc2 [("reading", 2), ("pair", 3)] (vs1 := [3]) C (by kernel_rfl) (by decide) (gok_name (by decide)) (gok_name (by decide)) (i_seq C (d_call C (ok_whole_readings T) (hr.mono (by decide)) (sa_cons (dv 0) (sa_cons (dv 1) sa_nil)))) (fun _ _ _ _ _ C => (g_name C 2)) (fun _ _ _ _ _ C => d_yes) (fun _ _ _ _ _ C => (i_seq C d_bad)) (fun _ _ _ _ _ C => (g_name C 3)) (fun _ _ _ _ _ C => d_yes) (fun _ _ _ _ _ C => (dv 3)))))
theorem ok_stories_for (T : Fx u mg base) : DefOk u mg base "stories_for" ["program", "rule", "outcome"] 8 d_stories_for 3 [] :=
  DefOk.of (N := ["program", "rule", "outcome", "story", "end"]) (k := 7) T.f_stories_for ⟨rfl, rfl, rfl, by decide +kernel, rfl, by decide +kernel, by decide +kernel⟩ rfl rfl (fun _ _ _ _ _ _ us hl => match us, hl with | [_, _, _], _ => rfl) fun f cdv A outer s H E C hr =>
  (ss_cons (s_expr (d_call C (ok_check_program T) (hr.mono (by decide)) (sa_cons (dv 0) sa_nil)))
    (ss_cons (s_expr (d_call C (ok_check_rule T) (hr.mono (by decide)) (sa_cons (dv 1) sa_nil)))
    (ss_cons (s_expr (d_call C (ok_check_outcome T) (hr.mono (by decide)) (sa_cons (dv 0) (sa_cons (dv 2) sa_nil))))
    (ss_one (s_ret (d_lc [("story", 3), ("end", 4)] C (by kernel_rfl) (gok_tup (gsok_cons (gok_name (by decide)) (gsok_cons (gok_name (by decide)) gsok_nil))) (i_seq C (d_call C (ok_all_stories T) (hr.mono (by decide)) (sa_cons (dv 0) (sa_cons (dv 1) sa_nil)))) (fun _ _ _ _ _ C => (g_tup C (pgs_cons (g_name C 3) (pgs_cons (g_name C 4) pgs_nil)))) (fun _ _ _ _ _ C => (d_if1 (t_cmp (c_eq C) (dv 4) (dv 2)))) (fun _ _ _ _ _ C => (dv 3))))))))
theorem ok_judge_story (T : Fx u mg base) : DefOk u mg base "judge_story" ["program", "rule", "outcome"] 9 d_judge_story 3 [] :=
  DefOk.of (N := ["program", "rule", "outcome", "rows", "story", "circle"]) (k := 8) T.f_judge_story ⟨rfl, rfl, rfl, by decide +kernel, rfl, by decide +kernel, by decide +kernel⟩ rfl rfl (fun _ _ _ _ _ _ us hl => match us, hl with | [_, _, _], _ => rfl) fun f cdv A outer s H E C hr =>
  (ss_cons (s_asg [3] C (gok_name (by decide)) (g_name C 3) (d_lst sa_nil))
    (ss_cons (s_for [4] C (gok_name (by decide)) (i_seq C (d_call C (ok_stories_for T) (hr.mono (by decide)) (sa_cons (dv 0) (sa_cons (dv 1) (sa_cons (dv 2) sa_nil))))) (g_name C 4) (ss_cons (s_asg [5] C (gok_name (by decide)) (g_name C 5) d_bad)
    (ss_cons (s_if (t_isN (dv 5)) (ss_one (s_ret d_bad)) ss_nil)
    (ss_one (s_expr (d_mth C m_append (dv 3) (sa_cons (d_tup (sa_cons (dv 4) (sa_cons (dv 5) sa_nil))) sa_nil)))))))
    (ss_one (s_ret d_bad))))
theorem ok_reaching (T : Fx u mg base) : DefOk u mg base "reaching" ["row", "at", "gaps"] 1 d_reaching 3 [] :=
  DefOk.of (N := ["row", "at", "gaps", "gap"]) (k := 0) T.f_reaching ⟨rfl, rfl, rfl, by decide +kernel, rfl, by decide +kernel, by decide +kernel⟩ rfl rfl (fun _ _ _ _ _ _ us hl => match us, hl with | [_, _, _], _ => rfl) fun f cdv A outer s H E C hr =>
  (ss_cons (s_if (t_cmp (c_ne C) (d_ix C T.kdok (dv 0) d_int) d_str) (ss_one (s_ret (dv 0))) ss_nil)
    (ss_one (s_ret (d_op (o_add C) (d_slice C (dv 0) d_none (d_some d_int)) (d_tup (sa_cons (d_op (o_add C) (d_ix C T.kdok (dv 0) d_int) (d_bi (b_len C) T.n_len (sa_cons (d_lc [("gap", 3)] C (by kernel_rfl) (gok_name (by decide)) (i_seq C (dv 2)) (fun _ _ _ _ _ C => (g_name C 3)) (fun _ _ _ _ _ C => (d_if1 (t_chain (c_lt C) (c_le C) (dv 1) (dv 3) (d_op (o_add C) (dv 1) (d_ix C T.kdok (dv 0) d_int))))) (fun _ _ _ _ _ C => (dv 3))) sa_nil))) sa_nil))))))
theorem ok_filled (T : Fx u mg base) : DefOk u mg base "filled" ["rows", "gaps"] 2 d_filled 2 [] :=
  DefOk.of (N := ["rows", "gaps", "found", "at", "row"]) (k := 1) T.f_filled ⟨rfl, rfl, rfl, by decide +kernel, rfl, by decide +kernel, by decide +kernel⟩ rfl rfl (fun _ _ _ _ _ _ us hl => match us, hl with | [_, _], _ => rfl) fun f cdv A outer s H E C hr =>
  (ss_cons (s_asg [2] C (gok_name (by decide)) (g_name C 2) (d_lst sa_nil))
    (ss_cons (s_for [3, 4] C (gok_tup (gsok_cons (gok_name (by decide)) (gsok_cons (gok_name (by decide)) gsok_nil))) (i_enum C T.n_enumerate (sa_cons (dv 0) sa_nil)) (g_tup C (pgs_cons (g_name C 3) (pgs_cons (g_name C 4) pgs_nil))) (ss_cons (s_if (t_cmp (c_in C T.kdok) (dv 3) (dv 1)) (ss_one (s_expr (d_mth C m_append (dv 2) (sa_cons (d_tup (sa_cons d_str sa_nil)) sa_nil)))) ss_nil)
    (ss_one (s_expr (d_mth C m_append (dv 2) (sa_cons (d_call C (ok_reaching T) (hr.mono (by decide)) (sa_cons (dv 4) (sa_cons (dv 3) (sa_cons (dv 1) sa_nil)))) sa_nil))))))
    (ss_cons (s_if (t_cmp (c_in C T.kdok) (d_bi (b_len C) T.n_len (sa_cons (dv 0) sa_nil)) (dv 1)) (ss_one (s_expr (d_mth C m_append (dv 2) (sa_cons (d_tup (sa_cons d_str sa_nil)) sa_nil)))) ss_nil)
    (ss_one (s_ret (d_bi (b_tuple C) T.n_tuple (sa_cons (dv 2) sa_nil)))))))
theorem ok_with_fences (T : Fx u mg base) : DefOk u mg base "with_fences" ["program", "choice"] 3 d_with_fences 2 [] :=
  DefOk.of (N := ["program", "choice", "hands", "hand", "rows", "where", "at"]) (k := 2) T.f_with_fences ⟨rfl, rfl, rfl, by decide +kernel, rfl, by decide +kernel, by decide +kernel⟩ rfl rfl (fun _ _ _ _ _ _ us hl => match us, hl with | [_, _], _ => rfl) fun f cdv A outer s H E C hr =>
  (ss_cons (s_asg [2] C (gok_name (by decide)) (g_name C 2) (d_lst sa_nil))
    (ss_cons (s_for [3, 4] C (gok_tup (gsok_cons (gok_name (by decide)) (gsok_cons (gok_name (by decide)) gsok_nil))) (i_enum C T.n_enumerate (sa_cons (dv 0) sa_nil)) (g_tup C (pgs_cons (g_name C 3) (pgs_cons (g_name C 4) pgs_nil))) (ss_one (s_expr (d_mth C m_append (dv 2) (sa_cons (d_call C (ok_filled T) (hr.mono (by decide)) (sa_cons (dv 4) (sa_cons (d_lc [("where", 5), ("at", 6)] C (by kernel_rfl) (gok_tup (gsok_cons (gok_name (by decide)) (gsok_cons (gok_name (by decide)) gsok_nil))) (i_seq C (dv 1)) (fun _ _ _ _ _ C => (g_tup C (pgs_cons (g_name C 5) (pgs_cons (g_name C 6) pgs_nil)))) (fun _ _ _ _ _ C => (d_if1 (t_cmp (c_eq C) (dv 5) (dv 3)))) (fun _ _ _ _ _ C => (dv 6))) sa_nil))) sa_nil)))))
    (ss_one (s_ret (d_bi (b_tuple C) T.n_tuple (sa_cons (dv 2) sa_nil))))))
theorem ok_is_gap (T : Fx u mg base) : DefOk u mg base "is_gap" ["program", "thing"] 3 d_is_gap 2 [] :=
  DefOk.of (N := ["program", "thing"]) (k := 2) T.f_is_gap ⟨rfl, rfl, rfl, by decide +kernel, rfl, by decide +kernel, by decide +kernel⟩ rfl rfl (fun _ _ _ _ _ _ us hl => match us, hl with | [_, _], _ => rfl) fun f cdv A outer s H E C hr =>
  (ss_cons (s_if (t_w (w_or (t_not (t_val (d_call C (ok_is_tuple_of T) (hr.mono (by decide)) (sa_cons (dv 1) (sa_cons d_int sa_nil))))) (w_or1 (t_not (t_val (d_call C (ok_is_between T) (hr.mono (by decide)) (sa_cons (d_ix C T.kdok (dv 1) d_int) (sa_cons d_int (sa_cons (d_op (o_sub C) (d_bi (b_len C) T.n_len (sa_cons (dv 0) sa_nil)) d_int) sa_nil))))))))) (ss_one (s_ret d_bl)) ss_nil)
    (ss_one (s_ret (d_call C (ok_is_between T) (hr.mono (by decide)) (sa_cons (d_ix C T.kdok (dv 1) d_int) (sa_cons d_int (sa_cons (d_bi (b_len C) T.n_len (sa_cons (d_ix C T.kdok (dv 0) (d_ix C T.kdok (dv 1) d_int)) sa_nil)) sa_nil)))))))
theorem ok_check_prices (T : Fx u mg base) : DefOk u mg base "check_prices" ["program", "prices", "most"] 7 d_check_prices 3 [] :=
  DefOk.of (N := ["program", "prices", "most", "gap"]) (k := 6) T.f_check_prices ⟨rfl, rfl, rfl, by decide +kernel, rfl, by decide +kernel, by decide +kernel⟩ rfl rfl (fun _ _ _ _ _ _ us hl => match us, hl with | [_, _, _], _ => rfl) fun f cdv A outer s H E C hr =>
  (ss_cons (s_if (t_w (w_or (t_not (t_val (d_bi (b_isID C T.uok) T.n_isinstance (sa_cons (dv 1) (sa_cons (d_ty 5 T.n_dict PyProof.Rows.boot_dict) sa_nil))))) (w_or1 (t_not (t_chain (c_le C) (c_le C) d_int (d_bi (b_len C) T.n_len (sa_cons (dv 1) sa_nil)) (dv 2)))))) (ss_one (s_raise C T.e_BadPrices)) ss_nil)
    (ss_cons (s_if (t_not (t_val (d_allC [("gap", 3)] C T.n_all (by kernel_rfl) (gok_name (by decide)) (i_seq C (dv 1)) (fun _ _ _ _ _ C => (g_name C 3)) (fun _ _ _ _ _ C => d_yes) (fun _ _ _ _ _ C => (d_and (d_call C (ok_is_gap T) (hr.mono (by decide)) (sa_cons (dv 0) (sa_cons (dv 3) sa_nil))) (d_one (d_call C (ok_is_between T) (hr.mono (by decide)) (sa_cons (d_ix C T.kdok (dv 1) (dv 3)) (sa_cons d_int (sa_cons (d_con T.c_HIGHEST_PRICE) sa_nil)))))))))) (ss_one (s_raise C T.e_BadPrices)) ss_nil)
    (ss_one (s_if (t_not (t_val (d_call C (ok_is_program T) (hr.mono (by decide)) (sa_cons (d_call C (ok_with_fences T) (hr.mono (by decide)) (sa_cons (dv 0) (sa_cons (d_bi (b_sorted C) T.n_sorted (sa_cons (dv 1) sa_nil)) sa_nil))) sa_nil)))) (ss_one (s_raise C T.e_BadPrices)) ss_nil))))
theorem ok_count_stories (T : Fx u mg base) : DefOk u mg base "count_stories" ["program", "rule"] 8 d_count_stories 2 [] :=
  DefOk.of (N := ["program", "rule", "reading"]) (k := 7) T.f_count_stories ⟨rfl, rfl, rfl, by decide +kernel, rfl, by decide +kernel, by decide +kernel⟩ rfl rfl (fun _ _ _ _ _ _ us hl => match us, hl with | [_, _], _ => rfl) fun f cdv A outer s H E C hr =>
  (ss_cons (s_expr (d_call C (ok_check_program T) (hr.mono (by decide)) (sa_cons (dv 0) sa_nil)))
    (ss_cons (s_expr (d_call C (ok_check_rule T) (hr.mono (by decide)) (sa_cons (dv 1) sa_nil)))
    (ss_one (s_ret (d_bi (b_sum C) T.n_sum (sa_cons (d_lc [("reading", 2)] C (by kernel_rfl) (gok_name (by decide)) (i_seq C (d_call C (ok_whole_readings T) (hr.mono (by decide)) (sa_cons (dv 0) (sa_cons (dv 1) sa_nil)))) (fun _ _ _ _ _ C => (g_name C 2)) (fun _ _ _ _ _ C => d_yes) (fun _ _ _ _ _ C => (d_call C (ok_count_with T) (hr.mono (by decide)) (sa_cons (dv 0) (sa_cons (dv 1) (sa_cons (dv 2) sa_nil)))))) sa_nil))))))
theorem ok_cost_of (T : Fx u mg base) : DefOk u mg base "cost_of" ["choice", "prices"] 1 d_cost_of 2 [] :=
  DefOk.of (N := ["choice", "prices", "gap"]) (k := 0) T.f_cost_of ⟨rfl, rfl, rfl, by decide +kernel, rfl, by decide +kernel, by decide +kernel⟩ rfl rfl (fun _ _ _ _ _ _ us hl => match us, hl with | [_, _], _ => rfl) fun f cdv A outer s H E C hr =>
  (ss_one (s_ret (d_bi (b_sum C) T.n_sum (sa_cons (d_lc [("gap", 2)] C (by kernel_rfl) (gok_name (by decide)) (i_seq C (dv 0)) (fun _ _ _ _ _ C => (g_name C 2)) (fun _ _ _ _ _ C => d_yes) (fun _ _ _ _ _ C => (d_ix C T.kdok (dv 1) (dv 2)))) sa_nil))))
theorem ok_all_choices (T : Fx u mg base) : DefOk u mg base "all_choices" ["prices"] 2 d_all_choices 1 [] :=
  DefOk.of (N := ["prices", "gaps", "choices", "priced", "many", "choice", "_"]) (k := 1) T.f_all_choices ⟨rfl, rfl, rfl, by decide +kernel, rfl, by decide +kernel, by decide +kernel⟩ rfl rfl (fun _ _ _ _ _ _ us hl => match us, hl with | [_], _ => rfl) fun f cdv A outer s H E C hr =>
  (ss_cons (s_asg [1] C (gok_name (by decide)) (g_name C 1) (d_bi (b_sorted C) T.n_sorted (sa_cons (dv 0) sa_nil)))
    (ss_cons (s_setLc2 2 [("many", 4), ("choice", 5)] (vs1 := [5]) C rfl rfl (sw_true rfl rfl rfl (by decide +kernel)) (by kernel_rfl) (by decide) (gok_name (by decide)) (gok_name (by decide)) (i_range1 (pr := default) T.n_range (d_op (o_add C) (d_bi (b_len C) T.n_len (sa_cons (dv 1) sa_nil)) d_int)) (fun _ _ _ _ _ C => (g_name C 4)) (fun _ _ _ _ _ C => d_yes) (fun _ _ _ _ _ C => (i_seq C d_bad)) (fun _ _ _ _ _ C => (g_name C 5)) (fun _ _ _ _ _ C => d_yes) (fun _ _ _ _ _ C => (dv 5)))
    (ss_cons (s_asg [3] C (gok_name (by decide)) (g_name C 3) (d_bi (b_sorted C) T.n_sorted (sa_cons (d_lc [("choice", 5)] C (by kernel_rfl) (gok_name (by decide)) (i_seq C (dv 2)) (fun _ _ _ _ _ C => (g_name C 5)) (fun _ _ _ _ _ C => d_yes) (fun _ _ _ _ _ C => (d_tup (sa_cons (d_call C (ok_cost_of T) (hr.mono (by decide)) (sa_cons (dv 5) (sa_cons (dv 0) sa_nil))) (sa_cons (dv 5) sa_nil))))) sa_nil)))
    (ss_one (s_ret (d_lc [("_", 6), ("choice", 5)] C (by kernel_rfl) (gok_tup (gsok_cons (gok_name (by decide)) (gsok_cons (gok_name (by decide)) gsok_nil))) (i_seq C (dv 3)) (fun _ _ _ _ _ C => (g_tup C (pgs_cons (g_name C 6) (pgs_cons (g_name C 5) pgs_nil)))) (fun _ _ _ _ _ C => d_yes) (fun _ _ _ _ _ C => (dv 5))))))))
theorem ok_choices_by (T : Fx u mg base) : DefOk u mg base "choices_by" ["program", "rule", "prices"] 9 d_choices_by 3 [] :=
  DefOk.of (N := ["program", "rule", "prices"]) (k := 8) T.f_choices_by ⟨rfl, rfl, rfl, by decide +kernel, rfl, by decide +kernel, by decide +kernel⟩ rfl rfl (fun _ _ _ _ _ _ us hl => match us, hl with | [_, _, _], _ => rfl) fun f cdv A outer s H E C hr =>
  (ss_cons (s_expr (d_call C (ok_check_program T) (hr.mono (by decide)) (sa_cons (dv 0) sa_nil)))
    (ss_cons (s_expr (d_call C (ok_check_rule T) (hr.mono (by decide)) (sa_cons (dv 1) sa_nil)))
    (ss_cons (s_expr (d_call C (ok_check_prices T) (hr.mono (by decide)) (sa_cons (dv 0) (sa_cons (dv 2) (sa_cons (d_con T.c_MOST_GAPS) sa_nil)))))
    (ss_cons (s_expr (d_call C (ok_count_stories T) (hr.mono (by decide)) (sa_cons (d_call C (ok_with_fences T) (hr.mono (by decide)) (sa_cons (dv 0) (sa_cons (d_bi (b_sorted C) T.n_sorted (sa_cons (dv 2) sa_nil)) sa_nil))) (sa_cons (dv 1) sa_nil))))
    (ss_one (s_ret (d_call C (ok_all_choices T) (hr.mono (by decide)) (sa_cons (dv 2) sa_nil))))))))
theorem ok_stories_by (T : Fx u mg base) : DefOk u mg base "stories_by" ["program", "rule"] 8 d_stories_by 2 [] :=
  DefOk.of (N := ["program", "rule"]) (k := 7) T.f_stories_by ⟨rfl, rfl, rfl, by decide +kernel, rfl, by decide +kernel, by decide +kernel⟩ rfl rfl (fun _ _ _ _ _ _ us hl => match us, hl with | [_, _], _ => rfl) fun f cdv A outer s H E C hr =>
  (ss_cons (s_expr (d_call C (ok_check_program T) (hr.mono (by decide)) (sa_cons (dv 0) sa_nil)))
    (ss_cons (s_expr (d_call C (ok_check_rule T) (hr.mono (by decide)) (sa_cons (dv 1) sa_nil)))
    (ss_one (s_ret (d_call C (ok_all_stories T) (hr.mono (by decide)) (sa_cons (dv 0) (sa_cons (dv 1) sa_nil)))))))
theorem ok_judge_lines (T : Fx u mg base) : DefOk u mg base "judge_lines" ["program", "rule"] 9 d_judge_lines 2 [] :=
  DefOk.of (N := ["program", "rule", "lines", "story", "_", "circle"]) (k := 8) T.f_judge_lines ⟨rfl, rfl, rfl, by decide +kernel, rfl, by decide +kernel, by decide +kernel⟩ rfl rfl (fun _ _ _ _ _ _ us hl => match us, hl with | [_, _], _ => rfl) fun f cdv A outer s H E C hr =>
  (ss_cons (s_asg [2] C (gok_name (by decide)) (g_name C 2) (d_lst sa_nil))
    (ss_cons (s_for [3, 4] C (gok_tup (gsok_cons (gok_name (by decide)) (gsok_cons (gok_name (by decide)) gsok_nil))) (i_seq C (d_call C (ok_stories_by T) (hr.mono (by decide)) (sa_cons (dv 0) (sa_cons (dv 1) sa_nil)))) (g_tup C (pgs_cons (g_name C 3) (pgs_cons (g_name C 4) pgs_nil))) (ss_one (s_if (t_isN d_bad) (ss_cons (s_asg [5] C (gok_name (by decide)) (g_name C 5) d_bad)
    (ss_cons (s_if (t_notN (dv 5)) (ss_one (s_ret d_bad)) ss_nil)
    (ss_one (s_expr (d_mth C m_append (dv 2) (sa_cons (d_tup (sa_cons (dv 3) (sa_cons d_bad sa_nil))) sa_nil)))))) ss_nil)))
    (ss_one (s_ret d_bad))))
theorem ok_cheaper_than (T : Fx u mg base) : DefOk u mg base "cheaper_than" ["choice", "choices", "prices"] 2 d_cheaper_than 3 [] :=
  DefOk.of (N := ["choice", "choices", "prices", "cost", "other"]) (k := 1) T.f_cheaper_than ⟨rfl, rfl, rfl, by decide +kernel, rfl, by decide +kernel, by decide +kernel⟩ rfl rfl (fun _ _ _ _ _ _ us hl => match us, hl with | [_, _, _], _ => rfl) fun f cdv A outer s H E C hr =>
  (ss_cons (s_asg [3] C (gok_name (by decide)) (g_name C 3) (d_call C (ok_cost_of T) (hr.mono (by decide)) (sa_cons (dv 0) (sa_cons (dv 2) sa_nil))))
    (ss_one (s_ret (d_lc [("other", 4)] C (by kernel_rfl) (gok_name (by decide)) (i_seq C (dv 1)) (fun _ _ _ _ _ C => (g_name C 4)) (fun _ _ _ _ _ C => (d_if1 (t_cmp (c_lt C) (d_call C (ok_cost_of T) (hr.mono (by decide)) (sa_cons (dv 4) (sa_cons (dv 2) sa_nil))) (dv 3)))) (fun _ _ _ _ _ C => (dv 4))))))
theorem ok_cheapest_fences (T : Fx u mg base) : DefOk u mg base "cheapest_fences" ["program", "rule", "prices"] 10 d_cheapest_fences 3 [] :=
  DefOk.of (N := ["program", "rule", "prices", "against", "choices", "choice", "judged", "cheaper", "other"]) (k := 9) T.f_cheapest_fences ⟨rfl, rfl, rfl, by decide +kernel, rfl, by decide +kernel, by decide +kernel⟩ rfl rfl (fun _ _ _ _ _ _ us hl => match us, hl with | [_, _, _], _ => rfl) fun f cdv A outer s H E C hr =>
  (ss_cons (s_asg [3] C (gok_name (by decide)) (g_name C 3) d_dict0)
    (ss_cons (s_asg [4] C (gok_name (by decide)) (g_name C 4) (d_call C (ok_choices_by T) (hr.mono (by decide)) (sa_cons (dv 0) (sa_cons (dv 1) (sa_cons (dv 2) sa_nil)))))
    (ss_cons (s_for [5] C (gok_name (by decide)) (i_seq C (dv 4)) (g_name C 5) (ss_cons (s_asg [6] C (gok_name (by decide)) (g_name C 6) (d_call C (ok_judge_lines T) (hr.mono (by decide)) (sa_cons (d_call C (ok_with_fences T) (hr.mono (by decide)) (sa_cons (dv 0) (sa_cons (dv 5) sa_nil))) (sa_cons (dv 1) sa_nil))))
    (ss_cons (s_if (t_val (d_bi (b_isID C T.uok) T.n_isinstance (sa_cons (dv 6) (sa_cons (d_con T.c_Lined) sa_nil)))) (ss_cons (s_asg [7] C (gok_name (by decide)) (g_name C 7) (d_call C (ok_cheaper_than T) (hr.mono (by decide)) (sa_cons (dv 5) (sa_cons (dv 4) (sa_cons (dv 2) sa_nil)))))
    (ss_one (s_ret d_bad))) ss_nil)
    (ss_one (s_sub C (dv 3) (dv 5) (d_tup (sa_cons (d_fld C T.a_story (dv 6)) (sa_cons (d_fld C T.a_circle (dv 6)) sa_nil))))))))
    (ss_one (s_ret d_bad)))))
theorem ok_least_cost (T : Fx u mg base) : DefOk u mg base "least_cost" ["program", "rule", "prices"] 11 d_least_cost 3 [] :=
  DefOk.of (N := ["program", "rule", "prices", "judged"]) (k := 10) T.f_least_cost ⟨rfl, rfl, rfl, by decide +kernel, rfl, by decide +kernel, by decide +kernel⟩ rfl rfl (fun _ _ _ _ _ _ us hl => match us, hl with | [_, _, _], _ => rfl) fun f cdv A outer s H E C hr =>
  (ss_cons (s_asg [3] C (gok_name (by decide)) (g_name C 3) (d_call C (ok_cheapest_fences T) (hr.mono (by decide)) (sa_cons (dv 0) (sa_cons (dv 1) (sa_cons (dv 2) sa_nil)))))
    (ss_one (s_ret (d_if (t_val (d_bi (b_isID C T.uok) T.n_isinstance (sa_cons (dv 3) (sa_cons (d_con T.c_Cheapest) sa_nil)))) (d_call C (ok_cost_of T) (hr.mono (by decide)) (sa_cons (d_fld C T.a_choice (dv 3)) (sa_cons (dv 2) sa_nil))) d_non))))
theorem ok_is_told (T : Fx u mg base) : DefOk u mg base "is_told" ["program", "rule", "outcome"] 10 d_is_told 3 [] :=
  DefOk.of (N := ["program", "rule", "outcome"]) (k := 9) T.f_is_told ⟨rfl, rfl, rfl, by decide +kernel, rfl, by decide +kernel, by decide +kernel⟩ rfl rfl (fun _ _ _ _ _ _ us hl => match us, hl with | [_, _, _], _ => rfl) fun f cdv A outer s H E C hr =>
  (ss_one (s_ret (d_bi (b_isID C T.uok) T.n_isinstance (sa_cons (d_call C (ok_judge_story T) (hr.mono (by decide)) (sa_cons (dv 0) (sa_cons (dv 1) (sa_cons (dv 2) sa_nil)))) (sa_cons (d_con T.c_Told) sa_nil)))))
theorem ok_explore_twins (T : Fx u mg base) : DefOk u mg base "explore_twins" ["one", "other", "rule"] 8 d_explore_twins 3 [] :=
  DefOk.of (N := ["one", "other", "rule"]) (k := 7) T.f_explore_twins ⟨rfl, rfl, rfl, by decide +kernel, rfl, by decide +kernel, by decide +kernel⟩ rfl rfl (fun _ _ _ _ _ _ us hl => match us, hl with | [_, _, _], _ => rfl) fun f cdv A outer s H E C hr =>
  (ss_cons (s_expr (d_call C (ok_check_program T) (hr.mono (by decide)) (sa_cons (dv 0) sa_nil)))
    (ss_cons (s_expr (d_call C (ok_check_program T) (hr.mono (by decide)) (sa_cons (dv 1) sa_nil)))
    (ss_cons (s_if (t_cmp (c_ne C) (d_bi (b_len C) T.n_len (sa_cons (dv 0) sa_nil)) (d_bi (b_len C) T.n_len (sa_cons (dv 1) sa_nil))) (ss_one (s_raise C T.e_BadTwins)) ss_nil)
    (ss_cons (s_expr (d_call C (ok_check_rule T) (hr.mono (by decide)) (sa_cons (dv 2) sa_nil)))
    (ss_one (s_ret (d_tup (sa_cons d_bad (sa_cons d_bad sa_nil)))))))))
theorem ok_compare (T : Fx u mg base) : DefOk u mg base "compare" ["one", "other", "rule"] 9 d_compare 3 [] :=
  DefOk.of (N := ["one", "other", "rule", "origins", "ends", "which", "outcome"]) (k := 8) T.f_compare ⟨rfl, rfl, rfl, by decide +kernel, rfl, by decide +kernel, by decide +kernel⟩ rfl rfl (fun _ _ _ _ _ _ us hl => match us, hl with | [_, _, _], _ => rfl) fun f cdv A outer s H E C hr =>
  (ss_cons (s_asg [3] C (gok_name (by decide)) (g_name C 3) (d_call C (ok_explore_twins T) (hr.mono (by decide)) (sa_cons (dv 0) (sa_cons (dv 1) (sa_cons (dv 2) sa_nil)))))
    (ss_cons (s_asg [4] C (gok_name (by decide)) (g_name C 4) (d_tup (sa_cons d_bad (sa_cons d_bad sa_nil))))
    (ss_cons (s_for [5] C (gok_name (by decide)) (i_range1 (pr := default) T.n_range d_int) (g_name C 5) (ss_one (s_for [6] C (gok_name (by decide)) (i_seq C (d_ix C T.kdok (dv 4) (dv 5))) (g_name C 6) (ss_one (s_if (t_cmp (c_notIn C T.kdok) (dv 6) (d_ix C T.kdok (dv 4) (d_op (o_sub C) d_int (dv 5)))) (ss_one (s_ret d_bad)) ss_nil)))))
    (ss_one (s_ret d_non)))))
theorem ok_value_of (T : Fx u mg base) : DefOk u mg base "value_of" ["row"] 1 d_value_of 1 [] :=
  DefOk.of (N := ["row"]) (k := 0) T.f_value_of ⟨rfl, rfl, rfl, by decide +kernel, rfl, by decide +kernel, by decide +kernel⟩ rfl rfl (fun _ _ _ _ _ _ us hl => match us, hl with | [_], _ => rfl) fun f cdv A outer s H E C hr =>
  (ss_one (s_ret (d_if (t_cmp (c_in C T.kdok) (d_ix C T.kdok (dv 0) d_int) (d_tup (sa_cons d_str (sa_cons d_str sa_nil)))) (d_ix C T.kdok (dv 0) d_neg1) d_non)))
theorem ok_is_changeable (T : Fx u mg base) : DefOk u mg base "is_changeable" ["thing"] 5 d_is_changeable 1 [] :=
  DefOk.of (N := ["thing"]) (k := 4) T.f_is_changeable ⟨rfl, rfl, rfl, by decide +kernel, rfl, by decide +kernel, by decide +kernel⟩ rfl rfl (fun _ _ _ _ _ _ us hl => match us, hl with | [_], _ => rfl) fun f cdv A outer s H E C hr =>
  (ss_one (s_ret (d_and (d_call C (ok_is_row T) (hr.mono (by decide)) (sa_cons (dv 0) (sa_cons d_int sa_nil))) (d_one (d_cmp (c_ne C) (d_call C (ok_value_of T) (hr.mono (by decide)) (sa_cons (dv 0) sa_nil)) d_int)))))
theorem ok_check_rows (T : Fx u mg base) : DefOk u mg base "check_rows" ["rule", "one", "other"] 6 d_check_rows 3 [] :=
  DefOk.of (N := ["rule", "one", "other"]) (k := 5) T.f_check_rows ⟨rfl, rfl, rfl, by decide +kernel, rfl, by decide +kernel, by decide +kernel⟩ rfl rfl (fun _ _ _ _ _ _ us hl => match us, hl with | [_, _, _], _ => rfl) fun f cdv A outer s H E C hr =>
  (ss_cons (s_expr (d_call C (ok_check_rule T) (hr.mono (by decide)) (sa_cons (dv 0) sa_nil)))
    (ss_one (s_if (t_w (w_or (t_not (t_val (d_call C (ok_is_changeable T) (hr.mono (by decide)) (sa_cons (dv 1) sa_nil)))) (w_or1 (t_not (t_val (d_call C (ok_is_changeable T) (hr.mono (by decide)) (sa_cons (dv 2) sa_nil))))))) (ss_one (s_raise C T.e_BadRows)) ss_nil)))
theorem ok_is_harmless (T : Fx u mg base) : DefOk u mg base "is_harmless" ["rule", "one", "other", "leaving"] 7 d_is_harmless 4 [] :=
  DefOk.of (N := ["rule", "one", "other", "leaving"]) (k := 6) T.f_is_harmless ⟨rfl, rfl, rfl, by decide +kernel, rfl, by decide +kernel, by decide +kernel⟩ rfl rfl (fun _ _ _ _ _ _ us hl => match us, hl with | [_, _, _, _], _ => rfl) fun f cdv A outer s H E C hr =>
  (ss_cons (s_expr (d_call C (ok_check_rows T) (hr.mono (by decide)) (sa_cons (dv 0) (sa_cons (dv 1) (sa_cons (dv 2) sa_nil)))))
    (ss_one (s_ret (d_if (t_tru C (dv 3)) d_bad d_bad))))
theorem ok_harm_of (T : Fx u mg base) : DefOk u mg base "harm_of" ["rule", "one", "other", "leaving"] 8 d_harm_of 4 [] :=
  DefOk.of (N := ["rule", "one", "other", "leaving", "ahead", "behind", "others", "program", "outcomes"]) (k := 7) T.f_harm_of ⟨rfl, rfl, rfl, by decide +kernel, rfl, by decide +kernel, by decide +kernel⟩ rfl rfl (fun _ _ _ _ _ _ us hl => match us, hl with | [_, _, _, _], _ => rfl) fun f cdv A outer s H E C hr =>
  (ss_cons (s_if (t_val (d_call C (ok_is_harmless T) (hr.mono (by decide)) (sa_cons (dv 0) (sa_cons (dv 1) (sa_cons (dv 2) (sa_cons (dv 3) sa_nil)))))) (ss_one (s_ret d_non)) ss_nil)
    (ss_cons (s_for [4, 5, 6] C (gok_tup (gsok_cons (gok_name (by decide)) (gsok_cons (gok_name (by decide)) (gsok_cons (gok_name (by decide)) gsok_nil)))) (i_seq C d_bad) (g_tup C (pgs_cons (g_name C 4) (pgs_cons (g_name C 5) (pgs_cons (g_name C 6) pgs_nil)))) (ss_cons (s_asg [7] C (gok_name (by decide)) (g_name C 7) (d_op (o_add C) (d_tup (sa_cons (d_op (o_add C) (d_op (o_add C) (dv 4) (d_tup (sa_cons (dv 1) (sa_cons (dv 2) sa_nil)))) (dv 5)) sa_nil)) (dv 6)))
    (ss_cons (s_asg [8] C (gok_name (by decide)) (g_name C 8) d_bad)
    (ss_one (s_if (t_tru C (dv 8)) (ss_one (s_ret d_bad)) ss_nil)))))
    (ss_one (s_ret d_non))))
theorem ok_exchange (T : Fx u mg base) : DefOk u mg base "exchange" ["rule", "one", "other"] 9 d_exchange 3 [] :=
  DefOk.of (N := ["rule", "one", "other"]) (k := 8) T.f_exchange ⟨rfl, rfl, rfl, by decide +kernel, rfl, by decide +kernel, by decide +kernel⟩ rfl rfl (fun _ _ _ _ _ _ us hl => match us, hl with | [_, _, _], _ => rfl) fun f cdv A outer s H E C hr =>
  (ss_one (s_ret (d_call C (ok_harm_of T) (hr.mono (by decide)) (sa_cons (dv 0) (sa_cons (dv 1) (sa_cons (dv 2) (sa_cons d_bl sa_nil)))))))
theorem ok_leave_out (T : Fx u mg base) : DefOk u mg base "leave_out" ["rule", "one", "other"] 9 d_leave_out 3 [] :=
  DefOk.of (N := ["rule", "one", "other"]) (k := 8) T.f_leave_out ⟨rfl, rfl, rfl, by decide +kernel, rfl, by decide +kernel, by decide +kernel⟩ rfl rfl (fun _ _ _ _ _ _ us hl => match us, hl with | [_, _, _], _ => rfl) fun f cdv A outer s H E C hr =>
  (ss_one (s_ret (d_call C (ok_harm_of T) (hr.mono (by decide)) (sa_cons (dv 0) (sa_cons (dv 1) (sa_cons (dv 2) (sa_cons d_bl sa_nil)))))))
theorem ok__law_others_right (T : Fx u mg base) : DefOk u mg base "_law_others_right" ["program"] 14 d__law_others_right 1 [] :=
  DefOk.ofL (N := ["program", "end", "found", "prices", "full", "rows", "row", "great", "some", "at", "hand"]) (k := 13) T.f__law_others_right T.l__law_others_right ⟨rfl, rfl, rfl, by decide +kernel, rfl, by decide +kernel, by decide +kernel⟩ rfl rfl (fun _ _ _ _ _ _ us hl => match us, hl with | [_], _ => rfl) fun f cdv A outer s H E LC C hr =>
  (ss_cons (s_asg [1] C (gok_name (by decide)) (g_name C 1) (d_tup (sa_cons (d_tup (sa_cons (d_tup (sa_cons d_int (sa_cons d_int (sa_cons d_int sa_nil)))) sa_nil)) (sa_cons (d_tup (sa_cons d_int (sa_cons d_int (sa_cons d_int (sa_cons d_int sa_nil))))) sa_nil))))
    (ss_cons (s_setLc 2 [("some", 8)] C rfl rfl (sw_true rfl rfl rfl (by decide +kernel)) (by kernel_rfl) (gok_name (by decide)) (i_seq C (d_tup (sa_cons d_non (sa_cons (dv 1) (sa_cons (d_tup (sa_cons (d_op (o_mul C) (d_ix C T.kdok (dv 1) d_int) d_int) (sa_cons (d_tup (sa_cons d_int (sa_cons d_int (sa_cons d_int sa_nil)))) sa_nil))) sa_nil))))) (fun _ _ _ _ _ C => (g_name C 8)) (fun _ _ _ _ _ C => d_yes) (fun _ _ _ _ _ C => (d_word (kb := 11) C (LamC.blk LC _ _ _ _ _ _) T.word (hr.mono (by decide)) (by decide) (LamX.lamS_by (by kernel_rfl)) fun A outer s H E f c' C hr => (d_call C (ok_judge_story T) (hr.mono (by decide)) (sa_cons (dv 0) (sa_cons d_str (sa_cons (dv 8) sa_nil)))))))
    (ss_cons (s_asg [2] C (gok_name (by decide)) (g_name C 2) (d_op (o_add C) (dv 2) (d_lst (sa_cons (d_word (kb := 11) C LC T.word (hr.mono (by decide)) (by decide) (LamX.lamS_by (by kernel_rfl)) fun A outer s H E f c' C hr => (d_call C (ok_is_told T) (hr.mono (by decide)) (sa_cons (dv 0) (sa_cons d_str (sa_cons (d_tup (sa_cons (d_op (o_mul C) (d_lst (sa_cons (d_tup (sa_cons d_int (sa_cons d_int (sa_cons d_int sa_nil)))) sa_nil)) d_int) (sa_cons (d_tup (sa_cons d_int (sa_cons d_int (sa_cons d_int (sa_cons d_int sa_nil))))) sa_nil))) sa_nil))))) sa_nil))))
    (ss_cons (s_if (t_w (w_or (t_cmp (c_ne C) (dv 2) (d_op (o_mul C) (d_lst (sa_cons d_str sa_nil)) d_int)) (w_or1 (t_cmp (c_ne C) (d_word (kb := 11) C LC T.word (hr.mono (by decide)) (by decide) (LamX.lamS_by (by kernel_rfl)) fun A outer s H E f c' C hr => (d_call C (ok_compare T) (hr.mono (by decide)) (sa_cons (dv 0) (sa_cons (d_slice C (dv 0) d_none (d_some d_int)) (sa_cons d_non sa_nil))))) d_str)))) (ss_one (s_ret d_bl)) ss_nil)
    (ss_cons (s_asg [3] C (gok_name (by decide)) (g_name C 3) (d_lst (sa_cons d_non (sa_cons d_dict0 (sa_cons (d_bi (b_dict C) T.n_dict (sa_cons (d_lst (sa_cons (d_tup (sa_cons (d_tup (sa_cons d_int (sa_cons d_int sa_nil))) (sa_cons d_int sa_nil))) sa_nil)) sa_nil)) (sa_cons (d_bi (b_dict C) T.n_dict (sa_cons (d_lst (sa_cons (d_tup (sa_cons (d_tup (sa_cons d_int (sa_cons d_int sa_nil))) (sa_cons d_int sa_nil))) sa_nil)) sa_nil)) (sa_cons (d_bi (b_dict C) T.n_dict (sa_cons (d_lst (sa_cons (d_tup (sa_cons (d_tup (sa_cons d_int (sa_cons d_int sa_nil))) (sa_cons d_int sa_nil))) sa_nil)) sa_nil)) (sa_cons (d_bi (b_dict C) T.n_dict (sa_cons (d_lst (sa_cons (d_tup (sa_cons d_int (sa_cons d_int sa_nil))) sa_nil)) sa_nil)) (sa_cons (d_bi (b_dict C) T.n_dict (sa_cons (d_lst (sa_cons (d_tup (sa_cons (d_tup (sa_cons d_int (sa_cons d_int sa_nil))) (sa_cons d_bl sa_nil))) sa_nil)) sa_nil)) sa_nil)))))))))
    (ss_cons (s_asg [3] C (gok_name (by decide)) (g_name C 3) (d_op (o_add C) (dv 3) (d_lst (sa_cons (d_bi (b_dict C) T.n_dict (sa_cons (d_op (o_add C) (d_lc [("at", 9)] C (by kernel_rfl) (gok_name (by decide)) (i_range1 (pr := default) T.n_range d_int) (fun _ _ _ _ _ C => (g_name C 9)) (fun _ _ _ _ _ C => d_yes) (fun _ _ _ _ _ C => (d_tup (sa_cons (d_tup (sa_cons d_int (sa_cons (dv 9) sa_nil))) (sa_cons d_int sa_nil))))) (d_lc [("at", 9)] C (by kernel_rfl) (gok_name (by decide)) (i_range1 (pr := default) T.n_range d_int) (fun _ _ _ _ _ C => (g_name C 9)) (fun _ _ _ _ _ C => d_yes) (fun _ _ _ _ _ C => (d_tup (sa_cons (d_tup (sa_cons d_int (sa_cons (dv 9) sa_nil))) (sa_cons d_int sa_nil)))))) sa_nil)) (sa_cons (d_lst (sa_cons (d_tup (sa_cons (d_tup (sa_cons d_int (sa_cons d_int sa_nil))) (sa_cons d_int sa_nil))) sa_nil)) sa_nil)))))
    (ss_cons (s_if (t_cmp (c_ne C) (d_lc [("some", 8)] C (by kernel_rfl) (gok_name (by decide)) (i_seq C (dv 3)) (fun _ _ _ _ _ C => (g_name C 8)) (fun _ _ _ _ _ C => d_yes) (fun _ _ _ _ _ C => (d_word (kb := 11) C (LamC.blk LC _ _ _ _ _ _) T.word (hr.mono (by decide)) (by decide) (LamX.lamS_by (by kernel_rfl)) fun A outer s H E f c' C hr => (d_call C (ok_cheapest_fences T) (hr.mono (by decide)) (sa_cons (dv 0) (sa_cons d_str (sa_cons (dv 8) sa_nil))))))) (d_op (o_mul C) (d_lst (sa_cons d_str sa_nil)) d_int)) (ss_one (s_ret d_bl)) ss_nil)
    (ss_cons (s_asg [4] C (gok_name (by decide)) (g_name C 4) (d_tup (sa_cons (d_op (o_mul C) (d_tup (sa_cons (d_tup (sa_cons d_str sa_nil)) sa_nil)) d_int) (sa_cons (d_tup (sa_cons (d_tup (sa_cons d_str sa_nil)) sa_nil)) sa_nil))))
    (ss_cons (s_if (t_cmp (c_ne C) (d_word (kb := 11) C LC T.word (hr.mono (by decide)) (by decide) (LamX.lamS_by (by kernel_rfl)) fun A outer s H E f c' C hr => (d_call C (ok_least_cost T) (hr.mono (by decide)) (sa_cons (dv 4) (sa_cons d_str (sa_cons (d_bi (b_dict C) T.n_dict (sa_cons (d_lst (sa_cons (d_tup (sa_cons (d_tup (sa_cons d_int (sa_cons d_int sa_nil))) (sa_cons d_int sa_nil))) sa_nil)) sa_nil)) sa_nil))))) d_str) (ss_one (s_ret d_bl)) ss_nil)
    (ss_cons (s_asg [5] C (gok_name (by decide)) (g_name C 5) (d_lst (sa_cons (d_tup (sa_cons d_str (sa_cons d_int (sa_cons d_int sa_nil)))) (sa_cons (d_tup (sa_cons d_str (sa_cons d_int (sa_cons d_int (sa_cons d_int sa_nil))))) (sa_cons (d_tup (sa_cons d_str (sa_cons d_int sa_nil))) (sa_cons d_non (sa_cons (d_lst (sa_cons d_str sa_nil)) (sa_cons (d_tup (sa_cons d_str (sa_cons d_int (sa_cons d_int (sa_cons d_int sa_nil))))) (sa_cons (d_tup (sa_cons d_str (sa_cons d_int (sa_cons d_int sa_nil)))) (sa_cons (d_tup (sa_cons d_str (sa_cons d_int (sa_cons d_int sa_nil)))) sa_nil))))))))))
    (ss_cons (s_for [6] C (gok_name (by decide)) (i_seq C (dv 5)) (g_name C 6) (ss_cons (s_asg [2] C (gok_name (by decide)) (g_name C 2) (d_lst (sa_cons (d_word (kb := 11) C LC T.word (hr.mono (by decide)) (by decide) (LamX.lamS_by (by kernel_rfl)) fun A outer s H E f c' C hr => (d_call C (ok_exchange T) (hr.mono (by decide)) (sa_cons d_str (sa_cons (dv 6) (sa_cons (d_tup (sa_cons d_str sa_nil)) sa_nil))))) sa_nil)))
    (ss_cons (s_asg [2] C (gok_name (by decide)) (g_name C 2) (d_op (o_add C) (dv 2) (d_lst (sa_cons (d_word (kb := 11) C LC T.word (hr.mono (by decide)) (by decide) (LamX.lamS_by (by kernel_rfl)) fun A outer s H E f c' C hr => (d_call C (ok_leave_out T) (hr.mono (by decide)) (sa_cons d_str (sa_cons (d_tup (sa_cons d_str sa_nil)) (sa_cons (dv 6) sa_nil))))) sa_nil))))
    (ss_one (s_if (t_w (w_or (t_cmp (c_ne C) (dv 2) (d_op (o_mul C) (d_lst (sa_cons d_str sa_nil)) d_int)) (w_or1 (t_cmp (c_ne C) (d_word (kb := 11) C LC T.word (hr.mono (by decide)) (by decide) (LamX.lamS_by (by kernel_rfl)) fun A outer s H E f c' C hr => (d_call C (ok_is_harmless T) (hr.mono (by decide)) (sa_cons d_str (sa_cons (dv 6) (sa_cons (dv 6) (sa_cons d_bl sa_nil)))))) d_str)))) (ss_one (s_ret d_bl)) ss_nil)))))
    (ss_cons (s_asg [7] C (gok_name (by decide)) (g_name C 7) (d_tupC [("hand", 10)] C T.n_tuple (by kernel_rfl) (gok_name (by decide)) (i_range1 (pr := default) T.n_range d_int) (fun _ _ _ _ _ C => (g_name C 10)) (fun _ _ _ _ _ C => d_yes) (fun _ _ _ _ _ C => (d_tup (sa_cons (d_tup (sa_cons d_str (sa_cons d_int (sa_cons (d_op (o_add C) d_int (d_op (o_mod C) (dv 10) d_int)) sa_nil)))) (sa_cons (d_tup (sa_cons d_str (sa_cons d_int (sa_cons d_int sa_nil)))) (sa_cons (d_tup (sa_cons d_str (sa_cons d_int (sa_cons d_int sa_nil)))) sa_nil)))))))
    (ss_cons (s_asg [2] C (gok_name (by decide)) (g_name C 2) (d_lst (sa_cons (d_word (kb := 11) C LC T.word (hr.mono (by decide)) (by decide) (LamX.lamS_by (by kernel_rfl)) fun A outer s H E f c' C hr => (d_call C (ok_count_stories T) (hr.mono (by decide)) (sa_cons (dv 7) (sa_cons d_str sa_nil)))) sa_nil)))
    (ss_cons (s_asg [2] C (gok_name (by decide)) (g_name C 2) (d_op (o_add C) (dv 2) (d_lst (sa_cons (d_word (kb := 11) C LC T.word (hr.mono (by decide)) (by decide) (LamX.lamS_by (by kernel_rfl)) fun A outer s H E f c' C hr => (d_call C (ok_judge_lines T) (hr.mono (by decide)) (sa_cons (dv 7) (sa_cons d_str sa_nil)))) sa_nil))))
    (ss_cons (s_asg [2] C (gok_name (by decide)) (g_name C 2) (d_op (o_add C) (dv 2) (d_lst (sa_cons (d_word (kb := 11) C LC T.word (hr.mono (by decide)) (by decide) (LamX.lamS_by (by kernel_rfl)) fun A outer s H E f c' C hr => (d_call C (ok_cheapest_fences T) (hr.mono (by decide)) (sa_cons (dv 7) (sa_cons d_str (sa_cons (d_bi (b_dict C) T.n_dict (sa_cons (d_lst (sa_cons (d_tup (sa_cons (d_tup (sa_cons d_int (sa_cons d_int sa_nil))) (sa_cons d_int sa_nil))) sa_nil)) sa_nil)) sa_nil))))) sa_nil))))
    (ss_one (s_ret (d_cmp (c_eq C) (dv 2) (d_op (o_mul C) (d_lst (sa_cons d_str sa_nil)) d_int)))))))))))))))))))
theorem ok_frozen (T : Fx u mg base) (k : Nat) : DefOk u mg base "frozen" ["thing"] (k + 1) (d_frozen k) 1 [] :=
  DefOk.recu (B := b_frozen) (ps := ["thing"]) (N := ["thing", "item"]) (c := 1) T.f_frozen ⟨rfl, rfl, rfl, by decide +kernel, rfl, by decide +kernel, by decide +kernel⟩ rfl rfl (fun _ _ _ _ _ _ us hl => match us, hl with | [_], _ => rfl) (fun ih k hc hih => fun f cdv A outer s H E C hr =>
  (ss_cons (s_if (t_val (d_isI2 C T.uok 4 3 (by decide) (by decide) T.n_isinstance T.n_list T.n_tuple PyProof.Rows.boot_list PyProof.Rows.boot_tuple (dv 0))) (ss_one (s_ret (d_tupC [("item", 1)] C T.n_tuple (by kernel_rfl) (gok_name (by decide)) (i_seq C (dv 0)) (fun _ _ _ _ _ C => (g_name C 1)) (fun _ _ _ _ _ C => d_yes) (fun _ _ _ _ _ C => (d_call C hih hr (sa_cons (dv 1) sa_nil)))))) ss_nil)
    (ss_one (s_ret (dv 0))))) k
theorem ok_Story___init__ (T : Fx u mg base) : MkOk u mg base "Story" 1 ["self", "reads", "puts", "fences"] 10 d_Story___init__ 4 :=
  MkOk.of (N := ["self", "reads", "puts", "fences", "doing"]) (k := 9) T.m_Story ⟨rfl, rfl, rfl, by decide +kernel, rfl, by decide +kernel, by decide +kernel⟩ rfl rfl (fun _ _ _ _ _ _ us hl => match us, hl with | [_, _, _, _], _ => rfl) fun f cdv A outer s H E C hr =>
  (ss_cons (s_fld 0 C T.k_Story (dv 0) (d_dcT [("doing", 4)] C (by kernel_rfl) (gok_name (by decide)) (i_seq C (d_sortKE C (dv 1) T.n_sorted T.v_order_of)) (fun _ _ _ _ _ C => (g_name C 4)) (fun _ _ _ _ _ C => d_yes) (fun _ _ _ _ _ C => (dv 4)) (fun _ _ _ _ _ C => (d_call C (ok_frozen T 8) (hr.mono (by decide)) (sa_cons (d_ix C T.kdok (dv 1) (dv 4)) sa_nil)))) rfl (by decide) (by decide))
    (ss_cons (s_fld 1 C T.k_Story (dv 0) (d_call C (ok_frozen T 8) (hr.mono (by decide)) (sa_cons (dv 2) sa_nil)) rfl (by decide) (by decide))
    (ss_one (s_fld 2 C T.k_Story (dv 0) (d_call C (ok_frozen T 8) (hr.mono (by decide)) (sa_cons (dv 3) sa_nil)) rfl (by decide) (by decide)))))
theorem ok_story_outcome (T : Fx u mg base) : DefOk u mg base "story_outcome" ["program", "rule", "story"] 8 d_story_outcome 3 [] :=
  DefOk.of (N := ["program", "rule", "story"]) (k := 7) T.f_story_outcome ⟨rfl, rfl, rfl, by decide +kernel, rfl, by decide +kernel, by decide +kernel⟩ rfl rfl (fun _ _ _ _ _ _ us hl => match us, hl with | [_, _, _], _ => rfl) fun f cdv A outer s H E C hr =>
  (ss_cons (s_expr (d_call C (ok_check_program T) (hr.mono (by decide)) (sa_cons (dv 0) sa_nil)))
    (ss_cons (s_expr (d_call C (ok_check_rule T) (hr.mono (by decide)) (sa_cons (dv 1) sa_nil)))
    (ss_one (s_ret d_bad))))
theorem ok_is_let (T : Fx u mg base) : DefOk u mg base "is_let" ["program", "rule", "story"] 8 d_is_let 3 [] :=
  DefOk.of (N := ["program", "rule", "story"]) (k := 7) T.f_is_let ⟨rfl, rfl, rfl, by decide +kernel, rfl, by decide +kernel, by decide +kernel⟩ rfl rfl (fun _ _ _ _ _ _ us hl => match us, hl with | [_, _, _], _ => rfl) fun f cdv A outer s H E C hr =>
  (ss_cons (s_expr (d_call C (ok_check_program T) (hr.mono (by decide)) (sa_cons (dv 0) sa_nil)))
    (ss_cons (s_expr (d_call C (ok_check_rule T) (hr.mono (by decide)) (sa_cons (dv 1) sa_nil)))
    (ss_one (s_ret (d_and (d_notN d_bad) (d_one (d_isN d_bad)))))))
theorem ok_let_by (T : Fx u mg base) : DefOk u mg base "let_by" ["program", "rule"] 9 d_let_by 2 [] :=
  DefOk.of (N := ["program", "rule", "pairs", "story", "end"]) (k := 8) T.f_let_by ⟨rfl, rfl, rfl, by decide +kernel, rfl, by decide +kernel, by decide +kernel⟩ rfl rfl (fun _ _ _ _ _ _ us hl => match us, hl with | [_, _], _ => rfl) fun f cdv A outer s H E C hr =>
  (ss_cons (s_asg [2] C (gok_name (by decide)) (g_name C 2) (d_call C (ok_stories_by T) (hr.mono (by decide)) (sa_cons (dv 0) (sa_cons (dv 1) sa_nil))))
    (ss_one (s_ret (d_lc [("story", 3), ("end", 4)] C (by kernel_rfl) (gok_tup (gsok_cons (gok_name (by decide)) (gsok_cons (gok_name (by decide)) gsok_nil))) (i_seq C (dv 2)) (fun _ _ _ _ _ C => (g_tup C (pgs_cons (g_name C 3) (pgs_cons (g_name C 4) pgs_nil)))) (fun _ _ _ _ _ C => (d_if1 (t_isN d_bad))) (fun _ _ _ _ _ C => (d_tup (sa_cons (dv 3) (sa_cons (dv 4) sa_nil))))))))
theorem ok_outcomes_told (T : Fx u mg base) : DefOk u mg base "outcomes_told" ["program", "rule"] 10 d_outcomes_told 2 [] :=
  DefOk.of (N := ["program", "rule", "_", "end"]) (k := 9) T.f_outcomes_told ⟨rfl, rfl, rfl, by decide +kernel, rfl, by decide +kernel, by decide +kernel⟩ rfl rfl (fun _ _ _ _ _ _ us hl => match us, hl with | [_, _], _ => rfl) fun f cdv A outer s H E C hr =>
  (ss_one (s_ret (d_bi (b_sorted C) T.n_sorted (sa_cons (d_setI [("_", 2), ("end", 3)] C (by kernel_rfl) (gok_tup (gsok_cons (gok_name (by decide)) (gsok_cons (gok_name (by decide)) gsok_nil))) (i_seq C (d_call C (ok_let_by T) (hr.mono (by decide)) (sa_cons (dv 0) (sa_cons (dv 1) sa_nil)))) (fun _ _ _ _ _ C => (g_tup C (pgs_cons (g_name C 2) (pgs_cons (g_name C 3) pgs_nil)))) (fun _ _ _ _ _ C => d_yes) (fun _ _ _ _ _ C => (dv 3))) sa_nil))))
theorem ok_count_let (T : Fx u mg base) : DefOk u mg base "count_let" ["program", "rule"] 10 d_count_let 2 [] :=
  DefOk.of (N := ["program", "rule"]) (k := 9) T.f_count_let ⟨rfl, rfl, rfl, by decide +kernel, rfl, by decide +kernel, by decide +kernel⟩ rfl rfl (fun _ _ _ _ _ _ us hl => match us, hl with | [_, _], _ => rfl) fun f cdv A outer s H E C hr =>
  (ss_one (s_ret (d_bi (b_len C) T.n_len (sa_cons (d_call C (ok_let_by T) (hr.mono (by decide)) (sa_cons (dv 0) (sa_cons (dv 1) sa_nil))) sa_nil))))
theorem ok_explore_race (T : Fx u mg base) : DefOk u mg base "explore_race" ["program"] 8 d_explore_race 1 [] :=
  DefOk.of (N := ["program"]) (k := 7) T.f_explore_race ⟨rfl, rfl, rfl, by decide +kernel, rfl, by decide +kernel, by decide +kernel⟩ rfl rfl (fun _ _ _ _ _ _ us hl => match us, hl with | [_], _ => rfl) fun f cdv A outer s H E C hr =>
  (ss_cons (s_expr (d_call C (ok_check_program T) (hr.mono (by decide)) (sa_cons (dv 0) sa_nil)))
    (ss_one (s_ret d_bad)))
theorem ok_judge_race (T : Fx u mg base) : DefOk u mg base "judge_race" ["program"] 9 d_judge_race 1 [] :=
  DefOk.of (N := ["program", "origins", "state", "pairs"]) (k := 8) T.f_judge_race ⟨rfl, rfl, rfl, by decide +kernel, rfl, by decide +kernel, by decide +kernel⟩ rfl rfl (fun _ _ _ _ _ _ us hl => match us, hl with | [_], _ => rfl) fun f cdv A outer s H E C hr =>
  (ss_cons (s_asg [1] C (gok_name (by decide)) (g_name C 1) (d_call C (ok_explore_race T) (hr.mono (by decide)) (sa_cons (dv 0) sa_nil)))
    (ss_cons (s_for [2] C (gok_name (by decide)) (i_seq C (dv 1)) (g_name C 2) (ss_cons (s_asg [3] C (gok_name (by decide)) (g_name C 3) d_bad)
    (ss_one (s_if (t_tru C (dv 3)) (ss_one (s_ret d_bad)) ss_nil))))
    (ss_one (s_ret d_bad))))
theorem ok_is_raceless (T : Fx u mg base) : DefOk u mg base "is_raceless" ["program"] 10 d_is_raceless 1 [] :=
  DefOk.of (N := ["program"]) (k := 9) T.f_is_raceless ⟨rfl, rfl, rfl, by decide +kernel, rfl, by decide +kernel, by decide +kernel⟩ rfl rfl (fun _ _ _ _ _ _ us hl => match us, hl with | [_], _ => rfl) fun f cdv A outer s H E C hr =>
  (ss_one (s_ret (d_bi (b_isID C T.uok) T.n_isinstance (sa_cons (d_call C (ok_judge_race T) (hr.mono (by decide)) (sa_cons (dv 0) sa_nil)) (sa_cons (d_con T.c_Raceless) sa_nil)))))
theorem ok_races_of (T : Fx u mg base) : DefOk u mg base "races_of" ["program"] 9 d_races_of 1 [] :=
  DefOk.of (N := ["program", "origins", "state", "pair"]) (k := 8) T.f_races_of ⟨rfl, rfl, rfl, by decide +kernel, rfl, by decide +kernel, by decide +kernel⟩ rfl rfl (fun _ _ _ _ _ _ us hl => match us, hl with | [_], _ => rfl) fun f cdv A outer s H E C hr =>
  (ss_cons (s_asg [1] C (gok_name (by decide)) (g_name C 1) (d_call C (ok_explore_race T) (hr.mono (by decide)) (sa_cons (dv 0) sa_nil)))
    (ss_one (s_ret (d_bi (b_sorted C) T.n_sorted (sa_cons d_bad sa_nil)))))
theorem ok_is_as_by_one (T : Fx u mg base) : DefOk u mg base "is_as_by_one" ["program", "rule"] 10 d_is_as_by_one 2 [] :=
  DefOk.of (N := ["program", "rule"]) (k := 9) T.f_is_as_by_one ⟨rfl, rfl, rfl, by decide +kernel, rfl, by decide +kernel, by decide +kernel⟩ rfl rfl (fun _ _ _ _ _ _ us hl => match us, hl with | [_, _], _ => rfl) fun f cdv A outer s H E C hr =>
  (ss_one (s_ret (d_bi (b_isID C T.uok) T.n_isinstance (sa_cons (d_call C (ok_judge_lines T) (hr.mono (by decide)) (sa_cons (dv 0) (sa_cons (dv 1) sa_nil))) (sa_cons (d_con T.c_Lined) sa_nil)))))
theorem ok_program_text (T : Fx u mg base) : DefOk u mg base "program_text" ["program"] 8 d_program_text 1 [] :=
  DefOk.of (N := ["program", "hand"]) (k := 7) T.f_program_text ⟨rfl, rfl, rfl, by decide +kernel, rfl, by decide +kernel, by decide +kernel⟩ rfl rfl (fun _ _ _ _ _ _ us hl => match us, hl with | [_], _ => rfl) fun f cdv A outer s H E C hr =>
  (ss_cons (s_expr (d_call C (ok_check_program T) (hr.mono (by decide)) (sa_cons (dv 0) sa_nil)))
    (ss_one (s_ret d_bad)))
theorem ok_are_twins (T : Fx u mg base) : DefOk u mg base "are_twins" ["one", "other", "rule"] 10 d_are_twins 3 [] :=
  DefOk.of (N := ["one", "other", "rule"]) (k := 9) T.f_are_twins ⟨rfl, rfl, rfl, by decide +kernel, rfl, by decide +kernel, by decide +kernel⟩ rfl rfl (fun _ _ _ _ _ _ us hl => match us, hl with | [_, _, _], _ => rfl) fun f cdv A outer s H E C hr =>
  (ss_one (s_ret (d_isN (d_call C (ok_compare T) (hr.mono (by decide)) (sa_cons (dv 0) (sa_cons (dv 1) (sa_cons (dv 2) sa_nil)))))))
theorem ok__law_first_right (T : Fx u mg base) : DefOk u mg base "_law_first_right" ["program", "bad"] 14 d__law_first_right 2 [] :=
  DefOk.ofL (N := ["program", "bad", "story", "found"]) (k := 13) T.f__law_first_right T.l__law_first_right ⟨rfl, rfl, rfl, by decide +kernel, rfl, by decide +kernel, by decide +kernel⟩ rfl rfl (fun _ _ _ _ _ _ us hl => match us, hl with | [_, _], _ => rfl) fun f cdv A outer s H E LC C hr =>
  (ss_cons (s_asg [2] C (gok_name (by decide)) (g_name C 2) (d_make C (ok_Story___init__ T) (hr.mono (by decide)) (sa_cons d_dict0 (sa_cons (d_tup (sa_cons (d_tup sa_nil) (sa_cons (d_tup sa_nil) (sa_cons (d_tup sa_nil) (sa_cons (d_tup sa_nil) sa_nil))))) (sa_cons (d_tup sa_nil) sa_nil)))))
    (ss_cons (s_asg [3] C (gok_name (by decide)) (g_name C 3) (d_lst (sa_cons (d_word (kb := 11) C LC T.word (hr.mono (by decide)) (by decide) (LamX.lamS_by (by kernel_rfl)) fun A outer s H E f c' C hr => (d_call C (ok_count_stories T) (hr.mono (by decide)) (sa_cons (dv 1) (sa_cons d_non sa_nil)))) sa_nil)))
    (ss_cons (s_asg [3] C (gok_name (by decide)) (g_name C 3) (d_op (o_add C) (dv 3) (d_lst (sa_cons (d_word (kb := 11) C LC T.word (hr.mono (by decide)) (by decide) (LamX.lamS_by (by kernel_rfl)) fun A outer s H E f c' C hr => (d_call C (ok_story_outcome T) (hr.mono (by decide)) (sa_cons (dv 1) (sa_cons d_non (sa_cons (dv 2) sa_nil))))) sa_nil))))
    (ss_cons (s_asg [3] C (gok_name (by decide)) (g_name C 3) (d_op (o_add C) (dv 3) (d_lst (sa_cons (d_word (kb := 11) C LC T.word (hr.mono (by decide)) (by decide) (LamX.lamS_by (by kernel_rfl)) fun A outer s H E f c' C hr => (d_call C (ok_is_let T) (hr.mono (by decide)) (sa_cons (dv 1) (sa_cons d_non (sa_cons (dv 2) sa_nil))))) sa_nil))))
    (ss_cons (s_asg [3] C (gok_name (by decide)) (g_name C 3) (d_op (o_add C) (dv 3) (d_lst (sa_cons (d_word (kb := 11) C LC T.word (hr.mono (by decide)) (by decide) (LamX.lamS_by (by kernel_rfl)) fun A outer s H E f c' C hr => (d_call C (ok_judge_story T) (hr.mono (by decide)) (sa_cons (dv 1) (sa_cons d_non (sa_cons d_non sa_nil))))) sa_nil))))
    (ss_cons (s_asg [3] C (gok_name (by decide)) (g_name C 3) (d_op (o_add C) (dv 3) (d_lst (sa_cons (d_word (kb := 11) C LC T.word (hr.mono (by decide)) (by decide) (LamX.lamS_by (by kernel_rfl)) fun A outer s H E f c' C hr => (d_call C (ok_is_told T) (hr.mono (by decide)) (sa_cons (dv 1) (sa_cons d_str (sa_cons d_non sa_nil))))) sa_nil))))
    (ss_cons (s_asg [3] C (gok_name (by decide)) (g_name C 3) (d_op (o_add C) (dv 3) (d_lst (sa_cons (d_word (kb := 11) C LC T.word (hr.mono (by decide)) (by decide) (LamX.lamS_by (by kernel_rfl)) fun A outer s H E f c' C hr => (d_call C (ok_outcomes_told T) (hr.mono (by decide)) (sa_cons (dv 1) (sa_cons d_str sa_nil)))) sa_nil))))
    (ss_cons (s_asg [3] C (gok_name (by decide)) (g_name C 3) (d_op (o_add C) (dv 3) (d_lst (sa_cons (d_word (kb := 11) C LC T.word (hr.mono (by decide)) (by decide) (LamX.lamS_by (by kernel_rfl)) fun A outer s H E f c' C hr => (d_call C (ok_count_let T) (hr.mono (by decide)) (sa_cons (dv 1) (sa_cons d_str sa_nil)))) sa_nil))))
    (ss_cons (s_asg [3] C (gok_name (by decide)) (g_name C 3) (d_op (o_add C) (dv 3) (d_lst (sa_cons (d_word (kb := 11) C LC T.word (hr.mono (by decide)) (by decide) (LamX.lamS_by (by kernel_rfl)) fun A outer s H E f c' C hr => (d_call C (ok_judge_race T) (hr.mono (by decide)) (sa_cons (dv 1) sa_nil))) sa_nil))))
    (ss_cons (s_asg [3] C (gok_name (by decide)) (g_name C 3) (d_op (o_add C) (dv 3) (d_lst (sa_cons (d_word (kb := 11) C LC T.word (hr.mono (by decide)) (by decide) (LamX.lamS_by (by kernel_rfl)) fun A outer s H E f c' C hr => (d_call C (ok_is_raceless T) (hr.mono (by decide)) (sa_cons (dv 1) sa_nil))) sa_nil))))
    (ss_cons (s_asg [3] C (gok_name (by decide)) (g_name C 3) (d_op (o_add C) (dv 3) (d_lst (sa_cons (d_word (kb := 11) C LC T.word (hr.mono (by decide)) (by decide) (LamX.lamS_by (by kernel_rfl)) fun A outer s H E f c' C hr => (d_call C (ok_races_of T) (hr.mono (by decide)) (sa_cons (dv 1) sa_nil))) sa_nil))))
    (ss_cons (s_asg [3] C (gok_name (by decide)) (g_name C 3) (d_op (o_add C) (dv 3) (d_lst (sa_cons (d_word (kb := 11) C LC T.word (hr.mono (by decide)) (by decide) (LamX.lamS_by (by kernel_rfl)) fun A outer s H E f c' C hr => (d_call C (ok_judge_lines T) (hr.mono (by decide)) (sa_cons (dv 1) (sa_cons d_non sa_nil)))) sa_nil))))
    (ss_cons (s_asg [3] C (gok_name (by decide)) (g_name C 3) (d_op (o_add C) (dv 3) (d_lst (sa_cons (d_word (kb := 11) C LC T.word (hr.mono (by decide)) (by decide) (LamX.lamS_by (by kernel_rfl)) fun A outer s H E f c' C hr => (d_call C (ok_is_as_by_one T) (hr.mono (by decide)) (sa_cons (dv 1) (sa_cons d_non sa_nil)))) sa_nil))))
    (ss_cons (s_asg [3] C (gok_name (by decide)) (g_name C 3) (d_op (o_add C) (dv 3) (d_lst (sa_cons (d_word (kb := 11) C LC T.word (hr.mono (by decide)) (by decide) (LamX.lamS_by (by kernel_rfl)) fun A outer s H E f c' C hr => (d_call C (ok_cheapest_fences T) (hr.mono (by decide)) (sa_cons (dv 1) (sa_cons d_non (sa_cons d_non sa_nil))))) sa_nil))))
    (ss_cons (s_asg [3] C (gok_name (by decide)) (g_name C 3) (d_op (o_add C) (dv 3) (d_lst (sa_cons (d_word (kb := 11) C LC T.word (hr.mono (by decide)) (by decide) (LamX.lamS_by (by kernel_rfl)) fun A outer s H E f c' C hr => (d_call C (ok_program_text T) (hr.mono (by decide)) (sa_cons (dv 1) sa_nil))) sa_nil))))
    (ss_cons (s_asg [3] C (gok_name (by decide)) (g_name C 3) (d_op (o_add C) (dv 3) (d_lst (sa_cons (d_word (kb := 11) C LC T.word (hr.mono (by decide)) (by decide) (LamX.lamS_by (by kernel_rfl)) fun A outer s H E f c' C hr => (d_call C (ok_compare T) (hr.mono (by decide)) (sa_cons (dv 1) (sa_cons d_non (sa_cons d_non sa_nil))))) sa_nil))))
    (ss_cons (s_asg [3] C (gok_name (by decide)) (g_name C 3) (d_op (o_add C) (dv 3) (d_lst (sa_cons (d_word (kb := 11) C LC T.word (hr.mono (by decide)) (by decide) (LamX.lamS_by (by kernel_rfl)) fun A outer s H E f c' C hr => (d_call C (ok_are_twins T) (hr.mono (by decide)) (sa_cons (dv 0) (sa_cons (dv 1) (sa_cons d_non sa_nil))))) sa_nil))))
    (ss_cons (s_if (t_cmp (c_ne C) (dv 3) (d_op (o_mul C) (d_lst (sa_cons d_str sa_nil)) d_int)) (ss_one (s_ret d_bl)) ss_nil)
    (ss_cons (s_asg [3] C (gok_name (by decide)) (g_name C 3) (d_lst (sa_cons (d_word (kb := 11) C LC T.word (hr.mono (by decide)) (by decide) (LamX.lamS_by (by kernel_rfl)) fun A outer s H E f c' C hr => (d_call C (ok_count_stories T) (hr.mono (by decide)) (sa_cons (dv 0) (sa_cons d_str sa_nil)))) sa_nil)))
    (ss_cons (s_asg [3] C (gok_name (by decide)) (g_name C 3) (d_op (o_add C) (dv 3) (d_lst (sa_cons (d_word (kb := 11) C LC T.word (hr.mono (by decide)) (by decide) (LamX.lamS_by (by kernel_rfl)) fun A outer s H E f c' C hr => (d_call C (ok_judge_story T) (hr.mono (by decide)) (sa_cons (dv 0) (sa_cons d_non (sa_cons d_non sa_nil))))) sa_nil))))
    (ss_cons (s_asg [3] C (gok_name (by decide)) (g_name C 3) (d_op (o_add C) (dv 3) (d_lst (sa_cons (d_word (kb := 11) C LC T.word (hr.mono (by decide)) (by decide) (LamX.lamS_by (by kernel_rfl)) fun A outer s H E f c' C hr => (d_call C (ok_is_as_by_one T) (hr.mono (by decide)) (sa_cons (dv 0) (sa_cons d_int sa_nil)))) sa_nil))))
    (ss_cons (s_asg [3] C (gok_name (by decide)) (g_name C 3) (d_op (o_add C) (dv 3) (d_lst (sa_cons (d_word (kb := 11) C LC T.word (hr.mono (by decide)) (by decide) (LamX.lamS_by (by kernel_rfl)) fun A outer s H E f c' C hr => (d_call C (ok_least_cost T) (hr.mono (by decide)) (sa_cons (dv 0) (sa_cons d_str (sa_cons d_non sa_nil))))) sa_nil))))
    (ss_cons (s_asg [3] C (gok_name (by decide)) (g_name C 3) (d_op (o_add C) (dv 3) (d_lst (sa_cons (d_word (kb := 11) C LC T.word (hr.mono (by decide)) (by decide) (LamX.lamS_by (by kernel_rfl)) fun A outer s H E f c' C hr => (d_call C (ok_compare T) (hr.mono (by decide)) (sa_cons (dv 0) (sa_cons (dv 0) (sa_cons d_str sa_nil))))) sa_nil))))
    (ss_cons (s_asg [3] C (gok_name (by decide)) (g_name C 3) (d_op (o_add C) (dv 3) (d_lst (sa_cons (d_word (kb := 11) C LC T.word (hr.mono (by decide)) (by decide) (LamX.lamS_by (by kernel_rfl)) fun A outer s H E f c' C hr => (d_call C (ok_exchange T) (hr.mono (by decide)) (sa_cons d_non (sa_cons d_non (sa_cons d_non sa_nil))))) sa_nil))))
    (ss_one (s_ret (d_cmp (c_eq C) (dv 3) (d_op (o_mul C) (d_lst (sa_cons d_str sa_nil)) d_int))))))))))))))))))))))))))))
theorem ok_law (T : Fx u mg base) : DefOk u mg base "law" ["script"] 15 d_law 1 [] :=
  DefOk.of (N := ["script", "program", "row", "bads", "bad"]) (k := 14) T.f_law ⟨rfl, rfl, rfl, by decide +kernel, rfl, by decide +kernel, by decide +kernel⟩ rfl rfl (fun _ _ _ _ _ _ us hl => match us, hl with | [_], _ => rfl) fun f cdv A outer s H E C hr =>
  (ss_cons (s_asg [1] C (gok_name (by decide)) (g_name C 1) (d_tup (sa_cons (d_tup (sa_cons (d_tup (sa_cons d_str (sa_cons d_int (sa_cons d_int sa_nil)))) (sa_cons (d_tup (sa_cons d_str (sa_cons d_int (sa_cons d_int sa_nil)))) sa_nil))) (sa_cons (d_tup (sa_cons (d_tup (sa_cons d_str (sa_cons d_int (sa_cons d_int sa_nil)))) (sa_cons (d_tup (sa_cons d_str (sa_cons d_int (sa_cons d_int sa_nil)))) sa_nil))) sa_nil))))
    (ss_cons (s_asg [2] C (gok_name (by decide)) (g_name C 2) (d_tup (sa_cons d_str (sa_cons d_int (sa_cons d_bl sa_nil)))))
    (ss_cons (s_asg [3] C (gok_name (by decide)) (g_name C 3) (d_lst (sa_cons d_non (sa_cons (d_tup sa_nil) (sa_cons (d_tup (sa_cons (dv 2) sa_nil)) (sa_cons (d_tup (sa_cons (d_tup (sa_cons (dv 2) sa_nil)) sa_nil)) (sa_cons (d_lst (sa_cons (d_tup sa_nil) sa_nil)) (sa_cons (d_op (o_mul C) (d_tup (sa_cons (d_tup sa_nil) sa_nil)) d_int) (sa_cons (d_tup (sa_cons (d_op (o_mul C) (d_tup (sa_cons (d_tup (sa_cons d_str sa_nil)) sa_nil)) d_int) sa_nil)) (sa_cons (d_tup (sa_cons (d_tup (sa_cons (d_tup (sa_cons d_str (sa_cons d_int (sa_cons d_int (sa_cons d_int sa_nil))))) sa_nil)) sa_nil)) (sa_cons (d_tup (sa_cons (d_tup (sa_cons (d_tup sa_nil) sa_nil)) sa_nil)) sa_nil)))))))))))
    (ss_cons (s_if (t_not (t_val (d_allC [("bad", 4)] C T.n_all (by kernel_rfl) (gok_name (by decide)) (i_seq C (dv 3)) (fun _ _ _ _ _ C => (g_name C 4)) (fun _ _ _ _ _ C => d_yes) (fun _ _ _ _ _ C => (d_call C (ok__law_first_right T) (hr.mono (by decide)) (sa_cons (dv 1) (sa_cons (dv 4) sa_nil))))))) (ss_one (s_ret d_bl)) ss_nil)
    (ss_one (s_ret (d_and (d_call C (ok__law_others_right T) (hr.mono (by decide)) (sa_cons (dv 1) sa_nil)) (d_one (d_bi (b_isID C T.uok) T.n_isinstance (sa_cons (dv 0) (sa_cons (d_ty 4 T.n_list PyProof.Rows.boot_list) sa_nil)))))))))))
end
end K49X
end Ev

set_option Elab.async false
set_option linter.all false
set_option maxRecDepth 100000
set_option maxHeartbeats 400000
/-! EvHd: what a text asks of its surroundings, checked by Bools over the written part. -/
namespace Ev
open PySem PySem.Spec PyProof.Rows L2
/-! ### a constant's value -/
def rvAll (f : D → Value → Bool) : List D → List Value → Bool
  | [], [] => true
  | d :: l, v :: r => f d v && rvAll f l r
  | _, _ => false
def rvB (K : PySem.W.Frag) : Nat → D → Value → Bool
  | 0, _, _ => false
  | n + 1, d, v => match d, v with
    | .non, .none => true
    | .bl b, .bool c => b == c
    | .int i, .int j _ => decide (i = j)
    | .str s, .str x _ => decide (x.cps.toList = s)
    | .tup l, .ref a => (match K.lookup a with
      | some ⟨.type c, _, .seq its _, _⟩ => decide (c = "tuple") && (decide (its.size ≤ 1000) && rvAll (rvB K n) l its.toList)
      | _ => false)
    | _, _ => false
def RvK (K : PySem.W.Frag) (d : D) (v : Value) : Prop := ∃ x, RelV x v ∧ ∀ (u : U) (rho : Nat → Addr) (m : Nat) (H : Hp), u.K = K → RV u rho m H d x
theorem rvAll_ok {K : PySem.W.Frag} {f : D → Value → Bool} (hf : ∀ d v, f d v = true → RvK K d v) : ∀ {l : List D} {r : List Value}, rvAll f l r = true → ∃ xs, Vals xs r ∧ ∀ (u : U) (rho : Nat → Addr) (m : Nat) (H : Hp), u.K = K → RVs u rho m H l xs
  | [], [], _ => ⟨[], .nil, fun _ _ _ _ _ => .nil⟩
  | [], _ :: _, h => by cases h
  | _ :: _, [], h => by cases h
  | d :: l, v :: r, h => by
    obtain ⟨h1, h2⟩ := He.ba h
    obtain ⟨x, r1, a1⟩ := hf d v h1
    obtain ⟨xs, r2, a2⟩ := rvAll_ok hf h2
    exact ⟨x :: xs, .cons r1 r2, fun u rho m H e => .cons (a1 u rho m H e) (a2 u rho m H e)⟩
theorem rvB_ok {K : PySem.W.Frag} : ∀ (n : Nat) (d : D) (v : Value), rvB K n d v = true → RvK K d v
  | 0, _, _, h => by cases h
  | n + 1, d, v, h => by
    unfold rvB at h
    split at h
    · exact ⟨.non, rfl, fun _ _ _ _ _ => .non⟩
    · rename_i b c
      have e : b = c := by
        cases b <;> cases c <;> first
          | rfl
          | cases h
      subst e
      exact ⟨.bl b, rfl, fun _ _ _ _ _ => .bl b⟩
    · rename_i i j t
      have e := of_decide_eq_true h
      subst e
      exact ⟨.int i, ⟨t, rfl⟩, fun _ _ _ _ _ => .int i⟩
    · rename_i s x t
      exact ⟨.str x, ⟨t, rfl⟩, fun _ _ _ _ _ => .str x (of_decide_eq_true h)⟩
    · rename_i l a
      split at h
      · rename_i c od its k sl e
        obtain ⟨h1, h2⟩ := He.ba h
        obtain ⟨h3, h4⟩ := He.ba h2
        obtain ⟨xs, r1, r2⟩ := rvAll_ok (rvB_ok n) h4
        refine ⟨.ref a, rfl, fun u rho m H eK => .tup (.inr ⟨_, its, k, by rw [eK]; exact e, ?_, rfl, ?_, r1⟩) (r2 u rho m H eK)⟩
        · rw [of_decide_eq_true h1] <;> rfl
        · have := of_decide_eq_true h3
          rw [sizeLine_eq]
          omega
      · cases h
    · cases h
/-- a global constant -/
def conOkB (K : PySem.W.Frag) (x : Str) (d : D) : Bool := match PySem.W.nsIn K mainGlobals x with
  | some (some v) => rvB K 8 d v
  | _ => false
section
variable {u : U} {K : PySem.W.Frag} {h : Heap} {mg : Str → Option Value}
theorem conOk_of (hK : u.K = K) (X : K.In h) (G : h.Ns mainGlobals mg) {x : Str} {d : D} (c : conOkB K x d = true) : ConOk u mg x d := by
  unfold conOkB at c
  split at c
  · rename_i v e
    obtain ⟨y, r1, r2⟩ := rvB_ok 8 d v c
    exact ⟨y, v, PySem.W.mg_of X G e, r1, fun rho n H => r2 u rho n H hK⟩
  · cases c
theorem conOk_cls (hK : u.K = K) (X : K.In h) (G : h.Ns mainGlobals mg) {x : Str} {c : Nat} (hc : u.cl c = He.ga K x) (f : (He.Fa.glo x).ok K = true) : ConOk u mg x (.cls c) :=
  ⟨.ref (He.ga K x), .ref (He.ga K x), He.glo_ok X G f, rfl, fun rho n H => .cls c hc.symm⟩
theorem conOk_kd (hK : u.K = K) (X : K.In h) (G : h.Ns mainGlobals mg) {x : Str} {k : Nat} (hc : u.kd k = He.ga K x) (f : (He.Fa.glo x).ok K = true) : ConOk u mg x (.kd k) :=
  ⟨.ref (He.ga K x), .ref (He.ga K x), He.glo_ok X G f, rfl, fun rho n H => .kd k hc.symm⟩
/-! ### own classes -/
def upto : Nat → (Nat → Bool) → Bool
  | 0, _ => true
  | n + 1, f => f n && upto n f
theorem upto_ok {f : Nat → Bool} : ∀ {n : Nat}, upto n f = true → ∀ c, c < n → f c = true
  | 0, _, c, hc => absurd hc (Nat.not_lt_zero c)
  | n + 1, h, c, hc => by
    obtain ⟨h1, h2⟩ := He.ba h
    rcases Nat.lt_succ_iff_lt_or_eq.mp hc with z | z
    · exact upto_ok h2 c z
    · rw [z]; exact h1
def uokB (K : PySem.W.Frag) (nm : Nat → Str) (nc : Nat) : Bool :=
  upto nc (fun c => (He.Fa.cls (nm c)).ok K && (He.eqO (PySem.W.findIn K (.ref (He.ga K (nm c))) "__class__") (some (some (.builtin "object.__class__"))) && (decide (PySem.W.mroIn K (He.ga K (nm c)) (.type "object") = some true) &&
    (upto nc (fun d => decide (PySem.W.kitOne K (.ref (He.ga K (nm c))) (.ref (He.ga K (nm d))) = some (Nat.beq c d))) &&
    upto 7 (fun k => decide (PySem.W.kitOne K (.type (tyName k)) (.ref (He.ga K (nm c))) = some false) && decide (PySem.W.kitOne K (.ref (He.ga K (nm c))) (.type (tyName k)) = some false)))))) &&
  (He.eqO (PySem.W.specialIn K (.builtin "object.__class__") "__get__") (some (some (.builtin "getset_descriptor.__get__"))) && decide (PySem.W.takesIn K (.builtin "object.__class__") = some true))
theorem uok_of {nm : Nat → Str} {nc : Nat} (hK : u.K = K) (hc : ∀ c, c < nc → u.cl c = He.ga K (nm c)) (b : uokB K nm nc = true) : UOk u nc := by
  obtain ⟨b1, b2⟩ := He.ba b
  obtain ⟨b3, b4⟩ := He.ba b2
  have q := fun c (h : c < nc) => upto_ok b1 c h
  refine ⟨fun c h => ?_, fun c h => ?_, ?_, ?_, fun c h => ?_, fun c d h h' => ?_, fun k c hk h => ?_, fun c k h hk => ?_⟩
  · rw [hK, hc c h]
    exact He.cls_ok (He.ba (q c h)).1
  · rw [hK, hc c h]
    exact He.eqO_ok (He.ba (He.ba (q c h)).2).1
  · rw [hK]; exact He.eqO_ok b3
  · rw [hK]; exact of_decide_eq_true b4
  · rw [hK, hc c h]
    exact of_decide_eq_true (He.ba (He.ba (He.ba (q c h)).2).2).1
  · rw [hK, hc c h, hc d h']
    exact of_decide_eq_true (upto_ok (He.ba (He.ba (He.ba (He.ba (q c h)).2).2).2).1 d h')
  · rw [hK, hc c h]
    exact of_decide_eq_true (He.ba (upto_ok (He.ba (He.ba (He.ba (He.ba (q c h)).2).2).2).2 k hk)).1
  · rw [hK, hc c h]
    exact of_decide_eq_true (He.ba (upto_ok (He.ba (He.ba (He.ba (He.ba (q c h)).2).2).2).2 k hk)).2
/-! ### fields, errors -/
def fldsB (K : PySem.W.Frag) (nm : Nat → Str) (fld : Nat → List Str) (f : Str) (tb : List (Nat × Nat)) : Bool :=
  tb.all fun p => (He.Fa.cls (nm p.1)).ok K && ((He.Fa.noat (nm p.1) f).ok K && (decide ((fld p.1)[p.2]? = some f) && decide (fld p.1).Nodup))
theorem fldIx_mem : ∀ {tb : List (Nat × Nat)} {c j : Nat}, fldIx tb c = some j → (c, j) ∈ tb
  | [], _, _, h => by cases h
  | (d, i) :: r, c, j, h => by
    unfold fldIx at h
    cases e : Nat.beq d c with
    | true =>
      rw [e] at h
      have e2 : i = j := Option.some.inj h
      rw [← nat_beq e, e2]
      exact List.mem_cons_self
    | false =>
      rw [e] at h
      exact List.mem_cons_of_mem _ (fldIx_mem h)
theorem flds_of {nm : Nat → Str} {f : Str} {tb : List (Nat × Nat)} (hK : u.K = K) (hc : ∀ c, u.cl c = He.ga K (nm c)) (b : fldsB K nm u.fld f tb = true) : FldsOk u f tb := by
  refine ⟨fun c j e => ?_⟩
  obtain ⟨b1, b2⟩ := He.ba (List.all_eq_true.mp b (c, j) (fldIx_mem e))
  obtain ⟨b3, b4⟩ := He.ba b2
  obtain ⟨b5, b6⟩ := He.ba b4
  rw [hK, hc c]
  exact ⟨He.cls_ok b1, He.noat_ok b3, of_decide_eq_true b5, of_decide_eq_true b6⟩
theorem fldOk_of {nm : Nat → Str} {c : Nat} {fs : List Str} (hK : u.K = K) (hc : u.cl c = He.ga K (nm c)) (hf : u.fld c = fs) (b1 : (He.Fa.cls (nm c)).ok K = true) (b2 : (fs.all fun f => (He.Fa.noat (nm c) f).ok K) = true) : FldOk u c fs := by
  refine ⟨?_, fun f h => ?_, hf⟩
  · rw [hK, hc]; exact He.cls_ok b1
  · rw [hK, hc]; exact He.noat_ok (List.all_eq_true.mp b2 f h)
theorem excOk_of {x : Str} {c : Nat} (hK : u.K = K) (hc : u.cl c = He.ga K x) (X : K.In h) (G : h.Ns mainGlobals mg) (f : (He.Fa.glo x).ok K = true) (b : (He.Fa.exc x).ok K = true) : ExcOk u mg x c := by
  obtain ⟨b1, b2, b3, b4⟩ := He.exc_ok b
  refine ⟨by rw [hc]; exact He.glo_ok X G f, ?_, ?_, ?_, ?_⟩
  · rw [hK, hc]; exact b1
  · rw [hK, hc]; exact b2
  · rw [hK, hc]; exact b3
  · rw [hK, hc]; exact b4
/-! ### constant dicts -/
def kdHitB (K : PySem.W.Frag) (a : Addr) (l : List (List Nat × D)) : Bool := l.all fun p => match PySem.W.nsIn K a ⟨p.1.toArray⟩ with
  | some (some v) => rvB K 8 p.2 v
  | _ => false
def kdMissB (K : PySem.W.Frag) (a : Addr) (l : List (List Nat)) : Bool := l.all fun s => He.eqO (PySem.W.nsIn K a ⟨s.toArray⟩) (some none)
theorem kdok_of {nk : Nat} {kdT : Nat → List (List Nat × D)} {kdN : Nat → List (List Nat)} (hK : u.K = K) (hl : ∀ k, k < nk → ∃ es n, KDict K u.w (u.kd k) es n) (hh : ∀ k, k < nk → kdHitB K (u.kd k) (kdT k) = true) (hm : ∀ k, k < nk → kdMissB K (u.kd k) (kdN k) = true) : KDOk u nk kdT kdN := by
  refine ⟨fun k h => ?_, fun k h p hp => ?_, fun k h s hs => ?_⟩
  · obtain ⟨es, n, e1, e2, e3⟩ := hl k h
    rw [hK]
    exact ⟨es, n, e1, e2, e3⟩
  · have b := List.all_eq_true.mp (hh k h) p hp
    split at b
    · rename_i v e
      obtain ⟨x, r1, r2⟩ := rvB_ok 8 p.2 v b
      rw [hK]
      exact ⟨v, x, e, r1, fun rho n H => r2 u rho n H hK⟩
    · cases b
  · rw [hK]
    exact He.eqO_ok (List.all_eq_true.mp (hm k h) s hs)
end
end Ev
namespace Ev
open PySem PySem.Spec PyProof.Rows L2
section
variable {K : PySem.W.Frag}
/-! ### own errors, caught -/
def excB (K : PySem.W.Frag) (D : Addr) : Bool :=
  He.eqO (PySem.W.findIn K (.ref D) "__getattribute__") (some (some (.builtin "BaseException.__getattribute__"))) && (He.eqO (PySem.W.findIn K (.ref D) "__getattr__") (some none) && (decide (PySem.W.subIn K (.ref D) (.type "BaseException") = some true) && (PySem.W.hasDictIn K D &&
    (He.eqO (PySem.W.findIn K (.ref D) "__class__") (some (some (.builtin "object.__class__"))) && decide (PySem.W.mroIn K D (.type "object") = some true)))))
theorem excC_of {D : Addr} (b : excB K D = true) (h1 : PySem.W.specialIn K (.builtin "object.__class__") "__get__" = some (some (.builtin "getset_descriptor.__get__"))) (h2 : PySem.W.takesIn K (.builtin "object.__class__") = some true) : ExcC K D := by
  obtain ⟨b1, b⟩ := He.ba b
  obtain ⟨b2, b⟩ := He.ba b
  obtain ⟨b3, b⟩ := He.ba b
  obtain ⟨b4, b⟩ := He.ba b
  obtain ⟨b5, b6⟩ := He.ba b
  exact ⟨He.eqO_ok b1, He.eqO_ok b2, of_decide_eq_true b3, b4, He.eqO_ok b5, h1, h2, of_decide_eq_true b6⟩
/-! ### a def with lambdas: its code object, its table -/
theorem lamF_of {u : U} {h base : Heap} {mg : Str → Option Value} {x : Str} {c P : Addr} (hK : u.K = K) (X : K.In h) (G : h.Ns mainGlobals mg) (f : (He.Fa.glo x).ok K = true) (hd : ∃ fd, ∃ (params : Arguments) (body : List Stmt) (scope : Scope), FunD K x x params body scope [] [] (He.ga K x) fd)
    (hc : c = (He.cT K (x, none)).1) (hP : P = (He.cT K (x, none)).2) (TB : LamX.TabB base mg c P) (hm : (P, x ++ (".<locals>." : Str) ++ ("<lambda>" : Str)) ∈ u.T) (hu : ∀ p ∈ u.T, p.1 = P → p.2 = x ++ (".<locals>." : Str) ++ ("<lambda>" : Str)) : LamF u mg base x := by
  refine ⟨He.ga K x, c, P, He.glo_ok X G f, fun oc od fd osl lk c' e => ?_, TB, hm, hu⟩
  rw [hK] at lk
  rw [hc]
  exact (He.codeOf_eq (p := (x, none)) lk e).symm
end
end Ev

set_option Elab.async false
set_option linter.all false
set_option maxRecDepth 100000
set_option maxHeartbeats 4000000
namespace Ev
namespace K49X
open PySem PySem.Spec PyProof.Rows L2
/-- an own error is one of another class -/
def sub : Nat → Nat → Bool
  | 12, 12 => true
  | 13, 12 => true
  | 13, 13 => true
  | 14, 12 => true
  | 14, 14 => true
  | 15, 12 => true
  | 15, 15 => true
  | 16, 12 => true
  | 16, 16 => true
  | 17, 12 => true
  | 17, 17 => true
  | 18, 12 => true
  | 18, 18 => true
  | 19, 12 => true
  | 19, 19 => true
  | _, _ => false
def told (c : Nat) : Str := (if sub c 13 = true then ("program" : Str) else (if sub c 14 = true then ("rule" : Str) else (if sub c 15 = true then ("outcome" : Str) else (if sub c 16 = true then ("prices" : Str) else (if sub c 17 = true then ("rows" : Str) else (if sub c 18 = true then ("twins" : Str) else (if sub c 19 = true then ("large" : Str) else ("other" : Str))))))))
theorem told_eq : ∀ c, okc c = true → told c = wordsS c
  | 12, _ => by decide +kernel
  | 13, _ => by decide +kernel
  | 14, _ => by decide +kernel
  | 15, _ => by decide +kernel
  | 16, _ => by decide +kernel
  | 17, _ => by decide +kernel
  | 18, _ => by decide +kernel
  | 19, _ => by decide +kernel
  | n, h => by
    unfold okc at h
    split at h
    · decide +kernel
    · decide +kernel
    · decide +kernel
    · decide +kernel
    · decide +kernel
    · decide +kernel
    · decide +kernel
    · decide +kernel
    · cases h
theorem of_word {u : U} {mg : Str → Option Value} {base : Heap} (F : ∃ f fd, mg "_law_of" = some (.ref f) ∧ FunD u.K "_law_of" "_law_of" (defArgs (top 225)) (defBody (top 225)) (defScope (top 225)) [] [] f fd) (n1 : mg "isinstance" = none) (g13 : mg "BadProgram" = some (.ref (u.cl 13))) (g14 : mg "BadRule" = some (.ref (u.cl 14))) (g15 : mg "BadOutcome" = some (.ref (u.cl 15))) (g16 : mg "BadPrices" = some (.ref (u.cl 16))) (g17 : mg "BadRows" = some (.ref (u.cl 17))) (g18 : mg "BadTwins" = some (.ref (u.cl 18))) (g19 : mg "TooLarge" = some (.ref (u.cl 19)))
    (ec : ∀ c, okc c = true → ExcC u.K (u.cl c)) (kt : ∀ c j, okc c = true → okc j = true → PySem.W.kitOne u.K (.ref (u.cl c)) (.ref (u.cl j)) = some (sub c j)) :
    ∀ X : Cx, X.K = u.K → X.prog = u.P → X.w = u.w → X.mg = mg → X.base = base → OfOk X u okc wordsS "_law_of" 1 := by
  intro X hK hP hW hm hb
  obtain ⟨f, fd, hg, F⟩ := F
  have bn := F.bindsN (ps := ["error"]) fun _ _ _ _ _ _ us hl => match us, hl with | [_], _ => rfl
  obtain ⟨oc, od, dV, kV, doc, pm, an, cdv, ct, osl, rfl, lk, hcd, _, _⟩ := F.ex
  refine ⟨f, _, "error", by rw [hm]; exact hg, by rw [hK]; exact F.kp, by rw [hK]; exact bn, fun c p hc cg A outer s H args Q E hr hot hpin e0 hbt hq => ?_⟩
  rw [← hK] at lk hcd
  refine run_caught (k := 0) (N := ["error"]) (z := told c) lk hcd ⟨rfl, rfl, rfl, by decide +kernel, rfl, by decide +kernel, by decide +kernel⟩ hr hot hpin e0 hbt (fun A outer s H E hr => ?_) (by rw [told_eq c hc]; exact hq)
  have EC : ExcC X.K (u.cl c) := by rw [hK]; exact ec c hc
  refine ⟨tWord p.1 (told c), ?_, fun Q q => ⟨rfl, q⟩⟩
  generalize hZ : L2H.cxH CX0 X.prog X.w X.K X.mg X.base ["error"] "_law_of" (defScope (top 225)) f cdv A outer s H E p = Z
  have zp : p ∈ Z.pn := by subst hZ; exact List.mem_cons_self
  have zK : Z.K = X.K := by subst hZ; rfl
  have zm : Z.mg = mg := by subst hZ; exact hm
  have zk : ∀ j, okc j = true → PySem.W.kitOne Z.K (.ref (u.cl c)) (.ref (u.cl j)) = some (sub c j) := fun j hj => by rw [zK, hK]; exact kt c j hc hj
  have EC2 : ExcC Z.K (u.cl c) := by rw [zK]; exact EC
  have n2 : Z.mg "isinstance" = none := by rw [zm]; exact n1
  refine word_if (z := ("program" : Str)) zp EC2 cg n2 (by rw [zm]; exact g13) (zk 13 rfl) (by subst hZ; exact pe_var (i := 0) rfl (.inl rfl)) (by subst hZ; rfl) (by subst hZ; rfl) (by decide) (by subst hZ; rfl) (by subst hZ; rfl) (by subst hZ; rfl) (fun _ => by subst hZ; rfl) ?_
  refine word_if (z := ("rule" : Str)) zp EC2 cg n2 (by rw [zm]; exact g14) (zk 14 rfl) (by subst hZ; exact pe_var (i := 0) rfl (.inl rfl)) (by subst hZ; rfl) (by subst hZ; rfl) (by decide) (by subst hZ; rfl) (by subst hZ; rfl) (by subst hZ; rfl) (fun _ => by subst hZ; rfl) ?_
  refine word_if (z := ("outcome" : Str)) zp EC2 cg n2 (by rw [zm]; exact g15) (zk 15 rfl) (by subst hZ; exact pe_var (i := 0) rfl (.inl rfl)) (by subst hZ; rfl) (by subst hZ; rfl) (by decide) (by subst hZ; rfl) (by subst hZ; rfl) (by subst hZ; rfl) (fun _ => by subst hZ; rfl) ?_
  refine word_if (z := ("prices" : Str)) zp EC2 cg n2 (by rw [zm]; exact g16) (zk 16 rfl) (by subst hZ; exact pe_var (i := 0) rfl (.inl rfl)) (by subst hZ; rfl) (by subst hZ; rfl) (by decide) (by subst hZ; rfl) (by subst hZ; rfl) (by subst hZ; rfl) (fun _ => by subst hZ; rfl) ?_
  refine word_if (z := ("rows" : Str)) zp EC2 cg n2 (by rw [zm]; exact g17) (zk 17 rfl) (by subst hZ; exact pe_var (i := 0) rfl (.inl rfl)) (by subst hZ; rfl) (by subst hZ; rfl) (by decide) (by subst hZ; rfl) (by subst hZ; rfl) (by subst hZ; rfl) (fun _ => by subst hZ; rfl) ?_
  refine word_if (z := ("twins" : Str)) zp EC2 cg n2 (by rw [zm]; exact g18) (zk 18 rfl) (by subst hZ; exact pe_var (i := 0) rfl (.inl rfl)) (by subst hZ; rfl) (by subst hZ; rfl) (by decide) (by subst hZ; rfl) (by subst hZ; rfl) (by subst hZ; rfl) (fun _ => by subst hZ; rfl) ?_
  exact word_last (p9 := ⟨0, 0, 0, 0⟩) (z := ("large" : Str)) zp EC2 cg n2 (by rw [zm]; exact g19) (zk 19 rfl) (by subst hZ; exact pe_var (i := 0) rfl (.inl rfl)) (by subst hZ; rfl) (by subst hZ; rfl) (by decide) (by subst hZ; rfl) (by subst hZ; rfl) (by subst hZ; rfl) (fun _ => by subst hZ; rfl)
theorem word_of {u : U} {mg : Str → Option Value} {base : Heap} (W : ∃ g fd, mg "_law_word" = some (.ref g) ∧ FunD u.K "_law_word" "_law_word" (defArgs (top 224)) (defBody (top 224)) (defScope (top 224)) [] [] g fd)
    (ex : ∃ B, mg "ViewError" = some (.ref B) ∧ ∀ c, okc c = true → PySem.W.exmOne u.K (.ref (u.cl c)) (.ref B) = some true)
    (hof : ∀ X : Cx, X.K = u.K → X.prog = u.P → X.w = u.w → X.mg = mg → X.base = base → OfOk X u okc wordsS "_law_of" 1) :
    WordOk u mg base "_law_word" "call" "error" "ViewError" "_law_of" fineS okc wordsS 1 (defArgs (top 224)) (defBody (top 224)) (defScope (top 224)) := by
  obtain ⟨f, fd, hg, F⟩ := W
  have bn := F.bindsN (ps := ["call"]) fun _ _ _ _ _ _ us hl => match us, hl with | [_], _ => rfl
  refine ⟨⟨f, fd, hg, F, bn⟩, ⟨rfl, rfl, rfl, by decide +kernel, rfl, by decide +kernel, by decide +kernel⟩, by rfl, .inl rfl, by rfl, by rfl, by decide, by decide, by decide, by decide, by decide, by decide, ex, hof, ?_⟩
  have ef : fineS = ("fine" : Str) := by decide +kernel
  rw [ef]
  exact ⟨_, _, _, _, _, _, _, _, _, _, _, _, _, rfl, fun _ => rfl, fun _ => rfl, fun _ => rfl⟩
end K49X
end Ev

set_option Elab.async false
set_option linter.all false
set_option maxRecDepth 100000
set_option maxHeartbeats 400000
/-! EvHk: a hook that looks at the objects which a function of the heap names. -/
namespace Ev
open PySem PySem.Spec PyProof.Rows L2
abbrev Look : Type := (Addr → Option Obj) → List Addr
def objD (g : Addr → Option Obj) (a : Addr) : PySem.Data := match g a with
  | some o => o.data
  | none => .fields #[]
/-- a function's code object, its defaults -/
def ofFn (g : Addr → Option Obj) (a : Addr) : List Addr := match objD g a with
  | .func fd => He.refV fd.code ++ He.refV fd.defaults
  | _ => []
/-- what a tuple, a dict holds, n deep -/
def ofVal (g : Addr → Option Obj) : Nat → Addr → List Addr
  | 0, _ => []
  | n + 1, a => match objD g a with
    | .seq its _ => its.toList.flatMap fun v => match v with
      | .ref b => b :: ofVal g n b
      | _ => []
    | .dict es _ => es.toList.flatMap fun e => match e.val with
      | .ref b => b :: ofVal g n b
      | _ => []
    | _ => []
/-- a class: its names, its methods with their code -/
def ofCls (g : Addr → Option Obj) (a : Addr) : List Addr := match objD g a with
  | .cls cd => cd.ns :: (match objD g cd.ns with
    | .dict es _ => es.toList.flatMap fun e => match e.val with
      | .ref b => b :: ofFn g b
      | _ => []
    | _ => [])
  | _ => []
def isCls (g : Addr → Option Obj) (a : Addr) : Bool := match objD g a with
  | .cls _ => true
  | _ => false
def tops (g : Addr → Option Obj) : List Addr := match objD g mainGlobals with
  | .dict es _ => es.toList.flatMap fun e => He.refV e.val
  | _ => []
/-- the names, the classes first -/
def lookAll : Look := fun g =>
  mainGlobals :: ((tops g).filter (isCls g)).flatMap (fun a => a :: (ofCls g a)) ++ ((tops g).filter fun a => !isCls g a).flatMap fun a => a :: (ofFn g a ++ ofVal g 5 a)
/-- a list in full, then what is asked of it -/
def forced {α β : Type} : List α → (List α → β) → β
  | [], k => k []
  | x :: r, k => forced r fun r' => k (x :: r')
theorem forced_eq {α β : Type} : ∀ (l : List α) (k : List α → β), forced l k = k l
  | [], _ => rfl
  | x :: r, k => forced_eq r fun r' => k (x :: r')
def obsL (as : Look) (fa : List He.Fa) (fn : List He.DefD) (ts : List He.Tab) (tf : List He.Defn) (ex : PySem.W.Frag → Bool) (g : Addr → Option Obj) : He.AlX :=
  forced (as g) fun l => forced (He.frT g l) fun K => (He.obsT fa fn ts K, ex K && He.tabsB g tf K)
theorem saysL_of {as : Look} {fa : List He.Fa} {fn : List He.DefD} {ts : List He.Tab} {tf : List He.Defn} {ex : PySem.W.Frag → Bool} {w : World} {h : Heap} (e : obsL as fa fn ts tf ex h.get? = He.valX fn ts w) : He.SaysX fa fn ts tf ex w h (He.frT h.get? (as h.get?)) := by
  unfold obsL at e
  rw [forced_eq, forced_eq] at e
  have e1 : He.obsT fa fn ts (He.frT h.get? (as h.get?)) = He.valT fn ts w := congrArg (fun z : He.AlX => z.1) e
  have e2 : (ex (He.frT h.get? (as h.get?)) && He.tabsB h.get? tf (He.frT h.get? (as h.get?))) = true := congrArg (fun z : He.AlX => z.2) e
  obtain ⟨h1, h2⟩ := He.ba e2
  have key : ∀ p ∈ tf, PySem.W.codeHdIn (He.frT h.get? (as h.get?)) (He.cT (He.frT h.get? (as h.get?)) p).1 (He.cT (He.frT h.get? (as h.get?)) p).2 = true ∧ ∃ o, h.get? (He.cT (He.frT h.get? (as h.get?)) p).2 = some o ∧ He.emptyTab o = true := fun p hp => by
    obtain ⟨h3, h4⟩ := He.ba (List.all_eq_true.mp h2 p hp)
    refine ⟨h3, ?_⟩
    cases q : h.get? (He.cT (He.frT h.get? (as h.get?)) p).2 with
    | none =>
      rw [q] at h4
      cases h4
    | some o =>
      rw [q] at h4
      exact ⟨o, rfl, h4⟩
  exact ⟨e1, h1, fun p hp => (key p hp).1, fun p hp => by
    obtain ⟨_, o, q, z⟩ := key p hp
    exact He.frT_none q z, fun p hp => by
    obtain ⟨_, o, q, z⟩ := key p hp
    rw [q, He.emptyTab_eq z]⟩
def hookL (as : Look) (fa : List He.Fa) (fn : List He.DefD) (ts : List He.Tab) (tf : List He.Defn) (ex : PySem.W.Frag → Bool) : PySem.W.Hook where
  α := He.AlX
  obs := fun s => obsL as fa fn ts tf ex s.heap.get?
  val := fun w => He.valX fn ts w
  says := fun w h => ∃ K : PySem.W.Frag, K.In h ∧ He.SaysX fa fn ts tf ex w h K
  of := fun _ _ e => ⟨_, He.frT_in, saysL_of e⟩
  keeps := fun _ _ _ ⟨K, hK, c⟩ k => ⟨K, PySem.W.Frag.In.keeps hK k, ⟨c.t, c.more, c.hd, c.out, fun p hp => k _ _ (c.empty p hp)⟩⟩
theorem obsL_eq {as : Look} {fa : List He.Fa} {fn : List He.DefD} {ts : List He.Tab} {tf : List He.Defn} {ex : PySem.W.Frag → Bool} {g : Addr → Option Obj} {s : Shared} (h : ∀ a, g a = s.heap.get? a) : obsL as fa fn ts tf ex g = (hookL as fa fn ts tf ex).obs s := by
  have e : g = s.heap.get? := funext h
  rw [e] <;> rfl
end Ev

set_option Elab.async false
set_option linter.all false
set_option maxRecDepth 100000
set_option maxHeartbeats 0
namespace Ev
namespace K49X
open PySem PySem.W PySem.Calls PyProof.Rows L2
abbrev R : OpenRow := OpenLaw.row PySem.Challenge.rw_memoryviews_k49_refused
abbrev qv : Program := view R.prog [0, 1, 228]
def lo0 : List PySem.Str := ["ViewError", "BadProgram", "BadRule", "BadOutcome", "BadPrices", "BadRows", "BadTwins", "TooLarge", "is_number", "is_between", "is_tuple_of", "is_worded", "has_numbers", "same", "same_rows", "same_tables"]
def lo1 : List PySem.Str := ["frozen", "listed", "in_line", "lists_all", "replaced", "HANDS", "ROWS", "PLACES", "HIGHEST_VALUE", "NOTHING_HELD", "NOTHING_THERE", "PUTS", "FORMS", "is_program", "is_hand", "is_row"]
def lo2 : List PySem.Str := ["check_program", "place_of", "slot_of", "is_putting", "is_getting", "value_put", "is_held", "is_there", "check_outcome", "steps_between", "doings_of", "row_steps", "past_steps", "circle_among", "way_among", "place_at"]
def lo3 : List PySem.Str := ["is_kept", "together", "first_messages", "is_open", "moved_up", "row_moved_up", "seeing", "fenced", "with_message", "RULES", "is_rule", "check_rule", "start_of", "next_row", "has_ended", "end_of"]
def lo4 : List PySem.Str := ["deeds_in", "ways_of", "ways_among", "moves_of", "can_do", "state_behind", "moved", "done_plainly", "value_seen", "done_among", "stand_behind", "MOST_STORIES", "Reading", "first_reading", "is_whole", "has_choice"]
def lo5 : List PySem.Str := ["readings_behind", "choices_of", "done", "leaving_all", "has_hope", "is_waiting", "place_waited", "whole_readings", "heads_at", "fences_by", "count_with", "Story", "order_of", "copy_of", "is_doing", "count_stories"]
def lo6 : List PySem.Str := ["story_outcome", "outcome_told", "has_form", "follow_reads", "is_ready", "follow_row", "has_reads", "has_puts", "has_fences", "chain_from", "orders_at", "merged_orders", "fence_orders", "stories_with", "all_stories", "PLAIN"]
def lo7 : List PySem.Str := ["FREE", "TURNS", "is_let", "circle_against", "circle_by_views", "is_at", "are_at", "is_against", "is_link", "is_forbidden", "Told", "Barred", "is_barred", "mark_of", "stories_by", "stories_for"]
def lo8 : List PySem.Str := ["let_by", "judge_story", "is_told", "outcomes_told", "count_let", "MOST_STATES", "steps_in", "explored", "explore", "run_to", "ends_of", "follow", "last_state", "end_behind", "FENCE", "VALUES"]
def lo9 : List PySem.Str := ["WAITING_ALIKE", "Harm", "value_of", "is_changeable", "check_rows", "is_harmless", "can_exchange", "can_leave_out", "exchange", "leave_out", "harm_of", "has_rows", "changed", "new_outcomes", "named_first", "giving"]
def lo10 : List PySem.Str := ["surroundings", "Lined", "Loose", "copied_lines", "is_loose", "shows_lines", "is_lined", "plain_steps", "line_of", "judge_lines", "is_as_by_one", "MOST_GAPS", "HIGHEST_PRICE", "Cheapest", "Unfenced", "copied_against"]
def lo11 : List PySem.Str := ["shows_against", "is_against_choice", "is_gap", "check_prices", "choices_by", "all_choices", "cost_of", "cheaper_than", "with_fences", "filled", "reaching", "cheapest_fences", "least_cost", "Race", "Raceless", "explore_race"]
def lo12 : List PySem.Str := ["clash", "clashes_in", "judge_race", "is_raceless", "races_of", "program_text", "hand_text", "row_text", "Parted", "explore_twins", "compare", "are_twins", "_law_word", "_law_of", "_law_first_right", "_law_others_right"]
def loose : List PySem.Str := List.flatten (α := PySem.Str) [lo0, lo1, lo2, lo3, lo4, lo5, lo6, lo7, lo8, lo9, lo10, lo11, lo12]
def nm : Nat → Str
  | 0 => "Reading"
  | 1 => "Story"
  | 2 => "Told"
  | 3 => "Barred"
  | 4 => "Harm"
  | 5 => "Lined"
  | 6 => "Loose"
  | 7 => "Cheapest"
  | 8 => "Unfenced"
  | 9 => "Race"
  | 10 => "Raceless"
  | 11 => "Parted"
  | 12 => "ViewError"
  | 13 => "BadProgram"
  | 14 => "BadRule"
  | 15 => "BadOutcome"
  | 16 => "BadPrices"
  | 17 => "BadRows"
  | 18 => "BadTwins"
  | 19 => "TooLarge"
  | _ => "ViewError"
def fld : Nat → List Str
  | 0 => ["stands", "sources", "reads", "fences", "left"]
  | 1 => ["reads", "puts", "fences"]
  | 2 => ["story"]
  | 3 => ["rows"]
  | 4 => ["program", "at", "outcome"]
  | 5 => ["lines"]
  | 6 => ["story", "circle"]
  | 7 => ["choice", "lines", "against"]
  | 8 => ["against"]
  | 9 => ["run", "hands"]
  | 10 => ["states"]
  | 11 => ["outcome", "which", "run"]
  | _ => []
def fn0 : List He.DefD := [
  ⟨("is_worded", none), "is_worded", "is_worded", defArgs (top 15), defBody (top 15), defScope (top 15), [], []⟩,
  ⟨("is_number", none), "is_number", "is_number", defArgs (top 12), defBody (top 12), defScope (top 12), [], []⟩,
  ⟨("is_between", none), "is_between", "is_between", defArgs (top 13), defBody (top 13), defScope (top 13), [], []⟩,
  ⟨("has_numbers", none), "has_numbers", "has_numbers", defArgs (top 16), defBody (top 16), defScope (top 16), [], []⟩,
  ⟨("is_row", none), "is_row", "is_row", defArgs (top 36), defBody (top 36), defScope (top 36), [], []⟩,
  ⟨("is_hand", none), "is_hand", "is_hand", defArgs (top 35), defBody (top 35), defScope (top 35), [], []⟩,
  ⟨("is_program", none), "is_program", "is_program", defArgs (top 34), defBody (top 34), defScope (top 34), [], []⟩,
  ⟨("check_program", none), "check_program", "check_program", defArgs (top 37), defBody (top 37), defScope (top 37), [], []⟩]
def fn1 : List He.DefD := [
  ⟨("is_rule", none), "is_rule", "is_rule", defArgs (top 66), defBody (top 66), defScope (top 66), [], []⟩,
  ⟨("check_rule", none), "check_rule", "check_rule", defArgs (top 67), defBody (top 67), defScope (top 67), [], []⟩,
  ⟨("is_tuple_of", none), "is_tuple_of", "is_tuple_of", defArgs (top 14), defBody (top 14), defScope (top 14), [], []⟩,
  ⟨("is_there", none), "is_there", "is_there", defArgs (top 44), defBody (top 44), defScope (top 44), [], []⟩,
  ⟨("is_held", none), "is_held", "is_held", defArgs (top 43), defBody (top 43), defScope (top 43), [], []⟩,
  ⟨("check_outcome", none), "check_outcome", "check_outcome", defArgs (top 45), defBody (top 45), defScope (top 45), [], []⟩,
  ⟨("Reading", some "__init__"), "__init__", "Reading.__init__", defArgs (mth 85 0), defBody (mth 85 0), defScope (mth 85 0), [], []⟩,
  ⟨("first_reading", none), "first_reading", "first_reading", defArgs (top 86), defBody (top 86), defScope (top 86), [], []⟩]
def fn2 : List He.DefD := [
  ⟨("is_whole", none), "is_whole", "is_whole", defArgs (top 87), defBody (top 87), defScope (top 87), [], []⟩,
  ⟨("fences_by", none), "fences_by", "fences_by", defArgs (top 98), defBody (top 98), defScope (top 98), [], []⟩,
  ⟨("is_getting", none), "is_getting", "is_getting", defArgs (top 41), defBody (top 41), defScope (top 41), [], []⟩,
  ⟨("heads_at", none), "heads_at", "heads_at", defArgs (top 97), defBody (top 97), defScope (top 97), [], []⟩,
  ⟨("count_with", none), "count_with", "count_with", defArgs (top 99), defBody (top 99), defScope (top 99), [], []⟩,
  ⟨("place_of", none), "place_of", "place_of", defArgs (top 38), defBody (top 38), defScope (top 38), [], []⟩,
  ⟨("has_choice", none), "has_choice", "has_choice", defArgs (top 88), defBody (top 88), defScope (top 88), [], []⟩,
  ⟨("leaving_all", none), "leaving_all", "leaving_all", defArgs (top 92), defBody (top 92), defScope (top 92), [], []⟩]
def fn3 : List He.DefD := [
  ⟨("is_putting", none), "is_putting", "is_putting", defArgs (top 40), defBody (top 40), defScope (top 40), [], []⟩,
  ⟨("replaced", none), "replaced", "replaced", defArgs (top 24), defBody (top 24), defScope (top 24), [], []⟩,
  ⟨("stand_behind", none), "stand_behind", "stand_behind", defArgs (top 82), defBody (top 82), defScope (top 82), [], []⟩,
  ⟨("value_put", none), "value_put", "value_put", defArgs (top 42), defBody (top 42), defScope (top 42), [], []⟩,
  ⟨("done", none), "done", "done", defArgs (top 91), defBody (top 91), defScope (top 91), [], []⟩,
  ⟨("choices_of", none), "choices_of", "choices_of", defArgs (top 90), defBody (top 90), defScope (top 90), [], []⟩,
  ⟨("readings_behind", none), "readings_behind", "readings_behind", defArgs (top 89), defBody (top 89), defScope (top 89), [], []⟩,
  ⟨("is_waiting", none), "is_waiting", "is_waiting", defArgs (top 94), defBody (top 94), defScope (top 94), [], []⟩]
def fn4 : List He.DefD := [
  ⟨("place_waited", none), "place_waited", "place_waited", defArgs (top 95), defBody (top 95), defScope (top 95), [], []⟩,
  ⟨("has_hope", none), "has_hope", "has_hope", defArgs (top 93), defBody (top 93), defScope (top 93), [], []⟩,
  ⟨("whole_readings", none), "whole_readings", "whole_readings", defArgs (top 96), defBody (top 96), defScope (top 96), [], []⟩,
  ⟨("all_stories", none), "all_stories", "all_stories", defArgs (top 120), defBody (top 120), defScope (top 120), [], []⟩,
  ⟨("stories_for", none), "stories_for", "stories_for", defArgs (top 139), defBody (top 139), defScope (top 139), [], []⟩,
  ⟨("judge_story", none), "judge_story", "judge_story", defArgs (top 141), defBody (top 141), defScope (top 141), [], []⟩,
  ⟨("reaching", none), "reaching", "reaching", defArgs (top 202), defBody (top 202), defScope (top 202), [], []⟩,
  ⟨("filled", none), "filled", "filled", defArgs (top 201), defBody (top 201), defScope (top 201), [], []⟩]
def fn5 : List He.DefD := [
  ⟨("with_fences", none), "with_fences", "with_fences", defArgs (top 200), defBody (top 200), defScope (top 200), [], []⟩,
  ⟨("is_gap", none), "is_gap", "is_gap", defArgs (top 194), defBody (top 194), defScope (top 194), [], []⟩,
  ⟨("check_prices", none), "check_prices", "check_prices", defArgs (top 195), defBody (top 195), defScope (top 195), [], []⟩,
  ⟨("count_stories", none), "count_stories", "count_stories", defArgs (top 105), defBody (top 105), defScope (top 105), [], []⟩,
  ⟨("cost_of", none), "cost_of", "cost_of", defArgs (top 198), defBody (top 198), defScope (top 198), [], []⟩,
  ⟨("all_choices", none), "all_choices", "all_choices", defArgs (top 197), defBody (top 197), defScope (top 197), [], []⟩,
  ⟨("choices_by", none), "choices_by", "choices_by", defArgs (top 196), defBody (top 196), defScope (top 196), [], []⟩,
  ⟨("stories_by", none), "stories_by", "stories_by", defArgs (top 138), defBody (top 138), defScope (top 138), [], []⟩]
def fn6 : List He.DefD := [
  ⟨("judge_lines", none), "judge_lines", "judge_lines", defArgs (top 184), defBody (top 184), defScope (top 184), [], []⟩,
  ⟨("cheaper_than", none), "cheaper_than", "cheaper_than", defArgs (top 199), defBody (top 199), defScope (top 199), [], []⟩,
  ⟨("cheapest_fences", none), "cheapest_fences", "cheapest_fences", defArgs (top 203), defBody (top 203), defScope (top 203), [], []⟩,
  ⟨("least_cost", none), "least_cost", "least_cost", defArgs (top 204), defBody (top 204), defScope (top 204), [], []⟩,
  ⟨("is_told", none), "is_told", "is_told", defArgs (top 142), defBody (top 142), defScope (top 142), [], []⟩,
  ⟨("explore_twins", none), "explore_twins", "explore_twins", defArgs (top 220), defBody (top 220), defScope (top 220), [], []⟩,
  ⟨("compare", none), "compare", "compare", defArgs (top 221), defBody (top 221), defScope (top 221), [], []⟩,
  ⟨("value_of", none), "value_of", "value_of", defArgs (top 160), defBody (top 160), defScope (top 160), [], []⟩]
def fn7 : List He.DefD := [
  ⟨("is_changeable", none), "is_changeable", "is_changeable", defArgs (top 161), defBody (top 161), defScope (top 161), [], []⟩,
  ⟨("check_rows", none), "check_rows", "check_rows", defArgs (top 162), defBody (top 162), defScope (top 162), [], []⟩,
  ⟨("is_harmless", none), "is_harmless", "is_harmless", defArgs (top 163), defBody (top 163), defScope (top 163), [], []⟩,
  ⟨("harm_of", none), "harm_of", "harm_of", defArgs (top 168), defBody (top 168), defScope (top 168), [], []⟩,
  ⟨("exchange", none), "exchange", "exchange", defArgs (top 166), defBody (top 166), defScope (top 166), [], []⟩,
  ⟨("leave_out", none), "leave_out", "leave_out", defArgs (top 167), defBody (top 167), defScope (top 167), [], []⟩,
  ⟨("_law_others_right", none), "_law_others_right", "_law_others_right", defArgs (top 227), defBody (top 227), defScope (top 227), [], []⟩,
  ⟨("frozen", none), "frozen", "frozen", defArgs (top 20), defBody (top 20), defScope (top 20), [], []⟩]
def fn8 : List He.DefD := [
  ⟨("Story", some "__init__"), "__init__", "Story.__init__", defArgs (mth 101 0), defBody (mth 101 0), defScope (mth 101 0), [], []⟩,
  ⟨("story_outcome", none), "story_outcome", "story_outcome", defArgs (top 106), defBody (top 106), defScope (top 106), [], []⟩,
  ⟨("is_let", none), "is_let", "is_let", defArgs (top 125), defBody (top 125), defScope (top 125), [], []⟩,
  ⟨("let_by", none), "let_by", "let_by", defArgs (top 140), defBody (top 140), defScope (top 140), [], []⟩,
  ⟨("outcomes_told", none), "outcomes_told", "outcomes_told", defArgs (top 143), defBody (top 143), defScope (top 143), [], []⟩,
  ⟨("count_let", none), "count_let", "count_let", defArgs (top 144), defBody (top 144), defScope (top 144), [], []⟩,
  ⟨("explore_race", none), "explore_race", "explore_race", defArgs (top 208), defBody (top 208), defScope (top 208), [], []⟩,
  ⟨("judge_race", none), "judge_race", "judge_race", defArgs (top 211), defBody (top 211), defScope (top 211), [], []⟩]
def fn9 : List He.DefD := [
  ⟨("is_raceless", none), "is_raceless", "is_raceless", defArgs (top 212), defBody (top 212), defScope (top 212), [], []⟩,
  ⟨("races_of", none), "races_of", "races_of", defArgs (top 213), defBody (top 213), defScope (top 213), [], []⟩,
  ⟨("is_as_by_one", none), "is_as_by_one", "is_as_by_one", defArgs (top 185), defBody (top 185), defScope (top 185), [], []⟩,
  ⟨("program_text", none), "program_text", "program_text", defArgs (top 215), defBody (top 215), defScope (top 215), [], []⟩,
  ⟨("are_twins", none), "are_twins", "are_twins", defArgs (top 222), defBody (top 222), defScope (top 222), [], []⟩,
  ⟨("_law_first_right", none), "_law_first_right", "_law_first_right", defArgs (top 226), defBody (top 226), defScope (top 226), [], []⟩,
  ⟨("law", none), "law", "law", defArgs (top 228), defBody (top 228), defScope (top 228), [], []⟩,
  ⟨("_law_word", none), "_law_word", "_law_word", defArgs (top 224), defBody (top 224), defScope (top 224), [], []⟩]
def fn10 : List He.DefD := [
  ⟨("_law_of", none), "_law_of", "_law_of", defArgs (top 225), defBody (top 225), defScope (top 225), [], []⟩,
  ⟨("order_of", none), "order_of", "order_of", defArgs (top 102), defBody (top 102), defScope (top 102), [], []⟩]
def fn : List He.DefD := List.flatten (α := He.DefD) [fn0, fn1, fn2, fn3, fn4, fn5, fn6, fn7, fn8, fn9, fn10]
def fa0 : List He.Fa := [.glo "is_worded", .glo "is_number", .glo "is_between", .glo "has_numbers", .glo "is_row", .glo "is_hand", .glo "is_program", .glo "check_program", .glo "is_rule", .glo "check_rule", .glo "is_tuple_of", .glo "is_there"]
def fa1 : List He.Fa := [.glo "is_held", .glo "check_outcome", .glo "first_reading", .glo "is_whole", .glo "fences_by", .glo "is_getting", .glo "heads_at", .glo "count_with", .glo "place_of", .glo "has_choice", .glo "leaving_all", .glo "is_putting"]
def fa2 : List He.Fa := [.glo "replaced", .glo "stand_behind", .glo "value_put", .glo "done", .glo "choices_of", .glo "readings_behind", .glo "is_waiting", .glo "place_waited", .glo "has_hope", .glo "whole_readings", .glo "all_stories", .glo "stories_for"]
def fa3 : List He.Fa := [.glo "judge_story", .glo "reaching", .glo "filled", .glo "with_fences", .glo "is_gap", .glo "check_prices", .glo "count_stories", .glo "cost_of", .glo "all_choices", .glo "choices_by", .glo "stories_by", .glo "judge_lines"]
def fa4 : List He.Fa := [.glo "cheaper_than", .glo "cheapest_fences", .glo "least_cost", .glo "is_told", .glo "explore_twins", .glo "compare", .glo "value_of", .glo "is_changeable", .glo "check_rows", .glo "is_harmless", .glo "harm_of", .glo "exchange"]
def fa5 : List He.Fa := [.glo "leave_out", .glo "_law_others_right", .glo "frozen", .glo "story_outcome", .glo "is_let", .glo "let_by", .glo "outcomes_told", .glo "count_let", .glo "explore_race", .glo "judge_race", .glo "is_raceless", .glo "races_of"]
def fa6 : List He.Fa := [.glo "is_as_by_one", .glo "program_text", .glo "are_twins", .glo "_law_first_right", .glo "law", .glo "_law_word", .glo "_law_of", .glo "order_of", .free "all", .free "any", .free "bool", .free "dict"]
def fa7 : List He.Fa := [.free "enumerate", .free "int", .free "isinstance", .free "len", .free "list", .free "range", .free "sorted", .free "str", .free "sum", .free "tuple", .free "zip", .glo "Reading"]
def fa8 : List He.Fa := [.glo "Story", .glo "Told", .glo "Barred", .glo "Harm", .glo "Lined", .glo "Loose", .glo "Cheapest", .glo "Unfenced", .glo "Race", .glo "Raceless", .glo "Parted", .glo "ViewError"]
def fa9 : List He.Fa := [.glo "BadProgram", .glo "BadRule", .glo "BadOutcome", .glo "BadPrices", .glo "BadRows", .glo "BadTwins", .glo "TooLarge", .glo "FORMS", .mkr "Reading", .cls "Reading", .mkr "Story", .cls "Story"]
def fa10 : List He.Fa := [.exc "BadOutcome", .exc "BadPrices", .exc "BadProgram", .exc "BadRows", .exc "BadRule", .exc "BadTwins", .exc "TooLarge", .exm "ViewError" "ViewError" true, .exm "BadProgram" "ViewError" true, .exm "BadRule" "ViewError" true, .exm "BadOutcome" "ViewError" true, .exm "BadPrices" "ViewError" true]
def fa11 : List He.Fa := [.exm "BadRows" "ViewError" true, .exm "BadTwins" "ViewError" true, .exm "TooLarge" "ViewError" true]
def fa : List He.Fa := List.flatten (α := He.Fa) [fa0, fa1, fa2, fa3, fa4, fa5, fa6, fa7, fa8, fa9, fa10, fa11]
def ts : List He.Tab := [(fun K => He.ga K "FORMS", ["put", "give", "get", "swap", "fence", "only"])]
def tf : List He.Defn := [("_law_others_right", none), ("_law_first_right", none)]
def kda (K : PySem.W.Frag) : Nat → Addr
  | 0 => He.ga K "FORMS"
  | _ => 0
def ex0 (K : PySem.W.Frag) : Bool := uokB K nm ncl
def ex1 (K : PySem.W.Frag) : Bool := kdHitB K (kda K 0) (kdT 0)
def ex2 (K : PySem.W.Frag) : Bool := kdMissB K (kda K 0) (kdN 0)
def ex3 (K : PySem.W.Frag) : Bool := conOkB K "HANDS" (.int 4)
def ex4 (K : PySem.W.Frag) : Bool := conOkB K "HIGHEST_PRICE" (.int 9)
def ex5 (K : PySem.W.Frag) : Bool := conOkB K "HIGHEST_VALUE" (.int 3)
def ex6 (K : PySem.W.Frag) : Bool := conOkB K "MOST_GAPS" (.int 4)
def ex7 (K : PySem.W.Frag) : Bool := conOkB K "MOST_STORIES" (.int 600)
def ex8 (K : PySem.W.Frag) : Bool := conOkB K "NOTHING_HELD" (.tup [(.int 0), (.int 0), (.int 0)])
def ex9 (K : PySem.W.Frag) : Bool := conOkB K "PLACES" (.int 4)
def ex10 (K : PySem.W.Frag) : Bool := conOkB K "ROWS" (.int 16)
def ex11 (K : PySem.W.Frag) : Bool := conOkB K "RULES" (.tup [(.str [111, 110, 101]), (.str [113, 117, 101, 117, 101, 115]), (.str [108, 97, 110, 101, 115]), (.str [118, 105, 101, 119, 115])])
def ex12 (K : PySem.W.Frag) : Bool := fldsB K nm fld "choice" tb_choice
def ex13 (K : PySem.W.Frag) : Bool := fldsB K nm fld "circle" tb_circle
def ex14 (K : PySem.W.Frag) : Bool := fldsB K nm fld "fences" tb_fences
def ex15 (K : PySem.W.Frag) : Bool := fldsB K nm fld "left" tb_left
def ex16 (K : PySem.W.Frag) : Bool := fldsB K nm fld "reads" tb_reads
def ex17 (K : PySem.W.Frag) : Bool := fldsB K nm fld "sources" tb_sources
def ex18 (K : PySem.W.Frag) : Bool := fldsB K nm fld "stands" tb_stands
def ex19 (K : PySem.W.Frag) : Bool := fldsB K nm fld "story" tb_story
def ex20 (K : PySem.W.Frag) : Bool := (["stands", "sources", "reads", "fences", "left"] : List Str).all fun f => (He.Fa.noat "Reading" f).ok K
def ex21 (K : PySem.W.Frag) : Bool := (["reads", "puts", "fences"] : List Str).all fun f => (He.Fa.noat "Story" f).ok K
def ex22 (K : PySem.W.Frag) : Bool := excB K (He.ga K (nm 12))
def ex23 (K : PySem.W.Frag) : Bool := excB K (He.ga K (nm 13))
def ex24 (K : PySem.W.Frag) : Bool := excB K (He.ga K (nm 14))
def ex25 (K : PySem.W.Frag) : Bool := excB K (He.ga K (nm 15))
def ex26 (K : PySem.W.Frag) : Bool := excB K (He.ga K (nm 16))
def ex27 (K : PySem.W.Frag) : Bool := excB K (He.ga K (nm 17))
def ex28 (K : PySem.W.Frag) : Bool := excB K (He.ga K (nm 18))
def ex29 (K : PySem.W.Frag) : Bool := excB K (He.ga K (nm 19))
def ex30 (K : PySem.W.Frag) : Bool := ([12, 13, 14, 15, 16, 17, 18, 19] : List Nat).all fun c => ([12, 13, 14, 15, 16, 17, 18, 19] : List Nat).all fun j => decide (PySem.W.kitOne K (.ref (He.ga K (nm c))) (.ref (He.ga K (nm j))) = some (sub c j))
def ex31 (K : PySem.W.Frag) : Bool := decide (([(He.cT K ("_law_others_right", none)).2, (He.cT K ("_law_first_right", none)).2] : List Addr).Nodup)
def ex32 (K : PySem.W.Frag) : Bool := He.eqO (PySem.W.nsIn K mainGlobals "factorial") (some (some (.builtin "math.factorial")))
def ex33 (K : PySem.W.Frag) : Bool := K.all fun q => match q.2.cls with | .type c => !decide (c = "list") | _ => true
def ex (K : PySem.W.Frag) : Bool := ex0 K && (ex1 K && (ex2 K && (ex3 K && (ex4 K && (ex5 K && (ex6 K && (ex7 K && (ex8 K && (ex9 K && (ex10 K && (ex11 K && (ex12 K && (ex13 K && (ex14 K && (ex15 K && (ex16 K && (ex17 K && (ex18 K && (ex19 K && (ex20 K && (ex21 K && (ex22 K && (ex23 K && (ex24 K && (ex25 K && (ex26 K && (ex27 K && (ex28 K && (ex29 K && (ex30 K && (ex31 K && (ex32 K && (ex33 K)))))))))))))))))))))))))))))))))
abbrev hk : PySem.W.Hook := hookL lookAll fa fn ts tf ex
def ob (s : PySem.W.SharedT) : He.AlX := obsL lookAll fa fn ts tf ex (HandSHeadRun.getT s)
theorem ob_eq (s : PySem.W.SharedT) : ob s = hk.obs s.abs := obsL_eq (HandSHeadRun.getT_eq s)
end K49X
end Ev

set_option Elab.async false
set_option linter.all false
set_option maxRecDepth 100000
set_option maxHeartbeats 400000
/-! EvTw: the look at a text's name tables, statement by statement. -/
namespace Ev
open PySem PySem.TablesWhole
theorem wSs_all (top : Scope) (cx : TablesWhole.Ctx) (sc : Scope) : ∀ l : List Stmt, wSs holds top cx sc l = l.all fun s => wS holds top cx sc s
  | [] => by
    unfold wSs
    rfl
  | s :: r => by
    have ih := wSs_all top cx sc r
    unfold wSs
    rw [ih]
    rfl
/-- the chunk k of a list -/
def chunk (n k : Nat) (l : List Stmt) : List Stmt := (l.drop (n * k)).take n
theorem all_chunks {f : Stmt → Bool} (n : Nat) : ∀ (m : Nat) (l : List Stmt), l.length ≤ n * m → (∀ k, k < m → (chunk n k l).all f = true) → l.all f = true
  | 0, l, h, _ => by
    have e : l = [] := List.eq_nil_of_length_eq_zero (by omega)
    rw [e] <;> rfl
  | m + 1, l, h, hc => by
    have h0 := hc 0 (Nat.succ_pos m)
    have e0 : chunk n 0 l = l.take n := by
      unfold chunk
      rw [Nat.mul_zero] <;> rfl
    rw [e0] at h0
    have h1 : (l.drop n).all f = true := all_chunks n m (l.drop n) (by
      rw [List.length_drop]
      have e : n * (m + 1) = n * m + n := Nat.mul_succ n m
      omega) fun k hk => by
      have := hc (k + 1) (Nat.succ_lt_succ hk)
      have e : chunk n (k + 1) l = chunk n k (l.drop n) := by
        unfold chunk
        rw [List.drop_drop]
        have e2 : n * (k + 1) = n + n * k := by rw [Nat.mul_succ]; omega
        rw [e2]
      rw [← e]
      exact this
    have e : l = l.take n ++ l.drop n := (List.take_append_drop n l).symm
    rw [e, List.all_append, h0, h1] <;> rfl
def cxOfM (m : Module) : TablesWhole.Ctx := ⟨m.scope, [], [], [], none⟩
theorem tw_of {p : Program} (h1 : p.modules = []) (h2 : p.parses = []) (h3 : p.harvested = []) (ht : wSs gather p.main.scope (cxOfM p.main) p.main.scope p.main.body = []) (hn : noTwice p.main.scope = true)
    (hs : (p.main.body.all fun s => wS holds p.main.scope (cxOfM p.main) p.main.scope s) = true) : p.tablesWhole = true := by
  unfold Program.tablesWhole wProgram wModule
  rw [h1, h2, h3]
  have ht' : wSs gather p.main.scope ⟨p.main.scope, [], [], [], none⟩ p.main.scope p.main.body = [] := ht
  rw [ht']
  have hs' : wSs holds p.main.scope ⟨p.main.scope, [], [], [], none⟩ p.main.scope p.main.body = true := by
    rw [wSs_all]
    exact hs
  show (([true, noTwice p.main.scope, wSs holds p.main.scope ⟨p.main.scope, [], [], [], none⟩ p.main.scope p.main.body].foldr (fun a b => a && b) true) && ((([] : List Bool).foldr (fun a b => a && b) true) && ((([] : List Bool).foldr (fun a b => a && b) true) && ((([] : List Bool).foldr (fun a b => a && b) true) && true)))) = true
  rw [hs', hn]
  rfl
end Ev

set_option Elab.async false
set_option linter.all false
set_option maxRecDepth 100000
set_option maxHeartbeats 0
namespace Ev
namespace K49X
open PySem PySem.TablesWhole PySem.W
theorem twG : wSs gather R.prog.main.scope (cxOfM R.prog.main) R.prog.main.scope R.prog.main.body = [] := by kernel_rfl
theorem twN : noTwice R.prog.main.scope = true := by decide +kernel
theorem twC0 : ((chunk 24 0 R.prog.main.body).all fun s => wS holds R.prog.main.scope (cxOfM R.prog.main) R.prog.main.scope s) = true := by decide +kernel
theorem twC1 : ((chunk 24 1 R.prog.main.body).all fun s => wS holds R.prog.main.scope (cxOfM R.prog.main) R.prog.main.scope s) = true := by decide +kernel
theorem twC2 : ((chunk 24 2 R.prog.main.body).all fun s => wS holds R.prog.main.scope (cxOfM R.prog.main) R.prog.main.scope s) = true := by decide +kernel
theorem twC3 : ((chunk 24 3 R.prog.main.body).all fun s => wS holds R.prog.main.scope (cxOfM R.prog.main) R.prog.main.scope s) = true := by decide +kernel
theorem twC4 : ((chunk 24 4 R.prog.main.body).all fun s => wS holds R.prog.main.scope (cxOfM R.prog.main) R.prog.main.scope s) = true := by decide +kernel
theorem twC5 : ((chunk 24 5 R.prog.main.body).all fun s => wS holds R.prog.main.scope (cxOfM R.prog.main) R.prog.main.scope s) = true := by decide +kernel
theorem twC6 : ((chunk 24 6 R.prog.main.body).all fun s => wS holds R.prog.main.scope (cxOfM R.prog.main) R.prog.main.scope s) = true := by decide +kernel
theorem twC7 : ((chunk 24 7 R.prog.main.body).all fun s => wS holds R.prog.main.scope (cxOfM R.prog.main) R.prog.main.scope s) = true := by decide +kernel
theorem twC8 : ((chunk 24 8 R.prog.main.body).all fun s => wS holds R.prog.main.scope (cxOfM R.prog.main) R.prog.main.scope s) = true := by decide +kernel
theorem twC9 : ((chunk 24 9 R.prog.main.body).all fun s => wS holds R.prog.main.scope (cxOfM R.prog.main) R.prog.main.scope s) = true := by decide +kernel
theorem twL : R.prog.main.body.length ≤ 24 * 10 := by decide +kernel
theorem bare : R.prog.bare := ⟨rfl, rfl, rfl, rfl, rfl, tw_of rfl rfl rfl twG twN (all_chunks 24 10 _ twL fun k hk => match k, hk with | 0, _ => twC0 | 1, _ => twC1 | 2, _ => twC2 | 3, _ => twC3 | 4, _ => twC4 | 5, _ => twC5 | 6, _ => twC6 | 7, _ => twC7 | 8, _ => twC8 | 9, _ => twC9 | n + 10, hk => absurd hk (by omega))⟩
end K49X
end Ev

set_option Elab.async false
set_option linter.all false
set_option maxRecDepth 100000
set_option maxHeartbeats 400000
/-! EvEnd: the law's call from the runner's state. -/
namespace Ev
open PySem PySem.Spec PyProof.Rows L2
/-- the world with the script alone -/
def w0 (l : List Int) : W := .mk 1 (T.e.put 40 0 (.lst (l.map D.int)))
def w0f (l : List Int) : W := .mk 1 (T.e.put 40 0 (.fl (l.map D.int)))
def isTr : R → Bool
  | .ok (.bl true) _ => true
  | _ => false
theorem get_e {n j : Nat} : (W.mk n T.e).get j = none := rfl
section
variable {u : U} {a : Addr} {H : Hp} {o : O}
theorem rw_start (hC : u.C = []) (hs : u.cs = []) (hσ : u.cσ = []) (hT : ∀ p ∈ u.T, H p.1 = some (.tbl #[])) (ha : H a ≠ none) (ho : RO u (fun _ => a) 1 H a o) : RW u (fun _ => a) (.mk 1 (T.e.put 40 0 o)) H := by
  have g : ∀ j, (W.mk 1 (T.e.put 40 0 o)).get j = if j = 0 then some o else none := fun j => by
    rw [W.get_put (n := 1) (Nat.zero_le _), get_e]
  refine ⟨fun i j hi hj _ => ?_, fun i ob h => ?_, fun i _ => ha, fun i ob h => ?_, show 1 ≤ 1000000000 by decide, fun p hp => ⟨#[], hT p hp, ?_, fun pos cv z => ?_⟩, fun i hi => ?_, fun p hp => ?_, ?_⟩
  · have h1 : i < 1 := hi
    have h2 : j < 1 := hj
    omega
  · rw [g] at h
    by_cases e : i = 0
    · rw [e]; exact Nat.lt_succ_self 0
    · rw [if_neg e] at h; cases h
  · rw [g] at h
    by_cases e : i = 0
    · rw [if_pos e] at h
      cases h
      exact ho
    · rw [if_neg e] at h; cases h
  · trivial
  · cases z
  · have h1 : i < 1 := hi
    have h2 : i = 0 := by omega
    exact ⟨o, by rw [g, if_pos h2]⟩
  · rw [hC] at hp; cases hp
  · rw [hs, hσ]; exact .nil
theorem rvs_ints {rho : Nat → Addr} {m : Nat} : ∀ ns : List Int, RVs u rho m H (ns.map D.int) (ns.map V.int)
  | [] => .nil
  | n :: r => .cons (.int n) (rvs_ints r)
theorem post_true {rho : Nat → Addr} {w : W} {r : R} (h : isTr r = true) : Post u E0 rho w H (fun v _ => v = .bl true) r := by
  unfold isTr at h
  split at h
  · intro rho' H' v _ _ rv
    cases rv
    rfl
  · cases h
theorem start_sp {F : FN} {ns : List Int} (hC : u.C = []) (hs : u.cs = []) (hσ : u.cσ = []) (hT : ∀ p ∈ u.T, H p.1 = some (.tbl #[])) (nl : ∀ o, u.K.lookup a = some o → o.cls ≠ .type "list") (hS : SqL u.K H a (ns.map V.int))
    (h1 : isTr (F [.ref 0] (w0 ns)) = true) (h2 : isTr (F [.ref 0] (w0f ns)) = true) : spM u F 1 [.ref a] H (fun v _ => v = .bl true) fun _ _ _ => False := by
  refine ⟨rfl, fun _ => a, ?_⟩
  rcases hS with (e | ⟨ob, e⟩) | ⟨o, its, n, hk, hc, _⟩
  · exact ⟨w0 ns, [.ref 0], rw_start hC hs hσ hT (by rw [e]; simp) ⟨_, e, rvs_ints ns⟩, .cons (.ref 0 (Nat.lt_succ_self 0) rfl) .nil, post_true h1⟩
  · exact ⟨w0f ns, [.ref 0], rw_start hC hs hσ hT (by rw [e]; simp) ⟨ob, _, e, rvs_ints ns⟩, .cons (.ref 0 (Nat.lt_succ_self 0) rfl) .nil, post_true h2⟩
  · exact absurd hc (nl o hk)
theorem no_list {K : PySem.W.Frag} (h : (K.all fun q => match q.2.cls with | .type c => !decide (c = "list") | _ => true) = true) : ∀ o, K.lookup a = some o → o.cls ≠ .type "list" := by
  intro o e z
  have m := List.all_eq_true.mp h (a, o) (He.lookup_mem e)
  dsimp only at m
  rw [z] at m
  simp at m
end
end Ev

set_option maxRecDepth 100000
set_option maxHeartbeats 0
namespace Ev
namespace K49X
theorem ans1 (l : List Int) : isTr (d_law [.ref 0] (w0 l)) = true := by kernel_rfl
theorem ans2 (l : List Int) : isTr (d_law [.ref 0] (w0f l)) = true := by kernel_rfl
end K49X
end Ev

set_option Elab.async false
set_option linter.all false
set_option maxRecDepth 100000
set_option maxHeartbeats 4000000
namespace Ev
namespace K49X
open PySem PySem.Spec PyProof.Rows L2
def uu (P : Program) (w : World) (K : PySem.W.Frag) : U where
  P := P
  w := w
  K := K
  kd := kda K
  cl := fun c => He.ga K (nm c)
  fld := fld
  T := tf.map fun p => ((He.cT K p).2, p.1 ++ (".<locals>." : Str) ++ ("<lambda>" : Str))
  fnA := 0
  C := []
  cs := []
  cσ := []
section
variable {P : Program} {w : World} {K : PySem.W.Frag} {h base : Heap} {mg : Str → Option Value}
theorem uniq_of {f : He.Defn → Str} : ∀ {l : List He.Defn} (nd : (l.map fun p => (He.cT K p).2).Nodup) {p : He.Defn} (hp : p ∈ l), ∀ q ∈ l.map (fun p => ((He.cT K p).2, f p)), q.1 = (He.cT K p).2 → q.2 = f p
  | [], _, p, hp, _, _, _ => by cases hp
  | a :: l, nd, p, hp, q, hq, e => by
    obtain ⟨n1, n2⟩ := List.nodup_cons.mp (show ((He.cT K a).2 :: l.map fun p => (He.cT K p).2).Nodup from nd)
    rcases List.mem_cons.mp hp with rfl | hp
    · rcases List.mem_cons.mp (show q ∈ ((He.cT K p).2, f p) :: l.map (fun p => ((He.cT K p).2, f p)) from hq) with rfl | hq
      · rfl
      · obtain ⟨r, hr, rfl⟩ := List.mem_map.mp hq
        have m : (He.cT K r).2 ∈ l.map fun p => (He.cT K p).2 := List.mem_map_of_mem (f := fun p => (He.cT K p).2) hr
        rw [show (He.cT K r).2 = (He.cT K p).2 from e] at m
        exact absurd m n1
    · rcases List.mem_cons.mp (show q ∈ ((He.cT K a).2, f a) :: l.map (fun p => ((He.cT K p).2, f p)) from hq) with rfl | hq
      · have m : (He.cT K p).2 ∈ l.map fun p => (He.cT K p).2 := List.mem_map_of_mem (f := fun p => (He.cT K p).2) hp
        rw [show (He.cT K p).2 = (He.cT K a).2 from e.symm] at m
        exact absurd m n1
      · exact uniq_of n2 hp q hq e
theorem fx (X : K.In h) (G : h.Ns mainGlobals mg) (c : He.SaysX fa fn ts tf ex w h K) (hT : ∀ p ∈ tf.map (He.cT K), LamX.TabB base mg p.1 p.2) : Fx (uu P w K) mg base := by
  have hx := c.more
  obtain ⟨x0, hx⟩ := He.ba hx
  obtain ⟨x1, hx⟩ := He.ba hx
  obtain ⟨x2, hx⟩ := He.ba hx
  obtain ⟨x3, hx⟩ := He.ba hx
  obtain ⟨x4, hx⟩ := He.ba hx
  obtain ⟨x5, hx⟩ := He.ba hx
  obtain ⟨x6, hx⟩ := He.ba hx
  obtain ⟨x7, hx⟩ := He.ba hx
  obtain ⟨x8, hx⟩ := He.ba hx
  obtain ⟨x9, hx⟩ := He.ba hx
  obtain ⟨x10, hx⟩ := He.ba hx
  obtain ⟨x11, hx⟩ := He.ba hx
  obtain ⟨x12, hx⟩ := He.ba hx
  obtain ⟨x13, hx⟩ := He.ba hx
  obtain ⟨x14, hx⟩ := He.ba hx
  obtain ⟨x15, hx⟩ := He.ba hx
  obtain ⟨x16, hx⟩ := He.ba hx
  obtain ⟨x17, hx⟩ := He.ba hx
  obtain ⟨x18, hx⟩ := He.ba hx
  obtain ⟨x19, hx⟩ := He.ba hx
  obtain ⟨x20, hx⟩ := He.ba hx
  obtain ⟨x21, hx⟩ := He.ba hx
  obtain ⟨x22, hx⟩ := He.ba hx
  obtain ⟨x23, hx⟩ := He.ba hx
  obtain ⟨x24, hx⟩ := He.ba hx
  obtain ⟨x25, hx⟩ := He.ba hx
  obtain ⟨x26, hx⟩ := He.ba hx
  obtain ⟨x27, hx⟩ := He.ba hx
  obtain ⟨x28, hx⟩ := He.ba hx
  obtain ⟨x29, hx⟩ := He.ba hx
  obtain ⟨x30, hx⟩ := He.ba hx
  obtain ⟨x31, hx⟩ := He.ba hx
  obtain ⟨x32, hx⟩ := He.ba hx
  have x33 := hx
  obtain ⟨d0, F0⟩ := c.t.d.def_ 0 (d := ⟨("is_worded", none), "is_worded", "is_worded", defArgs (top 15), defBody (top 15), defScope (top 15), [], []⟩) rfl
  obtain ⟨d1, F1⟩ := c.t.d.def_ 1 (d := ⟨("is_number", none), "is_number", "is_number", defArgs (top 12), defBody (top 12), defScope (top 12), [], []⟩) rfl
  obtain ⟨d2, F2⟩ := c.t.d.def_ 2 (d := ⟨("is_between", none), "is_between", "is_between", defArgs (top 13), defBody (top 13), defScope (top 13), [], []⟩) rfl
  obtain ⟨d3, F3⟩ := c.t.d.def_ 3 (d := ⟨("has_numbers", none), "has_numbers", "has_numbers", defArgs (top 16), defBody (top 16), defScope (top 16), [], []⟩) rfl
  obtain ⟨d4, F4⟩ := c.t.d.def_ 4 (d := ⟨("is_row", none), "is_row", "is_row", defArgs (top 36), defBody (top 36), defScope (top 36), [], []⟩) rfl
  obtain ⟨d5, F5⟩ := c.t.d.def_ 5 (d := ⟨("is_hand", none), "is_hand", "is_hand", defArgs (top 35), defBody (top 35), defScope (top 35), [], []⟩) rfl
  obtain ⟨d6, F6⟩ := c.t.d.def_ 6 (d := ⟨("is_program", none), "is_program", "is_program", defArgs (top 34), defBody (top 34), defScope (top 34), [], []⟩) rfl
  obtain ⟨d7, F7⟩ := c.t.d.def_ 7 (d := ⟨("check_program", none), "check_program", "check_program", defArgs (top 37), defBody (top 37), defScope (top 37), [], []⟩) rfl
  obtain ⟨d8, F8⟩ := c.t.d.def_ 8 (d := ⟨("is_rule", none), "is_rule", "is_rule", defArgs (top 66), defBody (top 66), defScope (top 66), [], []⟩) rfl
  obtain ⟨d9, F9⟩ := c.t.d.def_ 9 (d := ⟨("check_rule", none), "check_rule", "check_rule", defArgs (top 67), defBody (top 67), defScope (top 67), [], []⟩) rfl
  obtain ⟨d10, F10⟩ := c.t.d.def_ 10 (d := ⟨("is_tuple_of", none), "is_tuple_of", "is_tuple_of", defArgs (top 14), defBody (top 14), defScope (top 14), [], []⟩) rfl
  obtain ⟨d11, F11⟩ := c.t.d.def_ 11 (d := ⟨("is_there", none), "is_there", "is_there", defArgs (top 44), defBody (top 44), defScope (top 44), [], []⟩) rfl
  obtain ⟨d12, F12⟩ := c.t.d.def_ 12 (d := ⟨("is_held", none), "is_held", "is_held", defArgs (top 43), defBody (top 43), defScope (top 43), [], []⟩) rfl
  obtain ⟨d13, F13⟩ := c.t.d.def_ 13 (d := ⟨("check_outcome", none), "check_outcome", "check_outcome", defArgs (top 45), defBody (top 45), defScope (top 45), [], []⟩) rfl
  obtain ⟨d14, F14⟩ := c.t.d.def_ 14 (d := ⟨("Reading", some "__init__"), "__init__", "Reading.__init__", defArgs (mth 85 0), defBody (mth 85 0), defScope (mth 85 0), [], []⟩) rfl
  obtain ⟨d15, F15⟩ := c.t.d.def_ 15 (d := ⟨("first_reading", none), "first_reading", "first_reading", defArgs (top 86), defBody (top 86), defScope (top 86), [], []⟩) rfl
  obtain ⟨d16, F16⟩ := c.t.d.def_ 16 (d := ⟨("is_whole", none), "is_whole", "is_whole", defArgs (top 87), defBody (top 87), defScope (top 87), [], []⟩) rfl
  obtain ⟨d17, F17⟩ := c.t.d.def_ 17 (d := ⟨("fences_by", none), "fences_by", "fences_by", defArgs (top 98), defBody (top 98), defScope (top 98), [], []⟩) rfl
  obtain ⟨d18, F18⟩ := c.t.d.def_ 18 (d := ⟨("is_getting", none), "is_getting", "is_getting", defArgs (top 41), defBody (top 41), defScope (top 41), [], []⟩) rfl
  obtain ⟨d19, F19⟩ := c.t.d.def_ 19 (d := ⟨("heads_at", none), "heads_at", "heads_at", defArgs (top 97), defBody (top 97), defScope (top 97), [], []⟩) rfl
  obtain ⟨d20, F20⟩ := c.t.d.def_ 20 (d := ⟨("count_with", none), "count_with", "count_with", defArgs (top 99), defBody (top 99), defScope (top 99), [], []⟩) rfl
  obtain ⟨d21, F21⟩ := c.t.d.def_ 21 (d := ⟨("place_of", none), "place_of", "place_of", defArgs (top 38), defBody (top 38), defScope (top 38), [], []⟩) rfl
  obtain ⟨d22, F22⟩ := c.t.d.def_ 22 (d := ⟨("has_choice", none), "has_choice", "has_choice", defArgs (top 88), defBody (top 88), defScope (top 88), [], []⟩) rfl
  obtain ⟨d23, F23⟩ := c.t.d.def_ 23 (d := ⟨("leaving_all", none), "leaving_all", "leaving_all", defArgs (top 92), defBody (top 92), defScope (top 92), [], []⟩) rfl
  obtain ⟨d24, F24⟩ := c.t.d.def_ 24 (d := ⟨("is_putting", none), "is_putting", "is_putting", defArgs (top 40), defBody (top 40), defScope (top 40), [], []⟩) rfl
  obtain ⟨d25, F25⟩ := c.t.d.def_ 25 (d := ⟨("replaced", none), "replaced", "replaced", defArgs (top 24), defBody (top 24), defScope (top 24), [], []⟩) rfl
  obtain ⟨d26, F26⟩ := c.t.d.def_ 26 (d := ⟨("stand_behind", none), "stand_behind", "stand_behind", defArgs (top 82), defBody (top 82), defScope (top 82), [], []⟩) rfl
  obtain ⟨d27, F27⟩ := c.t.d.def_ 27 (d := ⟨("value_put", none), "value_put", "value_put", defArgs (top 42), defBody (top 42), defScope (top 42), [], []⟩) rfl
  obtain ⟨d28, F28⟩ := c.t.d.def_ 28 (d := ⟨("done", none), "done", "done", defArgs (top 91), defBody (top 91), defScope (top 91), [], []⟩) rfl
  obtain ⟨d29, F29⟩ := c.t.d.def_ 29 (d := ⟨("choices_of", none), "choices_of", "choices_of", defArgs (top 90), defBody (top 90), defScope (top 90), [], []⟩) rfl
  obtain ⟨d30, F30⟩ := c.t.d.def_ 30 (d := ⟨("readings_behind", none), "readings_behind", "readings_behind", defArgs (top 89), defBody (top 89), defScope (top 89), [], []⟩) rfl
  obtain ⟨d31, F31⟩ := c.t.d.def_ 31 (d := ⟨("is_waiting", none), "is_waiting", "is_waiting", defArgs (top 94), defBody (top 94), defScope (top 94), [], []⟩) rfl
  obtain ⟨d32, F32⟩ := c.t.d.def_ 32 (d := ⟨("place_waited", none), "place_waited", "place_waited", defArgs (top 95), defBody (top 95), defScope (top 95), [], []⟩) rfl
  obtain ⟨d33, F33⟩ := c.t.d.def_ 33 (d := ⟨("has_hope", none), "has_hope", "has_hope", defArgs (top 93), defBody (top 93), defScope (top 93), [], []⟩) rfl
  obtain ⟨d34, F34⟩ := c.t.d.def_ 34 (d := ⟨("whole_readings", none), "whole_readings", "whole_readings", defArgs (top 96), defBody (top 96), defScope (top 96), [], []⟩) rfl
  obtain ⟨d35, F35⟩ := c.t.d.def_ 35 (d := ⟨("all_stories", none), "all_stories", "all_stories", defArgs (top 120), defBody (top 120), defScope (top 120), [], []⟩) rfl
  obtain ⟨d36, F36⟩ := c.t.d.def_ 36 (d := ⟨("stories_for", none), "stories_for", "stories_for", defArgs (top 139), defBody (top 139), defScope (top 139), [], []⟩) rfl
  obtain ⟨d37, F37⟩ := c.t.d.def_ 37 (d := ⟨("judge_story", none), "judge_story", "judge_story", defArgs (top 141), defBody (top 141), defScope (top 141), [], []⟩) rfl
  obtain ⟨d38, F38⟩ := c.t.d.def_ 38 (d := ⟨("reaching", none), "reaching", "reaching", defArgs (top 202), defBody (top 202), defScope (top 202), [], []⟩) rfl
  obtain ⟨d39, F39⟩ := c.t.d.def_ 39 (d := ⟨("filled", none), "filled", "filled", defArgs (top 201), defBody (top 201), defScope (top 201), [], []⟩) rfl
  obtain ⟨d40, F40⟩ := c.t.d.def_ 40 (d := ⟨("with_fences", none), "with_fences", "with_fences", defArgs (top 200), defBody (top 200), defScope (top 200), [], []⟩) rfl
  obtain ⟨d41, F41⟩ := c.t.d.def_ 41 (d := ⟨("is_gap", none), "is_gap", "is_gap", defArgs (top 194), defBody (top 194), defScope (top 194), [], []⟩) rfl
  obtain ⟨d42, F42⟩ := c.t.d.def_ 42 (d := ⟨("check_prices", none), "check_prices", "check_prices", defArgs (top 195), defBody (top 195), defScope (top 195), [], []⟩) rfl
  obtain ⟨d43, F43⟩ := c.t.d.def_ 43 (d := ⟨("count_stories", none), "count_stories", "count_stories", defArgs (top 105), defBody (top 105), defScope (top 105), [], []⟩) rfl
  obtain ⟨d44, F44⟩ := c.t.d.def_ 44 (d := ⟨("cost_of", none), "cost_of", "cost_of", defArgs (top 198), defBody (top 198), defScope (top 198), [], []⟩) rfl
  obtain ⟨d45, F45⟩ := c.t.d.def_ 45 (d := ⟨("all_choices", none), "all_choices", "all_choices", defArgs (top 197), defBody (top 197), defScope (top 197), [], []⟩) rfl
  obtain ⟨d46, F46⟩ := c.t.d.def_ 46 (d := ⟨("choices_by", none), "choices_by", "choices_by", defArgs (top 196), defBody (top 196), defScope (top 196), [], []⟩) rfl
  obtain ⟨d47, F47⟩ := c.t.d.def_ 47 (d := ⟨("stories_by", none), "stories_by", "stories_by", defArgs (top 138), defBody (top 138), defScope (top 138), [], []⟩) rfl
  obtain ⟨d48, F48⟩ := c.t.d.def_ 48 (d := ⟨("judge_lines", none), "judge_lines", "judge_lines", defArgs (top 184), defBody (top 184), defScope (top 184), [], []⟩) rfl
  obtain ⟨d49, F49⟩ := c.t.d.def_ 49 (d := ⟨("cheaper_than", none), "cheaper_than", "cheaper_than", defArgs (top 199), defBody (top 199), defScope (top 199), [], []⟩) rfl
  obtain ⟨d50, F50⟩ := c.t.d.def_ 50 (d := ⟨("cheapest_fences", none), "cheapest_fences", "cheapest_fences", defArgs (top 203), defBody (top 203), defScope (top 203), [], []⟩) rfl
  obtain ⟨d51, F51⟩ := c.t.d.def_ 51 (d := ⟨("least_cost", none), "least_cost", "least_cost", defArgs (top 204), defBody (top 204), defScope (top 204), [], []⟩) rfl
  obtain ⟨d52, F52⟩ := c.t.d.def_ 52 (d := ⟨("is_told", none), "is_told", "is_told", defArgs (top 142), defBody (top 142), defScope (top 142), [], []⟩) rfl
  obtain ⟨d53, F53⟩ := c.t.d.def_ 53 (d := ⟨("explore_twins", none), "explore_twins", "explore_twins", defArgs (top 220), defBody (top 220), defScope (top 220), [], []⟩) rfl
  obtain ⟨d54, F54⟩ := c.t.d.def_ 54 (d := ⟨("compare", none), "compare", "compare", defArgs (top 221), defBody (top 221), defScope (top 221), [], []⟩) rfl
  obtain ⟨d55, F55⟩ := c.t.d.def_ 55 (d := ⟨("value_of", none), "value_of", "value_of", defArgs (top 160), defBody (top 160), defScope (top 160), [], []⟩) rfl
  obtain ⟨d56, F56⟩ := c.t.d.def_ 56 (d := ⟨("is_changeable", none), "is_changeable", "is_changeable", defArgs (top 161), defBody (top 161), defScope (top 161), [], []⟩) rfl
  obtain ⟨d57, F57⟩ := c.t.d.def_ 57 (d := ⟨("check_rows", none), "check_rows", "check_rows", defArgs (top 162), defBody (top 162), defScope (top 162), [], []⟩) rfl
  obtain ⟨d58, F58⟩ := c.t.d.def_ 58 (d := ⟨("is_harmless", none), "is_harmless", "is_harmless", defArgs (top 163), defBody (top 163), defScope (top 163), [], []⟩) rfl
  obtain ⟨d59, F59⟩ := c.t.d.def_ 59 (d := ⟨("harm_of", none), "harm_of", "harm_of", defArgs (top 168), defBody (top 168), defScope (top 168), [], []⟩) rfl
  obtain ⟨d60, F60⟩ := c.t.d.def_ 60 (d := ⟨("exchange", none), "exchange", "exchange", defArgs (top 166), defBody (top 166), defScope (top 166), [], []⟩) rfl
  obtain ⟨d61, F61⟩ := c.t.d.def_ 61 (d := ⟨("leave_out", none), "leave_out", "leave_out", defArgs (top 167), defBody (top 167), defScope (top 167), [], []⟩) rfl
  obtain ⟨d62, F62⟩ := c.t.d.def_ 62 (d := ⟨("_law_others_right", none), "_law_others_right", "_law_others_right", defArgs (top 227), defBody (top 227), defScope (top 227), [], []⟩) rfl
  obtain ⟨d63, F63⟩ := c.t.d.def_ 63 (d := ⟨("frozen", none), "frozen", "frozen", defArgs (top 20), defBody (top 20), defScope (top 20), [], []⟩) rfl
  obtain ⟨d64, F64⟩ := c.t.d.def_ 64 (d := ⟨("Story", some "__init__"), "__init__", "Story.__init__", defArgs (mth 101 0), defBody (mth 101 0), defScope (mth 101 0), [], []⟩) rfl
  obtain ⟨d65, F65⟩ := c.t.d.def_ 65 (d := ⟨("story_outcome", none), "story_outcome", "story_outcome", defArgs (top 106), defBody (top 106), defScope (top 106), [], []⟩) rfl
  obtain ⟨d66, F66⟩ := c.t.d.def_ 66 (d := ⟨("is_let", none), "is_let", "is_let", defArgs (top 125), defBody (top 125), defScope (top 125), [], []⟩) rfl
  obtain ⟨d67, F67⟩ := c.t.d.def_ 67 (d := ⟨("let_by", none), "let_by", "let_by", defArgs (top 140), defBody (top 140), defScope (top 140), [], []⟩) rfl
  obtain ⟨d68, F68⟩ := c.t.d.def_ 68 (d := ⟨("outcomes_told", none), "outcomes_told", "outcomes_told", defArgs (top 143), defBody (top 143), defScope (top 143), [], []⟩) rfl
  obtain ⟨d69, F69⟩ := c.t.d.def_ 69 (d := ⟨("count_let", none), "count_let", "count_let", defArgs (top 144), defBody (top 144), defScope (top 144), [], []⟩) rfl
  obtain ⟨d70, F70⟩ := c.t.d.def_ 70 (d := ⟨("explore_race", none), "explore_race", "explore_race", defArgs (top 208), defBody (top 208), defScope (top 208), [], []⟩) rfl
  obtain ⟨d71, F71⟩ := c.t.d.def_ 71 (d := ⟨("judge_race", none), "judge_race", "judge_race", defArgs (top 211), defBody (top 211), defScope (top 211), [], []⟩) rfl
  obtain ⟨d72, F72⟩ := c.t.d.def_ 72 (d := ⟨("is_raceless", none), "is_raceless", "is_raceless", defArgs (top 212), defBody (top 212), defScope (top 212), [], []⟩) rfl
  obtain ⟨d73, F73⟩ := c.t.d.def_ 73 (d := ⟨("races_of", none), "races_of", "races_of", defArgs (top 213), defBody (top 213), defScope (top 213), [], []⟩) rfl
  obtain ⟨d74, F74⟩ := c.t.d.def_ 74 (d := ⟨("is_as_by_one", none), "is_as_by_one", "is_as_by_one", defArgs (top 185), defBody (top 185), defScope (top 185), [], []⟩) rfl
  obtain ⟨d75, F75⟩ := c.t.d.def_ 75 (d := ⟨("program_text", none), "program_text", "program_text", defArgs (top 215), defBody (top 215), defScope (top 215), [], []⟩) rfl
  obtain ⟨d76, F76⟩ := c.t.d.def_ 76 (d := ⟨("are_twins", none), "are_twins", "are_twins", defArgs (top 222), defBody (top 222), defScope (top 222), [], []⟩) rfl
  obtain ⟨d77, F77⟩ := c.t.d.def_ 77 (d := ⟨("_law_first_right", none), "_law_first_right", "_law_first_right", defArgs (top 226), defBody (top 226), defScope (top 226), [], []⟩) rfl
  obtain ⟨d78, F78⟩ := c.t.d.def_ 78 (d := ⟨("law", none), "law", "law", defArgs (top 228), defBody (top 228), defScope (top 228), [], []⟩) rfl
  obtain ⟨d79, F79⟩ := c.t.d.def_ 79 (d := ⟨("_law_word", none), "_law_word", "_law_word", defArgs (top 224), defBody (top 224), defScope (top 224), [], []⟩) rfl
  obtain ⟨d80, F80⟩ := c.t.d.def_ 80 (d := ⟨("_law_of", none), "_law_of", "_law_of", defArgs (top 225), defBody (top 225), defScope (top 225), [], []⟩) rfl
  obtain ⟨d81, F81⟩ := c.t.d.def_ 81 (d := ⟨("order_of", none), "order_of", "order_of", defArgs (top 102), defBody (top 102), defScope (top 102), [], []⟩) rfl
  have hs : PySem.W.specialIn K (.builtin "object.__class__") "__get__" = some (some (.builtin "getset_descriptor.__get__")) := (uok_of (u := uu P w K) (nm := nm) rfl (fun _ _ => rfl) x0).cl2
  have ht : PySem.W.takesIn K (.builtin "object.__class__") = some true := (uok_of (u := uu P w K) (nm := nm) rfl (fun _ _ => rfl) x0).cl3
  have okl : ∀ c, okc c = true → c ∈ ([12, 13, 14, 15, 16, 17, 18, 19] : List Nat) := fun c hc => by
    unfold okc at hc
    split at hc
    · decide
    · decide
    · decide
    · decide
    · decide
    · decide
    · decide
    · decide
    · cases hc
  have hec : ∀ c, okc c = true → ExcC K (He.ga K (nm c)) := fun c hc => by
    have hm := okl c hc
    simp only [List.mem_cons, List.not_mem_nil, or_false] at hm
    rcases hm with rfl | rfl | rfl | rfl | rfl | rfl | rfl | rfl
    · exact excC_of x22 hs ht
    · exact excC_of x23 hs ht
    · exact excC_of x24 hs ht
    · exact excC_of x25 hs ht
    · exact excC_of x26 hs ht
    · exact excC_of x27 hs ht
    · exact excC_of x28 hs ht
    · exact excC_of x29 hs ht
  have hkt : ∀ c j, okc c = true → okc j = true → PySem.W.kitOne K (.ref (He.ga K (nm c))) (.ref (He.ga K (nm j))) = some (sub c j) := fun c j hc hj =>
    of_decide_eq_true (List.all_eq_true.mp (List.all_eq_true.mp x30 c (okl c hc)) j (okl j hj))
  have hem : ∀ c, okc c = true → PySem.W.exmOne K (.ref (He.ga K (nm c))) (.ref (He.ga K "ViewError")) = some true := fun c hc => by
    have hm := okl c hc
    simp only [List.mem_cons, List.not_mem_nil, or_false] at hm
    rcases hm with rfl | rfl | rfl | rfl | rfl | rfl | rfl | rfl
    · exact He.exm_ok (c.t.d.fact 127 (f := .exm "ViewError" "ViewError" true) rfl)
    · exact He.exm_ok (c.t.d.fact 128 (f := .exm "BadProgram" "ViewError" true) rfl)
    · exact He.exm_ok (c.t.d.fact 129 (f := .exm "BadRule" "ViewError" true) rfl)
    · exact He.exm_ok (c.t.d.fact 130 (f := .exm "BadOutcome" "ViewError" true) rfl)
    · exact He.exm_ok (c.t.d.fact 131 (f := .exm "BadPrices" "ViewError" true) rfl)
    · exact He.exm_ok (c.t.d.fact 132 (f := .exm "BadRows" "ViewError" true) rfl)
    · exact He.exm_ok (c.t.d.fact 133 (f := .exm "BadTwins" "ViewError" true) rfl)
    · exact He.exm_ok (c.t.d.fact 134 (f := .exm "TooLarge" "ViewError" true) rfl)
  exact {
    uok := uok_of (nm := nm) rfl (fun _ _ => rfl) x0
    kdok := kdok_of rfl (fun k hk => match k, hk with | 0, _ => c.t.tab 0 (t := ts.getD 0 (fun _ => 0, [])) rfl | n + 1, hk => absurd hk (by show ¬ (n + 1 < 1); omega)) (fun k hk => match k, hk with | 0, _ => x1 | n + 1, hk => absurd hk (by show ¬ (n + 1 < 1); omega)) (fun k hk => match k, hk with | 0, _ => x2 | n + 1, hk => absurd hk (by show ¬ (n + 1 < 1); omega))
    n_all := He.free_ok X G (c.t.d.fact 80 (f := .free "all") rfl)
    n_any := He.free_ok X G (c.t.d.fact 81 (f := .free "any") rfl)
    n_bool := He.free_ok X G (c.t.d.fact 82 (f := .free "bool") rfl)
    n_dict := He.free_ok X G (c.t.d.fact 83 (f := .free "dict") rfl)
    n_enumerate := He.free_ok X G (c.t.d.fact 84 (f := .free "enumerate") rfl)
    n_int := He.free_ok X G (c.t.d.fact 85 (f := .free "int") rfl)
    n_isinstance := He.free_ok X G (c.t.d.fact 86 (f := .free "isinstance") rfl)
    n_len := He.free_ok X G (c.t.d.fact 87 (f := .free "len") rfl)
    n_list := He.free_ok X G (c.t.d.fact 88 (f := .free "list") rfl)
    n_range := He.free_ok X G (c.t.d.fact 89 (f := .free "range") rfl)
    n_sorted := He.free_ok X G (c.t.d.fact 90 (f := .free "sorted") rfl)
    n_str := He.free_ok X G (c.t.d.fact 91 (f := .free "str") rfl)
    n_sum := He.free_ok X G (c.t.d.fact 92 (f := .free "sum") rfl)
    n_tuple := He.free_ok X G (c.t.d.fact 93 (f := .free "tuple") rfl)
    n_zip := He.free_ok X G (c.t.d.fact 94 (f := .free "zip") rfl)
    c_Cheapest := conOk_cls rfl X G rfl (c.t.d.fact 102 (f := .glo "Cheapest") rfl)
    c_FORMS := conOk_kd rfl X G rfl (c.t.d.fact 115 (f := .glo "FORMS") rfl)
    c_HANDS := conOk_of rfl X G x3
    c_HIGHEST_PRICE := conOk_of rfl X G x4
    c_HIGHEST_VALUE := conOk_of rfl X G x5
    c_Lined := conOk_cls rfl X G rfl (c.t.d.fact 100 (f := .glo "Lined") rfl)
    c_MOST_GAPS := conOk_of rfl X G x6
    c_MOST_STORIES := conOk_of rfl X G x7
    c_NOTHING_HELD := conOk_of rfl X G x8
    c_PLACES := conOk_of rfl X G x9
    c_ROWS := conOk_of rfl X G x10
    c_RULES := conOk_of rfl X G x11
    c_Raceless := conOk_cls rfl X G rfl (c.t.d.fact 105 (f := .glo "Raceless") rfl)
    c_Told := conOk_cls rfl X G rfl (c.t.d.fact 97 (f := .glo "Told") rfl)
    a_choice := flds_of (nm := nm) rfl (fun _ => rfl) x12
    a_circle := flds_of (nm := nm) rfl (fun _ => rfl) x13
    a_fences := flds_of (nm := nm) rfl (fun _ => rfl) x14
    a_left := flds_of (nm := nm) rfl (fun _ => rfl) x15
    a_reads := flds_of (nm := nm) rfl (fun _ => rfl) x16
    a_sources := flds_of (nm := nm) rfl (fun _ => rfl) x17
    a_stands := flds_of (nm := nm) rfl (fun _ => rfl) x18
    a_story := flds_of (nm := nm) rfl (fun _ => rfl) x19
    e_BadOutcome := excOk_of rfl rfl X G (c.t.d.fact 110 (f := .glo "BadOutcome") rfl) (c.t.d.fact 120 (f := .exc "BadOutcome") rfl)
    e_BadPrices := excOk_of rfl rfl X G (c.t.d.fact 111 (f := .glo "BadPrices") rfl) (c.t.d.fact 121 (f := .exc "BadPrices") rfl)
    e_BadProgram := excOk_of rfl rfl X G (c.t.d.fact 108 (f := .glo "BadProgram") rfl) (c.t.d.fact 122 (f := .exc "BadProgram") rfl)
    e_BadRows := excOk_of rfl rfl X G (c.t.d.fact 112 (f := .glo "BadRows") rfl) (c.t.d.fact 123 (f := .exc "BadRows") rfl)
    e_BadRule := excOk_of rfl rfl X G (c.t.d.fact 109 (f := .glo "BadRule") rfl) (c.t.d.fact 124 (f := .exc "BadRule") rfl)
    e_BadTwins := excOk_of rfl rfl X G (c.t.d.fact 113 (f := .glo "BadTwins") rfl) (c.t.d.fact 125 (f := .exc "BadTwins") rfl)
    e_TooLarge := excOk_of rfl rfl X G (c.t.d.fact 114 (f := .glo "TooLarge") rfl) (c.t.d.fact 126 (f := .exc "TooLarge") rfl)
    v_order_of := ⟨_, (He.glo_ok X G (c.t.d.fact 79 (f := .glo "order_of") rfl))⟩
    factorial := PySem.W.mg_of X G (He.eqO_ok x32)
    word := word_of ⟨_, _, (He.glo_ok X G (c.t.d.fact 77 (f := .glo "_law_word") rfl)), F79⟩ ⟨_, (He.glo_ok X G (c.t.d.fact 107 (f := .glo "ViewError") rfl)), hem⟩ (of_word (base := base) ⟨_, _, (He.glo_ok X G (c.t.d.fact 78 (f := .glo "_law_of") rfl)), F80⟩ (He.free_ok X G (c.t.d.fact 86 (f := .free "isinstance") rfl)) (He.glo_ok X G (c.t.d.fact 108 (f := .glo "BadProgram") rfl)) (He.glo_ok X G (c.t.d.fact 109 (f := .glo "BadRule") rfl)) (He.glo_ok X G (c.t.d.fact 110 (f := .glo "BadOutcome") rfl)) (He.glo_ok X G (c.t.d.fact 111 (f := .glo "BadPrices") rfl)) (He.glo_ok X G (c.t.d.fact 112 (f := .glo "BadRows") rfl)) (He.glo_ok X G (c.t.d.fact 113 (f := .glo "BadTwins") rfl)) (He.glo_ok X G (c.t.d.fact 114 (f := .glo "TooLarge") rfl)) hec hkt)
    f_is_worded := ⟨_, _, (He.glo_ok X G (c.t.d.fact 0 (f := .glo "is_worded") rfl)), F0⟩
    f_is_number := ⟨_, _, (He.glo_ok X G (c.t.d.fact 1 (f := .glo "is_number") rfl)), F1⟩
    f_is_between := ⟨_, _, (He.glo_ok X G (c.t.d.fact 2 (f := .glo "is_between") rfl)), F2⟩
    f_has_numbers := ⟨_, _, (He.glo_ok X G (c.t.d.fact 3 (f := .glo "has_numbers") rfl)), F3⟩
    f_is_row := ⟨_, _, (He.glo_ok X G (c.t.d.fact 4 (f := .glo "is_row") rfl)), F4⟩
    f_is_hand := ⟨_, _, (He.glo_ok X G (c.t.d.fact 5 (f := .glo "is_hand") rfl)), F5⟩
    f_is_program := ⟨_, _, (He.glo_ok X G (c.t.d.fact 6 (f := .glo "is_program") rfl)), F6⟩
    f_check_program := ⟨_, _, (He.glo_ok X G (c.t.d.fact 7 (f := .glo "check_program") rfl)), F7⟩
    f_is_rule := ⟨_, _, (He.glo_ok X G (c.t.d.fact 8 (f := .glo "is_rule") rfl)), F8⟩
    f_check_rule := ⟨_, _, (He.glo_ok X G (c.t.d.fact 9 (f := .glo "check_rule") rfl)), F9⟩
    f_is_tuple_of := ⟨_, _, (He.glo_ok X G (c.t.d.fact 10 (f := .glo "is_tuple_of") rfl)), F10⟩
    f_is_there := ⟨_, _, (He.glo_ok X G (c.t.d.fact 11 (f := .glo "is_there") rfl)), F11⟩
    f_is_held := ⟨_, _, (He.glo_ok X G (c.t.d.fact 12 (f := .glo "is_held") rfl)), F12⟩
    f_check_outcome := ⟨_, _, (He.glo_ok X G (c.t.d.fact 13 (f := .glo "check_outcome") rfl)), F13⟩
    m_Reading := ⟨_, _, (He.glo_ok X G (c.t.d.fact 95 (f := .glo "Reading") rfl)), He.mkr_ok (c.t.d.fact 116 (f := .mkr "Reading") rfl), F14⟩
    k_Reading := fldOk_of (nm := nm) rfl rfl rfl (c.t.d.fact 117 (f := .cls "Reading") rfl) x20
    f_first_reading := ⟨_, _, (He.glo_ok X G (c.t.d.fact 14 (f := .glo "first_reading") rfl)), F15⟩
    f_is_whole := ⟨_, _, (He.glo_ok X G (c.t.d.fact 15 (f := .glo "is_whole") rfl)), F16⟩
    f_fences_by := ⟨_, _, (He.glo_ok X G (c.t.d.fact 16 (f := .glo "fences_by") rfl)), F17⟩
    f_is_getting := ⟨_, _, (He.glo_ok X G (c.t.d.fact 17 (f := .glo "is_getting") rfl)), F18⟩
    f_heads_at := ⟨_, _, (He.glo_ok X G (c.t.d.fact 18 (f := .glo "heads_at") rfl)), F19⟩
    f_count_with := ⟨_, _, (He.glo_ok X G (c.t.d.fact 19 (f := .glo "count_with") rfl)), F20⟩
    f_place_of := ⟨_, _, (He.glo_ok X G (c.t.d.fact 20 (f := .glo "place_of") rfl)), F21⟩
    f_has_choice := ⟨_, _, (He.glo_ok X G (c.t.d.fact 21 (f := .glo "has_choice") rfl)), F22⟩
    f_leaving_all := ⟨_, _, (He.glo_ok X G (c.t.d.fact 22 (f := .glo "leaving_all") rfl)), F23⟩
    f_is_putting := ⟨_, _, (He.glo_ok X G (c.t.d.fact 23 (f := .glo "is_putting") rfl)), F24⟩
    f_replaced := ⟨_, _, (He.glo_ok X G (c.t.d.fact 24 (f := .glo "replaced") rfl)), F25⟩
    f_stand_behind := ⟨_, _, (He.glo_ok X G (c.t.d.fact 25 (f := .glo "stand_behind") rfl)), F26⟩
    f_value_put := ⟨_, _, (He.glo_ok X G (c.t.d.fact 26 (f := .glo "value_put") rfl)), F27⟩
    f_done := ⟨_, _, (He.glo_ok X G (c.t.d.fact 27 (f := .glo "done") rfl)), F28⟩
    f_choices_of := ⟨_, _, (He.glo_ok X G (c.t.d.fact 28 (f := .glo "choices_of") rfl)), F29⟩
    f_readings_behind := ⟨_, _, (He.glo_ok X G (c.t.d.fact 29 (f := .glo "readings_behind") rfl)), F30⟩
    f_is_waiting := ⟨_, _, (He.glo_ok X G (c.t.d.fact 30 (f := .glo "is_waiting") rfl)), F31⟩
    f_place_waited := ⟨_, _, (He.glo_ok X G (c.t.d.fact 31 (f := .glo "place_waited") rfl)), F32⟩
    f_has_hope := ⟨_, _, (He.glo_ok X G (c.t.d.fact 32 (f := .glo "has_hope") rfl)), F33⟩
    f_whole_readings := ⟨_, _, (He.glo_ok X G (c.t.d.fact 33 (f := .glo "whole_readings") rfl)), F34⟩
    f_all_stories := ⟨_, _, (He.glo_ok X G (c.t.d.fact 34 (f := .glo "all_stories") rfl)), F35⟩
    f_stories_for := ⟨_, _, (He.glo_ok X G (c.t.d.fact 35 (f := .glo "stories_for") rfl)), F36⟩
    f_judge_story := ⟨_, _, (He.glo_ok X G (c.t.d.fact 36 (f := .glo "judge_story") rfl)), F37⟩
    f_reaching := ⟨_, _, (He.glo_ok X G (c.t.d.fact 37 (f := .glo "reaching") rfl)), F38⟩
    f_filled := ⟨_, _, (He.glo_ok X G (c.t.d.fact 38 (f := .glo "filled") rfl)), F39⟩
    f_with_fences := ⟨_, _, (He.glo_ok X G (c.t.d.fact 39 (f := .glo "with_fences") rfl)), F40⟩
    f_is_gap := ⟨_, _, (He.glo_ok X G (c.t.d.fact 40 (f := .glo "is_gap") rfl)), F41⟩
    f_check_prices := ⟨_, _, (He.glo_ok X G (c.t.d.fact 41 (f := .glo "check_prices") rfl)), F42⟩
    f_count_stories := ⟨_, _, (He.glo_ok X G (c.t.d.fact 42 (f := .glo "count_stories") rfl)), F43⟩
    f_cost_of := ⟨_, _, (He.glo_ok X G (c.t.d.fact 43 (f := .glo "cost_of") rfl)), F44⟩
    f_all_choices := ⟨_, _, (He.glo_ok X G (c.t.d.fact 44 (f := .glo "all_choices") rfl)), F45⟩
    f_choices_by := ⟨_, _, (He.glo_ok X G (c.t.d.fact 45 (f := .glo "choices_by") rfl)), F46⟩
    f_stories_by := ⟨_, _, (He.glo_ok X G (c.t.d.fact 46 (f := .glo "stories_by") rfl)), F47⟩
    f_judge_lines := ⟨_, _, (He.glo_ok X G (c.t.d.fact 47 (f := .glo "judge_lines") rfl)), F48⟩
    f_cheaper_than := ⟨_, _, (He.glo_ok X G (c.t.d.fact 48 (f := .glo "cheaper_than") rfl)), F49⟩
    f_cheapest_fences := ⟨_, _, (He.glo_ok X G (c.t.d.fact 49 (f := .glo "cheapest_fences") rfl)), F50⟩
    f_least_cost := ⟨_, _, (He.glo_ok X G (c.t.d.fact 50 (f := .glo "least_cost") rfl)), F51⟩
    f_is_told := ⟨_, _, (He.glo_ok X G (c.t.d.fact 51 (f := .glo "is_told") rfl)), F52⟩
    f_explore_twins := ⟨_, _, (He.glo_ok X G (c.t.d.fact 52 (f := .glo "explore_twins") rfl)), F53⟩
    f_compare := ⟨_, _, (He.glo_ok X G (c.t.d.fact 53 (f := .glo "compare") rfl)), F54⟩
    f_value_of := ⟨_, _, (He.glo_ok X G (c.t.d.fact 54 (f := .glo "value_of") rfl)), F55⟩
    f_is_changeable := ⟨_, _, (He.glo_ok X G (c.t.d.fact 55 (f := .glo "is_changeable") rfl)), F56⟩
    f_check_rows := ⟨_, _, (He.glo_ok X G (c.t.d.fact 56 (f := .glo "check_rows") rfl)), F57⟩
    f_is_harmless := ⟨_, _, (He.glo_ok X G (c.t.d.fact 57 (f := .glo "is_harmless") rfl)), F58⟩
    f_harm_of := ⟨_, _, (He.glo_ok X G (c.t.d.fact 58 (f := .glo "harm_of") rfl)), F59⟩
    f_exchange := ⟨_, _, (He.glo_ok X G (c.t.d.fact 59 (f := .glo "exchange") rfl)), F60⟩
    f_leave_out := ⟨_, _, (He.glo_ok X G (c.t.d.fact 60 (f := .glo "leave_out") rfl)), F61⟩
    l__law_others_right := lamF_of rfl X G (c.t.d.fact 61 (f := .glo "_law_others_right") rfl) ⟨_, _, _, _, F62⟩ rfl rfl (hT _ (List.mem_map_of_mem (f := He.cT K) (show (("_law_others_right", none) : He.Defn) ∈ tf by decide))) (List.mem_map_of_mem (f := fun p : He.Defn => ((He.cT K p).2, p.1 ++ (".<locals>." : Str) ++ ("<lambda>" : Str))) (show (("_law_others_right", none) : He.Defn) ∈ tf by decide)) (uniq_of (f := fun p : He.Defn => p.1 ++ (".<locals>." : Str) ++ ("<lambda>" : Str)) (of_decide_eq_true (show decide ((tf.map fun p => (He.cT K p).2).Nodup) = true from x31)) (show (("_law_others_right", none) : He.Defn) ∈ tf by decide))
    f__law_others_right := ⟨_, _, (He.glo_ok X G (c.t.d.fact 61 (f := .glo "_law_others_right") rfl)), F62⟩
    f_frozen := ⟨_, _, (He.glo_ok X G (c.t.d.fact 62 (f := .glo "frozen") rfl)), F63⟩
    m_Story := ⟨_, _, (He.glo_ok X G (c.t.d.fact 96 (f := .glo "Story") rfl)), He.mkr_ok (c.t.d.fact 118 (f := .mkr "Story") rfl), F64⟩
    k_Story := fldOk_of (nm := nm) rfl rfl rfl (c.t.d.fact 119 (f := .cls "Story") rfl) x21
    f_story_outcome := ⟨_, _, (He.glo_ok X G (c.t.d.fact 63 (f := .glo "story_outcome") rfl)), F65⟩
    f_is_let := ⟨_, _, (He.glo_ok X G (c.t.d.fact 64 (f := .glo "is_let") rfl)), F66⟩
    f_let_by := ⟨_, _, (He.glo_ok X G (c.t.d.fact 65 (f := .glo "let_by") rfl)), F67⟩
    f_outcomes_told := ⟨_, _, (He.glo_ok X G (c.t.d.fact 66 (f := .glo "outcomes_told") rfl)), F68⟩
    f_count_let := ⟨_, _, (He.glo_ok X G (c.t.d.fact 67 (f := .glo "count_let") rfl)), F69⟩
    f_explore_race := ⟨_, _, (He.glo_ok X G (c.t.d.fact 68 (f := .glo "explore_race") rfl)), F70⟩
    f_judge_race := ⟨_, _, (He.glo_ok X G (c.t.d.fact 69 (f := .glo "judge_race") rfl)), F71⟩
    f_is_raceless := ⟨_, _, (He.glo_ok X G (c.t.d.fact 70 (f := .glo "is_raceless") rfl)), F72⟩
    f_races_of := ⟨_, _, (He.glo_ok X G (c.t.d.fact 71 (f := .glo "races_of") rfl)), F73⟩
    f_is_as_by_one := ⟨_, _, (He.glo_ok X G (c.t.d.fact 72 (f := .glo "is_as_by_one") rfl)), F74⟩
    f_program_text := ⟨_, _, (He.glo_ok X G (c.t.d.fact 73 (f := .glo "program_text") rfl)), F75⟩
    f_are_twins := ⟨_, _, (He.glo_ok X G (c.t.d.fact 74 (f := .glo "are_twins") rfl)), F76⟩
    l__law_first_right := lamF_of rfl X G (c.t.d.fact 75 (f := .glo "_law_first_right") rfl) ⟨_, _, _, _, F77⟩ rfl rfl (hT _ (List.mem_map_of_mem (f := He.cT K) (show (("_law_first_right", none) : He.Defn) ∈ tf by decide))) (List.mem_map_of_mem (f := fun p : He.Defn => ((He.cT K p).2, p.1 ++ (".<locals>." : Str) ++ ("<lambda>" : Str))) (show (("_law_first_right", none) : He.Defn) ∈ tf by decide)) (uniq_of (f := fun p : He.Defn => p.1 ++ (".<locals>." : Str) ++ ("<lambda>" : Str)) (of_decide_eq_true (show decide ((tf.map fun p => (He.cT K p).2).Nodup) = true from x31)) (show (("_law_first_right", none) : He.Defn) ∈ tf by decide))
    f__law_first_right := ⟨_, _, (He.glo_ok X G (c.t.d.fact 75 (f := .glo "_law_first_right") rfl)), F77⟩
    f_law := ⟨_, _, (He.glo_ok X G (c.t.d.fact 76 (f := .glo "law") rfl)), F78⟩
  }
end
end K49X
end Ev

set_option Elab.async false
set_option linter.all false
set_option maxRecDepth 100000
set_option maxHeartbeats 0
namespace Ev
namespace K49X
open PySem PySem.W PySem.Calls PyProof.Rows L2 HandSHeadRun
theorem runF (w : World) : RunEqI R qv hk ob 30000 loose (w.withFollow "special-get-raises" false) := by
  unfold HandSHeadRun.RunEqI
  kernel_rfl
theorem runT (w : World) : RunEqI R qv hk ob 30000 loose (w.withFollow "special-get-raises" true) := by
  unfold HandSHeadRun.RunEqI
  kernel_rfl
theorem run (w : World) : RunEqI R qv hk ob 30000 loose w := PySem.W.byRow2 "special-get-raises" (P := fun w => RunEqI R qv hk ob 30000 loose w) runF runT w
end K49X
end Ev

set_option Elab.async false
set_option linter.all false
set_option maxRecDepth 100000
set_option maxHeartbeats 0
namespace Ev
namespace K49X
open PySem PySem.Spec PyProof.Rows L2
theorem law_fn {u : U} {mg : Str → Option Value} {base : Heap} {f : Addr} {fd : FuncData} (T : Fx u mg base) (F : FunD u.K "law" "law" (defArgs (top 228)) (defBody (top 228)) (defScope (top 228)) [] [] f fd) : FnOk u.P u.w u.K mg base (L2N.CX u.P u.w) 15 f fd ["script"] (spM u d_law 1) :=
  def_okM (N := ["script", "program", "row", "bads", "bad"]) (k := 9) F ⟨rfl, rfl, rfl, by decide +kernel, rfl, by decide +kernel, by decide +kernel⟩ rfl rfl fun cdv A outer s H E C hr =>
  (ss_cons (s_asg [1] C (gok_name (by decide)) (g_name C 1) (d_tup (sa_cons (d_tup (sa_cons (d_tup (sa_cons d_str (sa_cons d_int (sa_cons d_int sa_nil)))) (sa_cons (d_tup (sa_cons d_str (sa_cons d_int (sa_cons d_int sa_nil)))) sa_nil))) (sa_cons (d_tup (sa_cons (d_tup (sa_cons d_str (sa_cons d_int (sa_cons d_int sa_nil)))) (sa_cons (d_tup (sa_cons d_str (sa_cons d_int (sa_cons d_int sa_nil)))) sa_nil))) sa_nil))))
    (ss_cons (s_asg [2] C (gok_name (by decide)) (g_name C 2) (d_tup (sa_cons d_str (sa_cons d_int (sa_cons d_bl sa_nil)))))
    (ss_cons (s_asg [3] C (gok_name (by decide)) (g_name C 3) (d_lst (sa_cons d_non (sa_cons (d_tup sa_nil) (sa_cons (d_tup (sa_cons (dv 2) sa_nil)) (sa_cons (d_tup (sa_cons (d_tup (sa_cons (dv 2) sa_nil)) sa_nil)) (sa_cons (d_lst (sa_cons (d_tup sa_nil) sa_nil)) (sa_cons (d_op (o_mul C) (d_tup (sa_cons (d_tup sa_nil) sa_nil)) d_int) (sa_cons (d_tup (sa_cons (d_op (o_mul C) (d_tup (sa_cons (d_tup (sa_cons d_str sa_nil)) sa_nil)) d_int) sa_nil)) (sa_cons (d_tup (sa_cons (d_tup (sa_cons (d_tup (sa_cons d_str (sa_cons d_int (sa_cons d_int (sa_cons d_int sa_nil))))) sa_nil)) sa_nil)) (sa_cons (d_tup (sa_cons (d_tup (sa_cons (d_tup sa_nil) sa_nil)) sa_nil)) sa_nil)))))))))))
    (ss_cons (s_if (t_not (t_val (d_allC [("bad", 4)] C T.n_all (by kernel_rfl) (gok_name (by decide)) (i_seq C (dv 3)) (fun _ _ _ _ _ C => (g_name C 4)) (fun _ _ _ _ _ C => d_yes) (fun _ _ _ _ _ C => (d_call C (ok__law_first_right T) (hr.mono (by decide)) (sa_cons (dv 1) (sa_cons (dv 4) sa_nil))))))) (ss_one (s_ret d_bl)) ss_nil)
    (ss_one (s_ret (d_and (d_call C (ok__law_others_right T) (hr.mono (by decide)) (sa_cons (dv 1) sa_nil)) (d_one (d_bi (b_isID C T.uok) T.n_isinstance (sa_cons (dv 0) (sa_cons (d_ty 4 T.n_list PyProof.Rows.boot_list) sa_nil)))))))))))
theorem at_law {w : World} {h : Heap} {mg : Str → Option Value} {fq : Addr} (Y : hk.says w h) (G : h.Ns mainGlobals mg) (hmg : mg ("law" : Str) = some (.ref fq)) : ∃ K : PySem.W.Frag, K.In h ∧ LamX.LawAtS PySem.Challenge.rw_memoryviews_k49_refused w K (L2N.CX (PySem.Challenge.rw_memoryviews_k49_refused).prog w) 15 63 "script" mg fq h := by
  obtain ⟨K, KX, c⟩ := Y
  obtain ⟨fd, F⟩ := c.t.d.def_ 78 (d := ⟨("law", none), "law", "law", defArgs (top 228), defBody (top 228), defScope (top 228), [], []⟩) rfl
  have e := hmg.symm.trans (He.glo_ok KX G (c.t.d.fact 76 (f := .glo "law") rfl))
  cases e
  have b := FunD.bindsA (ps := ["script"]) F fun _ _ _ _ _ _ us hl => match us, hl with | [_], _ => rfl
  have hx := c.more
  obtain ⟨_, hx⟩ := He.ba hx
  obtain ⟨_, hx⟩ := He.ba hx
  obtain ⟨_, hx⟩ := He.ba hx
  obtain ⟨_, hx⟩ := He.ba hx
  obtain ⟨_, hx⟩ := He.ba hx
  obtain ⟨_, hx⟩ := He.ba hx
  obtain ⟨_, hx⟩ := He.ba hx
  obtain ⟨_, hx⟩ := He.ba hx
  obtain ⟨_, hx⟩ := He.ba hx
  obtain ⟨_, hx⟩ := He.ba hx
  obtain ⟨_, hx⟩ := He.ba hx
  obtain ⟨_, hx⟩ := He.ba hx
  obtain ⟨_, hx⟩ := He.ba hx
  obtain ⟨_, hx⟩ := He.ba hx
  obtain ⟨_, hx⟩ := He.ba hx
  obtain ⟨_, hx⟩ := He.ba hx
  obtain ⟨_, hx⟩ := He.ba hx
  obtain ⟨_, hx⟩ := He.ba hx
  obtain ⟨_, hx⟩ := He.ba hx
  obtain ⟨_, hx⟩ := He.ba hx
  obtain ⟨_, hx⟩ := He.ba hx
  obtain ⟨_, hx⟩ := He.ba hx
  obtain ⟨_, hx⟩ := He.ba hx
  obtain ⟨_, hx⟩ := He.ba hx
  obtain ⟨_, hx⟩ := He.ba hx
  obtain ⟨_, hx⟩ := He.ba hx
  obtain ⟨_, hx⟩ := He.ba hx
  obtain ⟨_, hx⟩ := He.ba hx
  obtain ⟨_, hx⟩ := He.ba hx
  obtain ⟨_, hx⟩ := He.ba hx
  obtain ⟨_, hx⟩ := He.ba hx
  obtain ⟨_, hx⟩ := He.ba hx
  obtain ⟨_, hx⟩ := He.ba hx
  refine ⟨K, KX, fd, tf.map (He.cT K), spM (uu (PySem.Challenge.rw_memoryviews_k49_refused).prog w K) d_law 1, fun p hp => ?_, fun p hp => ?_, fun p hp => ?_, fun s v => b s [v] rfl, fun H a ns hl _ hH hS => ?_, fun base kb gb hT => ?_⟩
  · obtain ⟨q, hq, rfl⟩ := List.mem_map.mp hp
    exact c.empty q hq
  · obtain ⟨q, hq, rfl⟩ := List.mem_map.mp hp
    exact c.out q hq
  · obtain ⟨q, hq, rfl⟩ := List.mem_map.mp hp
    exact PySem.W.codeHd_of_K KX (c.hd q hq)
  · refine start_sp (u := uu (PySem.Challenge.rw_memoryviews_k49_refused).prog w K) rfl rfl rfl (fun p hp => ?_) (no_list hx) hS (ans1 ns) (ans2 ns)
    obtain ⟨q, hq, rfl⟩ := List.mem_map.mp hp
    exact hH (He.cT K q) (List.mem_map_of_mem hq)
  · exact law_fn (u := uu (PySem.Challenge.rw_memoryviews_k49_refused).prog w K) (fx KX G c hT) F
end K49X
end Ev
open PySem PySem.W PySem.Calls PyProof.Rows
theorem PySem.Challenge.cw_memoryviews_k49_refused_holds : PySem.Challenge.rw_memoryviews_k49_refused.Holds := by
  w_on; o_law
  refine HandSHeadRun.head_imp (r := OpenLaw.row PySem.Challenge.rw_memoryviews_k49_refused) (q := Ev.K49X.qv) (H := Ev.K49X.hk) (ob := Ev.K49X.ob) (M := 30000) (loose := Ev.K49X.loose) (d := HandSHeadRun.topDef (OpenLaw.row PySem.Challenge.rw_memoryviews_k49_refused).prog 228) (kwd := []) Ev.K49X.ob_eq
    Ev.K49X.run (by kernel_rfl) (by kernel_rfl) (by kernel_rfl) (by rfl) (by first | assumption | decide +kernel) (by decide +kernel) Ev.K49X.bare ?hw ?hc
  case hw => w_witness2
  case hc =>
    refine LamX.walk_ofTsE (l := PySem.Challenge.rw_memoryviews_k49_refused) (n := 63) (k := 15) (x := "script") (CX := fun w => L2N.CX (PySem.Challenge.rw_memoryviews_k49_refused).prog w) rfl (by decide) (by kernel_rfl) ⟨rfl, by decide, by decide⟩ ?F (fun _ _ _ _ _ ⟨_, _, _, _, _, _, _, _, _, _, _, _, z⟩ => z)
    intro w mg fa h Y G hmg0
    have hmg : mg ("law" : PySem.Str) = some (.ref fa) := by
      have e : (HandSHeadRun.topDef (OpenLaw.row PySem.Challenge.rw_memoryviews_k49_refused).prog 228).name = ("law" : PySem.Str) := by kernel_rfl
      rw [← e]
      exact hmg0
    exact Ev.K49X.at_law Y G hmg

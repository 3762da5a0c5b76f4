import PyProof.Rows.All
import Wide.All
import OpenK.AllK
import Wide.FinOn
import KE.DataMinMax
import KE.GoesEnum
import KE.GoesMore
import KE.KExcInit
import KE.SortData
import HandS.Deep
import HandS.Defaults
import HandS.DictComp
import HandS.Ends
import HandS.ExcCtx
import HandS.ExcField
import HandS.ExcInit
import HandS.ExcOwn
import HandS.Flow
import HandS.ForExc
import HandS.ForMost
import HandS.IsInst
import HandS.Iter
import HandS.SetFor
import HandS.SortInts
import HandS.SortRule
import HandS.Strs
import HandS.Style
import HandS.TupAny
import HandS.TupLen
import HandS.TupMul
import HandS.Words
import HandS.WordsDict
import HandS.WordsExc
import HandS.Zip
import PySem.Challenge.RW_threefeet_k14_parts_by_hand_and_refused
set_option Elab.async false
set_option linter.all false
/-! M1: a small evaluator of a part of Python ("mini"): values, heap, terms, one step over a slower self. -/
namespace Mini
open PySem
abbrev Kx := L2.Key
/-- built-in types -/
inductive Bt where
  | int | bool | tuple | list | str | dict | non
def Bt.name : Bt → String
  | .int => "int" | .bool => "bool" | .tuple => "tuple" | .list => "list" | .str => "str" | .dict => "dict" | .non => "NoneType"
/-- the first is the second, or a kind of it -/
def Bt.isa : Bt → Bt → Bool
  | .int, .int => true | .bool, .bool => true | .bool, .int => true | .tuple, .tuple => true | .list, .list => true | .str, .str => true | .dict, .dict => true | .non, .non => true
  | _, _ => false
inductive Vl where
  | non | bl (b : Bool) | int (i : Int) | str (x : Str) | tup (xs : List Vl) | ref (n : Nat) | ty (n : Bt) | opq
inductive Ob where
  | lst (xs : List Vl) | ro (xs : List Vl) | dk (kvs : List (Kx × Vl)) | dt (kvs : List (List Kx × Vl)) | dz | st (xs : List Int)
/-! ### ints by Bool -/
def ieq : Int → Int → Bool
  | .ofNat m, .ofNat n => Nat.beq m n
  | .negSucc m, .negSucc n => Nat.beq m n
  | _, _ => false
def ile : Int → Int → Bool
  | .ofNat m, .ofNat n => Nat.ble m n
  | .ofNat _, .negSucc _ => false
  | .negSucc _, .ofNat _ => true
  | .negSucc m, .negSucc n => Nat.ble n m
def ilt (a b : Int) : Bool := !ile b a
theorem nbeq (m n : Nat) : Nat.beq m n = decide (m = n) := by
  cases h : Nat.beq m n with
  | true => exact (decide_eq_true (Nat.eq_of_beq_eq_true h)).symm
  | false => exact (decide_eq_false (Nat.ne_of_beq_eq_false h)).symm
theorem nble (m n : Nat) : Nat.ble m n = decide (m ≤ n) := by
  cases h : Nat.ble m n with
  | true => exact (decide_eq_true (Nat.le_of_ble_eq_true h)).symm
  | false => exact (decide_eq_false (fun q => by rw [Nat.ble_eq_true_of_le q] at h; cases h)).symm
theorem ieq_eq (a b : Int) : ieq a b = decide (a = b) := by
  cases a with
  | ofNat m => cases b with
    | ofNat n => show Nat.beq m n = _; rw [nbeq]; congr 1; apply propext; constructor
                 · intro h; rw [h]
                 · intro h; cases h; rfl
    | negSucc n => exact (decide_eq_false (fun h => nomatch h)).symm
  | negSucc m => cases b with
    | ofNat n => exact (decide_eq_false (fun h => nomatch h)).symm
    | negSucc n => show Nat.beq m n = _; rw [nbeq]; congr 1; apply propext; constructor
                   · intro h; rw [h]
                   · intro h; cases h; rfl
theorem ile_eq (a b : Int) : ile a b = decide (a ≤ b) := by
  cases a with
  | ofNat m => cases b with
    | ofNat n => show Nat.ble m n = _; rw [nble]; simp
    | negSucc n => exact (decide_eq_false (fun h => by have : ((m : Nat) : Int) ≤ Int.negSucc n := h; omega)).symm
  | negSucc m => cases b with
    | ofNat n => exact (decide_eq_true (by show Int.negSucc m ≤ ((n : Nat) : Int); omega)).symm
    | negSucc n => show Nat.ble n m = _; rw [nble]; congr 1; apply propext; omega
theorem ilt_eq (a b : Int) : ilt a b = decide (a < b) := by
  unfold ilt
  rw [ile_eq]
  by_cases h : b ≤ a
  · rw [decide_eq_true h, decide_eq_false (by omega)]; rfl
  · rw [decide_eq_false h, decide_eq_true (by omega)]; rfl
/-! ### the heap: a binary tree -/
inductive Tr where
  | nil | nd (v : Option Ob) (l r : Tr)
def Tr.get : Tr → Nat → Option Ob
  | .nil, _ => none
  | .nd v l r, i => match i with
    | 0 => v
    | k + 1 => cond (Nat.beq (k % 2) 0) (l.get (k / 2)) (r.get (k / 2))
def Tr.put : Nat → Tr → Nat → Ob → Tr
  | 0, t, _, _ => t
  | f + 1, .nil, i, o => match i with
    | 0 => .nd (some o) .nil .nil
    | k + 1 => cond (Nat.beq (k % 2) 0) (.nd none (Tr.put f .nil (k / 2) o) .nil) (.nd none .nil (Tr.put f .nil (k / 2) o))
  | f + 1, .nd v l r, i, o => match i with
    | 0 => .nd (some o) l r
    | k + 1 => cond (Nat.beq (k % 2) 0) (.nd v (Tr.put f l (k / 2) o) r) (.nd v l (Tr.put f r (k / 2) o))
theorem Tr.get_nil (i : Nat) : Tr.get .nil i = none := rfl
theorem Tr.get_put : ∀ (f : Nat) (t : Tr) (i j : Nat) (o : Ob), i < f → (Tr.put f t i o).get j = if i = j then some o else t.get j := by
  intro f
  induction f with
  | zero => intro t i j o h; omega
  | succ f ih =>
    intro t i j o h
    cases t with
    | nil =>
      cases i with
      | zero =>
        cases j with
        | zero => rfl
        | succ j =>
          rw [if_neg (by omega)]
          show cond _ (Tr.get .nil _) (Tr.get .nil _) = _
          simp only [Tr.get_nil]; cases Nat.beq (j % 2) 0 <;> rfl
      | succ k =>
        have hk : k / 2 < f := by omega
        unfold Tr.put
        dsimp only
        rw [nbeq (k % 2) 0]
        by_cases p : k % 2 = 0
        · rw [decide_eq_true p]
          cases j with
          | zero => rw [if_neg (by omega)]; rfl
          | succ j =>
            show cond (Nat.beq (j % 2) 0) ((Tr.put f .nil (k / 2) o).get (j / 2)) (Tr.get .nil (j / 2)) = _
            rw [nbeq, ih .nil _ _ o hk]
            by_cases q : j % 2 = 0
            · rw [decide_eq_true q]
              show (if k / 2 = j / 2 then some o else none) = if k + 1 = j + 1 then some o else none
              by_cases e : k / 2 = j / 2
              · rw [if_pos e, if_pos (by omega)]
              · rw [if_neg e, if_neg (by omega)]
            · rw [decide_eq_false q]
              show Tr.get .nil (j / 2) = if k + 1 = j + 1 then some o else none
              rw [if_neg (by omega)]; rfl
        · rw [decide_eq_false p]
          cases j with
          | zero => rw [if_neg (by omega)]; rfl
          | succ j =>
            show cond (Nat.beq (j % 2) 0) (Tr.get .nil (j / 2)) ((Tr.put f .nil (k / 2) o).get (j / 2)) = _
            rw [nbeq, ih .nil _ _ o hk]
            by_cases q : j % 2 = 0
            · rw [decide_eq_true q]
              show Tr.get .nil (j / 2) = if k + 1 = j + 1 then some o else none
              rw [if_neg (by omega)]; rfl
            · rw [decide_eq_false q]
              show (if k / 2 = j / 2 then some o else none) = if k + 1 = j + 1 then some o else none
              by_cases e : k / 2 = j / 2
              · rw [if_pos e, if_pos (by omega)]
              · rw [if_neg e, if_neg (by omega)]
    | nd v l r =>
      cases i with
      | zero =>
        cases j with
        | zero => rfl
        | succ j => rw [if_neg (by omega)]; rfl
      | succ k =>
        have hk : k / 2 < f := by omega
        unfold Tr.put
        dsimp only
        rw [nbeq (k % 2) 0]
        by_cases p : k % 2 = 0
        · rw [decide_eq_true p]
          cases j with
          | zero => rw [if_neg (by omega)]; rfl
          | succ j =>
            show cond (Nat.beq (j % 2) 0) ((Tr.put f l (k / 2) o).get (j / 2)) (r.get (j / 2)) = if _ then _ else cond (Nat.beq (j % 2) 0) (l.get (j / 2)) (r.get (j / 2))
            rw [nbeq, ih l _ _ o hk]
            by_cases q : j % 2 = 0
            · rw [decide_eq_true q]
              show (if k / 2 = j / 2 then some o else l.get (j / 2)) = if k + 1 = j + 1 then some o else l.get (j / 2)
              by_cases e : k / 2 = j / 2
              · rw [if_pos e, if_pos (by omega)]
              · rw [if_neg e, if_neg (by omega)]
            · rw [decide_eq_false q]
              show r.get (j / 2) = if k + 1 = j + 1 then some o else r.get (j / 2)
              rw [if_neg (by omega)]
        · rw [decide_eq_false p]
          cases j with
          | zero => rw [if_neg (by omega)]; rfl
          | succ j =>
            show cond (Nat.beq (j % 2) 0) (l.get (j / 2)) ((Tr.put f r (k / 2) o).get (j / 2)) = if _ then _ else cond (Nat.beq (j % 2) 0) (l.get (j / 2)) (r.get (j / 2))
            rw [nbeq, ih r _ _ o hk]
            by_cases q : j % 2 = 0
            · rw [decide_eq_true q]
              show l.get (j / 2) = if k + 1 = j + 1 then some o else l.get (j / 2)
              rw [if_neg (by omega)]
            · rw [decide_eq_false q]
              show (if k / 2 = j / 2 then some o else r.get (j / 2)) = if k + 1 = j + 1 then some o else r.get (j / 2)
              by_cases e : k / 2 = j / 2
              · rw [if_pos e, if_pos (by omega)]
              · rw [if_neg e, if_neg (by omega)]
structure Hx where
  n : Nat
  t : Tr
def Hx.get (h : Hx) (i : Nat) : Option Ob := h.t.get i
def Hx.put (h : Hx) (i : Nat) (o : Ob) : Hx := ⟨h.n, Tr.put (i + 1) h.t i o⟩
def Hx.new (h : Hx) (o : Ob) : Hx := ⟨h.n + 1, Tr.put (h.n + 1) h.t h.n o⟩
theorem Hx.get_put (h : Hx) (i j : Nat) (o : Ob) : (h.put i o).get j = if i = j then some o else h.get j := Tr.get_put _ _ _ _ _ (Nat.lt_succ_self i)
theorem Hx.get_new (h : Hx) (j : Nat) (o : Ob) : (h.new o).get j = if h.n = j then some o else h.get j := Tr.get_put _ _ _ _ _ (Nat.lt_succ_self _)
/-! ### answers -/
inductive R (α : Type) where
  | ok (a : α) (h : Hx)
  | ex (c : Nat) (p : Vl) (h : Hx)
  | no
def R.bind {α β : Type} (r : R α) (k : α → Hx → R β) : R β := match r with
  | .ok a h => k a h
  | .ex c p h => .ex c p h
  | .no => .no
abbrev Env := List (Option Vl)
inductive Sg where
  | nx (s : Env) (h : Hx) | rt (v : Vl) (h : Hx) | bk (s : Env) (h : Hx) | ct (s : Env) (h : Hx) | ex (c : Nat) (p : Vl) (s : Env) (h : Hx) | no
/-- an expression's answer within a statement -/
def R.sg {α : Type} (r : R α) (s : Env) (k : α → Hx → Sg) : Sg := match r with
  | .ok a h => k a h
  | .ex c p h => .ex c p s h
  | .no => .no
def Sg.seq (r : Sg) (k : Env → Hx → Sg) : Sg := match r with
  | .nx s h => k s h
  | r => r
/-! ### terms -/
inductive Op where
  | add | sub | mul | fdiv | mod | pow | shl | shr | band | bor | bxor | eq | ne | lt | le | gt | ge | inn | nin | isN | notN | item
/-- built-in functions and types, called by place -/
inductive Bf where
  | len | tuple | list | sorted | set | int | min | max | sum | all | any | abs | isinst | lenset | sortset
inductive Mf where
  | append | extend | pop | index | count | insert | remove | bits
inductive G where
  | name (i : Nat) | tup (gs : List G)
mutual
inductive M where
  | var (i : Nat) | cst (v : Vl) | op (o : Op) (a b : M) | chain (o1 o2 : Op) (a b c : M) | neg (a : M) | inv (a : M) | not (a : M) | and (a b : M) | or (a b : M) | ite (t : T) (a b : M)
  | tup (es : List M) | lst (es : List M) | slice (a : M) (lo hi : Option M) | rev (a : M) | call (f : Nat) (es : List M) | callk (f : Nat) (ks : List M) (perm : List Nat) | us (f : Bf) (a : M) | bf (f : Bf) (es : List M) | mf (f : Mf) (o : M) (es : List M)
  | lc (w : W) (g : G) (ts : List T) (e : M) (own : List Nat) | dc (w : W) (g : G) (ts : List T) (k e : M) (own : List Nat) | dnk | dnt | one (a : M)
inductive T where
  | one (t : T) | val (a : M) | not (t : T) | and (a b : T) | or (a b : T) | cmp (o : Op) (a b : M) | chain (o1 o2 : Op) (a b c : M)
inductive W where
  | seq (a : M) | rng1 (a : M) | rng2 (a b : M) | enum (a : M) | zip (a b : M)
end
inductive S where
  | asg (g : G) (e : M) | sub (o i e : M) | par (is : List Nat) (es : List M) | aug (i : Nat) (o : Op) (e : M) | expr (e : M) | ret (e : M) | retN | iff (t : T) (a b : List S) | loop (w : W) (g : G) (b : List S) | while (t : T) (b : List S)
  | raise (c : Nat) (e : M) | pass | brk | cont | tryN (b : List S) | tryA (b : List S) (c i j : Nat) | skip
/-! ### lists -/
def llen {α : Type} : List α → Nat
  | [] => 0
  | _ :: r => llen r + 1
theorem llen_eq {α : Type} : ∀ l : List α, llen l = l.length
  | [] => rfl
  | _ :: r => by rw [llen, llen_eq r]; rfl
def most : Nat := 100000
def okLen {α : Type} (l : List α) : Bool := Nat.ble (llen l) most
theorem okLen_le {α : Type} {l : List α} (h : okLen l = true) : l.length ≤ 100000 := by
  unfold okLen at h
  rw [nble, llen_eq] at h
  exact of_decide_eq_true h
/-- place of an index, from either end -/
def ixn (n : Nat) (i : Int) : Option Nat := match i with
  | .ofNat k => cond (Nat.blt k n) (some k) none
  | .negSucc k => cond (Nat.blt k n) (some (n - (k + 1))) none
def lget {α : Type} : List α → Nat → Option α
  | [], _ => none
  | a :: r, i => match i with
    | 0 => some a
    | k + 1 => lget r k
theorem lget_eq {α : Type} : ∀ (l : List α) (i : Nat), lget l i = l[i]?
  | [], _ => rfl
  | _ :: _, 0 => rfl
  | _ :: r, i + 1 => by rw [lget, lget_eq r i]; rfl
def lset {α : Type} : List α → Nat → α → List α
  | [], _, _ => []
  | a :: r, i, x => match i with
    | 0 => x :: r
    | k + 1 => a :: lset r k x
theorem lset_eq {α : Type} : ∀ (l : List α) (i : Nat) (x : α), lset l i x = l.set i x
  | [], _, _ => rfl
  | _ :: _, 0, _ => rfl
  | _ :: r, i + 1, x => by rw [lset, lset_eq r i]; rfl
def sls (n d : Nat) : Option Int → Nat
  | none => d
  | some (.ofNat k) => cond (Nat.ble k n) k n
  | some (.negSucc k) => n - (k + 1)
def cut {α : Type} (xs : List α) (lo hi : Option Int) : List α :=
  let n := llen xs
  let a := sls n 0 lo
  let b := sls n n hi
  (xs.drop a).take (b - a)
def getA : Option Vl → R Vl := fun _ => .no
def putE (s : Env) (i : Nat) (v : Vl) : Env := lset s i (some v)
def wipeE (s : Env) : List Nat → Env
  | [] => s
  | v :: vs => lset (wipeE s vs) v none
/-! ### data -/
mutual
def Vl.py : Vl → Option PyData
  | .non => some .none
  | .bl b => some (.bool b)
  | .int i => some (.int i)
  | .str x => some (.str x)
  | .tup xs => (pys xs).map PyData.tuple
  | .ref _ => none
  | .ty _ => none
  | .opq => none
def pys : List Vl → Option (List PyData)
  | [] => some []
  | x :: r => match x.py with
    | none => none
    | some d => (pys r).map fun ds => d :: ds
end
def deq (v w : Vl) : Option Bool := match v.py, w.py with
  | some d, some e => cond (SeqAt.shaped d && SeqAt.shaped e) (some (PyData.eqv d e)) none
  | _, _ => none
end Mini
set_option Elab.async false
set_option linter.all false
/-! M2: what mini's values and heaps stand for in the hand layer's abstract heap; readings of mini's answers. -/
namespace Mini
open PySem L2
abbrev Rh := List Addr
mutual
def RV (ρ : Rh) (H : Hp) : Vl → V → Prop
  | .non, x => x = .non
  | .bl b, x => x = .bl b
  | .int i, x => x = .int i
  | .str s, x => x = .str s
  | .ty n, x => x = .ty n.name
  | .opq, _ => True
  | .ref n, x => ∃ a, x = .ref a ∧ ρ[n]? = some a
  | .tup xs, x => ∃ a ys, x = .ref a ∧ H a = some (.tup ys) ∧ RVs ρ H xs ys
def RVs (ρ : Rh) (H : Hp) : List Vl → List V → Prop
  | [], ys => ys = []
  | x :: xs, ys => ∃ y r, ys = y :: r ∧ RV ρ H x y ∧ RVs ρ H xs r
end
structure Ex (ρ : Rh) (H : Hp) (ρ' : Rh) (H' : Hp) : Prop where
  pre : ∃ l, ρ' = ρ ++ l
  tup : ∀ a xs, H a = some (.tup xs) → H' a = some (.tup xs)
  xd : ∀ a fs, H a = some (.xd fs) → H' a = some (.xd fs)
section
variable {ρ ρ' ρ'' : Rh} {H H' H'' : Hp}
theorem Ex.refl (ρ : Rh) (H : Hp) : Ex ρ H ρ H := ⟨⟨[], by simp⟩, fun _ _ h => h, fun _ _ h => h⟩
theorem Ex.trans (a : Ex ρ H ρ' H') (b : Ex ρ' H' ρ'' H'') : Ex ρ H ρ'' H'' := by
  obtain ⟨l, rfl⟩ := a.pre
  obtain ⟨l', rfl⟩ := b.pre
  exact ⟨⟨l ++ l', by simp⟩, fun x xs h => b.tup x xs (a.tup x xs h), fun x xs h => b.xd x xs (a.xd x xs h)⟩
theorem Ex.at (e : Ex ρ H ρ' H') {n : Nat} {a : Addr} (h : ρ[n]? = some a) : ρ'[n]? = some a := by
  obtain ⟨l, rfl⟩ := e.pre
  have hl : n < ρ.length := by
    rcases Nat.lt_or_ge n ρ.length with q | q
    · exact q
    · rw [List.getElem?_eq_none q] at h; cases h
  rw [List.getElem?_append_left hl]; exact h
mutual
theorem RV.mono (e : Ex ρ H ρ' H') : ∀ (v : Vl) (x : V), RV ρ H v x → RV ρ' H' v x
  | .non, _, h => by unfold RV at *; exact h
  | .bl _, _, h => by unfold RV at *; exact h
  | .int _, _, h => by unfold RV at *; exact h
  | .str _, _, h => by unfold RV at *; exact h
  | .ty _, _, h => by unfold RV at *; exact h
  | .opq, _, h => by unfold RV at *; exact h
  | .ref n, _, h => by
    unfold RV at *
    obtain ⟨a, h1, h2⟩ := h
    exact ⟨a, h1, e.at h2⟩
  | .tup xs, _, h => by
    unfold RV at *
    obtain ⟨a, ys, h1, h2, h3⟩ := h
    exact ⟨a, ys, h1, e.tup _ _ h2, RVs.mono e xs ys h3⟩
theorem RVs.mono (e : Ex ρ H ρ' H') : ∀ (vs : List Vl) (xs : List V), RVs ρ H vs xs → RVs ρ' H' vs xs
  | [], _, h => by unfold RVs at *; exact h
  | v :: vs, _, h => by
    unfold RVs at *
    obtain ⟨y, r, h1, h2, h3⟩ := h
    exact ⟨y, r, h1, RV.mono e v y h2, RVs.mono e vs r h3⟩
end
theorem RVs.nil : RVs ρ H [] [] := by unfold RVs; rfl
theorem RVs.cons {v : Vl} {x : V} {vs : List Vl} {xs : List V} (h : RV ρ H v x) (t : RVs ρ H vs xs) : RVs ρ H (v :: vs) (x :: xs) := by
  unfold RVs; exact ⟨x, xs, rfl, h, t⟩
theorem RVs.nil_inv {xs : List V} (h : RVs ρ H [] xs) : xs = [] := by unfold RVs at h; exact h
theorem RVs.cons_inv {v : Vl} {vs : List Vl} {xs : List V} (h : RVs ρ H (v :: vs) xs) : ∃ y r, xs = y :: r ∧ RV ρ H v y ∧ RVs ρ H vs r := by unfold RVs at h; exact h
theorem RVs.length : ∀ {vs : List Vl} {xs : List V}, RVs ρ H vs xs → vs.length = xs.length
  | [], _, h => by rw [h.nil_inv]; rfl
  | v :: vs, _, h => by
    obtain ⟨y, r, rfl, _, t⟩ := h.cons_inv
    rw [List.length_cons, List.length_cons, RVs.length t]
theorem RVs.get : ∀ {vs : List Vl} {xs : List V} {i : Nat} {v : Vl}, RVs ρ H vs xs → vs[i]? = some v → ∃ x, xs[i]? = some x ∧ RV ρ H v x
  | [], _, _, _, _, e => by simp at e
  | w :: vs, _, 0, v, h, e => by
    obtain ⟨y, r, rfl, a, t⟩ := h.cons_inv
    simp at e; subst e
    exact ⟨y, rfl, a⟩
  | w :: vs, _, i + 1, v, h, e => by
    obtain ⟨y, r, rfl, a, t⟩ := h.cons_inv
    obtain ⟨x, h1, h2⟩ := RVs.get (i := i) (v := v) t (by simpa using e)
    exact ⟨x, by simpa using h1, h2⟩
theorem RVs.append : ∀ {vs ws : List Vl} {xs ys : List V}, RVs ρ H vs xs → RVs ρ H ws ys → RVs ρ H (vs ++ ws) (xs ++ ys)
  | [], _, _, _, h, g => by rw [h.nil_inv]; exact g
  | v :: vs, _, _, _, h, g => by
    obtain ⟨y, r, rfl, a, t⟩ := h.cons_inv
    exact RVs.cons a (RVs.append t g)
theorem RVs.take : ∀ (n : Nat) {vs : List Vl} {xs : List V}, RVs ρ H vs xs → RVs ρ H (vs.take n) (xs.take n)
  | 0, _, _, _ => by simp only [List.take_zero]; exact RVs.nil
  | n + 1, [], _, h => by rw [h.nil_inv]; exact RVs.nil
  | n + 1, v :: vs, _, h => by
    obtain ⟨y, r, rfl, a, t⟩ := h.cons_inv
    exact RVs.cons a (RVs.take n t)
theorem RVs.drop : ∀ (n : Nat) {vs : List Vl} {xs : List V}, RVs ρ H vs xs → RVs ρ H (vs.drop n) (xs.drop n)
  | 0, _, _, h => h
  | n + 1, [], _, h => by rw [h.nil_inv]; exact RVs.nil
  | n + 1, v :: vs, _, h => by
    obtain ⟨y, r, rfl, a, t⟩ := h.cons_inv
    exact RVs.drop n t
theorem RVs.reverse : ∀ {vs : List Vl} {xs : List V}, RVs ρ H vs xs → RVs ρ H vs.reverse xs.reverse
  | [], _, h => by rw [h.nil_inv]; exact RVs.nil
  | v :: vs, _, h => by
    obtain ⟨y, r, rfl, a, t⟩ := h.cons_inv
    rw [List.reverse_cons, List.reverse_cons]
    exact (RVs.reverse t).append (RVs.cons a RVs.nil)
theorem RVs.set {v : Vl} {x : V} (a : RV ρ H v x) : ∀ (i : Nat) {vs : List Vl} {xs : List V}, RVs ρ H vs xs → RVs ρ H (vs.set i v) (xs.set i x)
  | _, [], _, h => by rw [h.nil_inv]; simp; exact RVs.nil
  | 0, w :: vs, _, h => by
    obtain ⟨y, r, rfl, b, t⟩ := h.cons_inv
    exact RVs.cons a t
  | i + 1, w :: vs, _, h => by
    obtain ⟨y, r, rfl, b, t⟩ := h.cons_inv
    exact RVs.cons b (RVs.set a i t)
theorem RVs.none {vs : List Vl} {xs : List V} {i : Nat} (h : RVs ρ H vs xs) (e : vs[i]? = none) : xs[i]? = none := by
  have := h.length
  have h2 := List.getElem?_eq_none_iff.mp e
  exact List.getElem?_eq_none_iff.mpr (by omega)
theorem RV.tup_of {a : Addr} {vs : List Vl} {ys : List V} (h : H a = some (.tup ys)) (r : RVs ρ H vs ys) : RV ρ H (.tup vs) (.ref a) := by unfold RV; exact ⟨a, ys, rfl, h, r⟩
theorem RV.tup_inv {vs : List Vl} {x : V} (r : RV ρ H (.tup vs) x) : ∃ a ys, x = .ref a ∧ H a = some (.tup ys) ∧ RVs ρ H vs ys := by unfold RV at r; exact r
theorem RV.ref_of {a : Addr} {n : Nat} (h : ρ[n]? = some a) : RV ρ H (.ref n) (.ref a) := by unfold RV; exact ⟨a, rfl, h⟩
theorem RV.ref_inv {n : Nat} {x : V} (r : RV ρ H (.ref n) x) : ∃ a, x = .ref a ∧ ρ[n]? = some a := by unfold RV at r; exact r
theorem RV.int_of {i : Int} : RV ρ H (.int i) (.int i) := by unfold RV; rfl
theorem RV.int_inv {i : Int} {x : V} (r : RV ρ H (.int i) x) : x = .int i := by unfold RV at r; exact r
theorem RV.bl_of {b : Bool} : RV ρ H (.bl b) (.bl b) := by unfold RV; rfl
theorem RV.bl_inv {b : Bool} {x : V} (r : RV ρ H (.bl b) x) : x = .bl b := by unfold RV at r; exact r
theorem RV.non_of : RV ρ H .non .non := by unfold RV; rfl
theorem RV.non_inv {x : V} (r : RV ρ H .non x) : x = .non := by unfold RV at r; exact r
theorem RV.str_of {s : Str} : RV ρ H (.str s) (.str s) := by unfold RV; rfl
theorem RV.str_inv {s : Str} {x : V} (r : RV ρ H (.str s) x) : x = .str s := by unfold RV at r; exact r
theorem RV.opq_of {x : V} : RV ρ H .opq x := by unfold RV; trivial
theorem RV.ty_of {s : Bt} : RV ρ H (.ty s) (.ty s.name) := by unfold RV; rfl
theorem RV.ty_inv {s : Bt} {x : V} (r : RV ρ H (.ty s) x) : x = .ty s.name := by unfold RV at r; exact r
end
/-! ### objects -/
def RK {κ : Type} (ρ : Rh) (H : Hp) : List (κ × Vl) → List (κ × V) → Prop
  | [], ks => ks = []
  | p :: r, ks => ∃ q s, ks = q :: s ∧ q.1 = p.1 ∧ RV ρ H p.2 q.2 ∧ RK ρ H r s
theorem RK.mono {κ : Type} {ρ ρ' : Rh} {H H' : Hp} (e : Ex ρ H ρ' H') : ∀ {l : List (κ × Vl)} {ks : List (κ × V)}, RK ρ H l ks → RK ρ' H' l ks
  | [], _, h => h
  | _ :: _, _, h => by
    obtain ⟨q, s, h1, h2, h3, h4⟩ := h
    exact ⟨q, s, h1, h2, RV.mono e _ _ h3, RK.mono e h4⟩
def OR (ρ : Rh) (H : Hp) : Ob → Addr → Prop
  | .lst xs, a => ∃ ys, H a = some (.lst ys) ∧ RVs ρ H xs ys
  | .ro xs, a => ∃ o ys, H a = some (.frz o (.lst ys)) ∧ RVs ρ H xs ys
  | .dk kvs, a => ∃ ks, H a = some (.dK ks) ∧ RK ρ H kvs ks
  | .dt kvs, a => ∃ ks, H a = some (.dT ks) ∧ RK ρ H kvs ks
  | .dz, _ => False
  | .st _, _ => False
structure HR (ρ : Rh) (h : Hx) (H : Hp) : Prop where
  len : h.n = ρ.length
  nd : ρ.Nodup
  at_ : ∀ i a, ρ[i]? = some a → ∃ o, h.get i = some o ∧ OR ρ H o a
section
variable {ρ ρ' : Rh} {H H' : Hp} {h : Hx}
theorem OR.some {o : Ob} {a : Addr} (q : OR ρ H o a) : ∃ u, H a = some u ∧ (∀ xs, u ≠ .tup xs) ∧ (∀ fs, u ≠ .xd fs) := by
  cases o with
  | lst xs => obtain ⟨ys, e, _⟩ := q; exact ⟨_, e, (by intro xs z; cases z), (by intro xs z; cases z)⟩
  | ro xs => obtain ⟨o, ys, e, _⟩ := q; exact ⟨_, e, (by intro xs z; cases z), (by intro xs z; cases z)⟩
  | dk xs => obtain ⟨ys, e, _⟩ := q; exact ⟨_, e, (by intro xs z; cases z), (by intro xs z; cases z)⟩
  | dt xs => obtain ⟨ys, e, _⟩ := q; exact ⟨_, e, (by intro xs z; cases z), (by intro xs z; cases z)⟩
  | dz => exact q.elim
  | st xs => exact q.elim
/-- an object that stands as it did -/
theorem OR.mono {o : Ob} {a : Addr} (e : Ex ρ H ρ' H') (s : H' a = H a) (q : OR ρ H o a) : OR ρ' H' o a := by
  cases o with
  | lst xs => obtain ⟨ys, e1, r⟩ := q; exact ⟨ys, s.trans e1, RVs.mono e _ _ r⟩
  | ro xs => obtain ⟨o, ys, e1, r⟩ := q; exact ⟨o, ys, s.trans e1, RVs.mono e _ _ r⟩
  | dk xs => obtain ⟨ys, e1, r⟩ := q; exact ⟨ys, s.trans e1, RK.mono e r⟩
  | dt xs => obtain ⟨ys, e1, r⟩ := q; exact ⟨ys, s.trans e1, RK.mono e r⟩
  | dz => exact q.elim
  | st xs => exact q.elim
theorem HR.lt (r : HR ρ h H) {i : Nat} {a : Addr} (e : ρ[i]? = some a) : i < h.n := by
  rw [r.len]
  rcases Nat.lt_or_ge i ρ.length with q | q
  · exact q
  · rw [List.getElem?_eq_none q] at e; cases e
theorem HR.ob (r : HR ρ h H) {i : Nat} {a : Addr} {o : Ob} (e : ρ[i]? = some a) (g : h.get i = some o) : OR ρ H o a := by
  obtain ⟨o', g', q⟩ := r.at_ i a e
  rw [g] at g'; cases g'; exact q
theorem HR.apart (r : HR ρ h H) {i : Nat} {a p : Addr} (e : ρ[i]? = some a) (hp : H p = none) : a ≠ p := fun z => by
  obtain ⟨o, _, q⟩ := r.at_ i a e
  obtain ⟨u, e2, _⟩ := q.some
  rw [z, hp] at e2; cases e2
/-- a new thing that mini doesn't count: a tuple, an exception's dict -/
theorem Ex.fresh {p : Addr} {u : HO} (hp : H p = none) : Ex ρ H ρ (upd H p u) :=
  ⟨⟨[], by simp⟩, fun a xs q => by rw [upd_ne (ne_of_none q hp)]; exact q, fun a xs q => by rw [upd_ne (ne_of_none q hp)]; exact q⟩
theorem HR.fresh (r : HR ρ h H) {p : Addr} {u : HO} (hp : H p = none) : HR ρ h (upd H p u) :=
  ⟨r.len, r.nd, fun i a e => by
    obtain ⟨o, g, q⟩ := r.at_ i a e
    exact ⟨o, g, q.mono (Ex.fresh hp) (upd_ne (r.apart e hp))⟩⟩
/-- a new object of mini's -/
theorem Ex.alloc {p : Addr} {u : HO} (hp : H p = none) : Ex ρ H (ρ ++ [p]) (upd H p u) :=
  ⟨⟨[p], rfl⟩, (Ex.fresh (ρ := ρ) hp).tup, (Ex.fresh (ρ := ρ) hp).xd⟩
theorem HR.alloc (r : HR ρ h H) {p : Addr} {u : HO} {o : Ob} (hp : H p = none) (q : OR (ρ ++ [p]) (upd H p u) o p) : HR (ρ ++ [p]) (h.new o) (upd H p u) := by
  refine ⟨?_, ?_, fun i a e => ?_⟩
  · show h.n + 1 = _
    rw [r.len]; simp
  · rw [List.nodup_append]
    refine ⟨r.nd, by simp, fun a ha b hb => ?_⟩
    simp at hb; subst hb
    obtain ⟨i, hi⟩ := List.getElem?_of_mem ha
    exact r.apart hi hp
  · rcases Nat.lt_or_ge i ρ.length with hi | hi
    · rw [List.getElem?_append_left hi] at e
      obtain ⟨o', g, q'⟩ := r.at_ i a e
      refine ⟨o', ?_, q'.mono (Ex.alloc hp) (upd_ne (r.apart e hp))⟩
      rw [Hx.get_new, if_neg (by rw [r.len]; omega)]; exact g
    · rw [List.getElem?_append_right hi] at e
      have hz : i = ρ.length := by
        rcases Nat.lt_or_ge ρ.length i with z | z
        · rw [List.getElem?_eq_none (by simp; omega)] at e; cases e
        · omega
      subst hz
      simp at e; subst e
      refine ⟨o, ?_, q⟩
      rw [Hx.get_new, if_pos r.len]
theorem getLast_at (ρ : Rh) (p : Addr) : (ρ ++ [p])[ρ.length]? = some p := by simp
/-- an object of mini's changes -/
theorem Ex.put {a : Addr} {u u' : HO} (e : H a = some u) (h1 : ∀ xs, u ≠ .tup xs) (h2 : ∀ fs, u ≠ .xd fs) : Ex ρ H ρ (upd H a u') :=
  ⟨⟨[], by simp⟩, fun b xs q => by rw [upd_ne (fun z => by rw [z, e] at q; cases q; exact h1 _ rfl)]; exact q, fun b xs q => by rw [upd_ne (fun z => by rw [z, e] at q; cases q; exact h2 _ rfl)]; exact q⟩
theorem HR.put (r : HR ρ h H) {i : Nat} {a : Addr} {u u' : HO} {o' : Ob} (e : ρ[i]? = some a) (eu : H a = some u) (h1 : ∀ xs, u ≠ .tup xs) (h2 : ∀ fs, u ≠ .xd fs) (q : OR ρ (upd H a u') o' a) : HR ρ (h.put i o') (upd H a u') := by
  refine ⟨r.len, r.nd, fun j b ej => ?_⟩
  by_cases hj : i = j
  · subst hj
    rw [e] at ej; cases ej
    exact ⟨o', by rw [Hx.get_put, if_pos rfl], q⟩
  · obtain ⟨o, g, qo⟩ := r.at_ j b ej
    refine ⟨o, by rw [Hx.get_put, if_neg hj]; exact g, qo.mono (Ex.put eu h1 h2) (upd_ne fun z => hj ?_)⟩
    subst z
    have hi := r.lt e
    have hj' := r.lt ej
    rw [r.len] at hi hj'
    have e1 : ρ[i] = b := by rw [List.getElem?_eq_getElem hi] at e; exact Option.some.inj e
    have e2 : ρ[j] = b := by rw [List.getElem?_eq_getElem hj'] at ej; exact Option.some.inj ej
    exact (List.getElem_inj (h₀ := hi) (h₁ := hj') r.nd).mp (e1.trans e2.symm)
end
/-! ### slots -/
def RO (ρ : Rh) (H : Hp) : Option Vl → Option V → Prop
  | some v, some x => RV ρ H v x
  | some _, none => False
  | none, _ => True
structure RS (ρ : Rh) (H : Hp) (s : List (Option Vl)) (σ : List (Option V)) : Prop where
  len : s.length = σ.length
  at_ : ∀ (i : Nat) (v : Vl), s[i]? = some (some v) → ∃ x, σ[i]? = some (some x) ∧ RV ρ H v x
theorem RS.mono {ρ ρ' : Rh} {H H' : Hp} {s : Env} {σ : St} (e : Ex ρ H ρ' H') (r : RS ρ H s σ) : RS ρ' H' s σ := ⟨r.len, fun i v h => by
  obtain ⟨x, h1, h2⟩ := r.at_ i v h
  exact ⟨x, h1, RV.mono e _ _ h2⟩⟩
theorem RS.put {ρ : Rh} {H : Hp} {s : Env} {σ : St} (r : RS ρ H s σ) {i : Nat} {v : Vl} {x : V} (a : RV ρ H v x) : RS ρ H (putE s i v) (σ.set i (some x)) := by
  unfold putE
  rw [lset_eq]
  refine ⟨by rw [List.length_set, List.length_set]; exact r.len, fun j w h => ?_⟩
  by_cases hj : i = j
  · subst hj
    by_cases hl : i < s.length
    · rw [List.getElem?_set_self hl] at h
      cases h
      exact ⟨x, by rw [List.getElem?_set_self (by rw [← r.len]; exact hl)], a⟩
    · rw [List.getElem?_eq_none (by rw [List.length_set]; omega)] at h; cases h
  · rw [List.getElem?_set_ne hj] at h
    rw [List.getElem?_set_ne hj]
    exact r.at_ j w h
theorem RS.del {ρ : Rh} {H : Hp} {s : Env} {σ : St} (r : RS ρ H s σ) (i : Nat) (o : Option V) : RS ρ H (lset s i none) (σ.set i o) := by
  rw [lset_eq]
  refine ⟨by rw [List.length_set, List.length_set]; exact r.len, fun j w h => ?_⟩
  by_cases hj : i = j
  · subst hj
    by_cases hl : i < s.length
    · rw [List.getElem?_set_self hl] at h; cases h
    · rw [List.getElem?_eq_none (by rw [List.length_set]; omega)] at h; cases h
  · rw [List.getElem?_set_ne hj] at h
    rw [List.getElem?_set_ne hj]
    exact r.at_ j w h
theorem RS.wipe {ρ : Rh} {H : Hp} {s : Env} {σ : St} (r : RS ρ H s σ) : ∀ vs : List Nat, RS ρ H (wipeE s vs) (L2.wipe σ vs)
  | [] => r
  | v :: vs => (RS.wipe r vs).del v none
/-! ### the program's tables: error classes by number (address, field); -/
structure Gp where
  P : Program
  w : World
  K : PySem.W.Frag
  mg : Str → Option Value
  base : Heap
  ctab : Nat → Option (Addr × Option Str)
inductive RX (G : Gp) (ρ : Rh) (H : Hp) (c : Nat) (p : Vl) : Value → Option Addr → Prop where
  | bare {C : Addr} (h : G.ctab c = some (C, none)) : RX G ρ H c p (.ref C) none
  | with {C d : Addr} {f : Str} {x : V} (h : G.ctab c = some (C, some f)) (hd : H d = some (.xd [(f, x)])) (r : RV ρ H p x) : RX G ρ H c p (.ref C) (some d)
theorem RX.mono {G : Gp} {ρ ρ' : Rh} {H H' : Hp} {c : Nat} {p : Vl} {cls : Value} {d : Option Addr} (e : Ex ρ H ρ' H') (r : RX G ρ H c p cls d) : RX G ρ' H' c p cls d := by
  cases r with
  | bare h => exact .bare h
  | «with» h hd r => exact .with h (e.xd _ _ hd) (RV.mono e _ _ r)
/-! ### what is asked of an answer -/
def Sp {α β : Type} (G : Gp) (W : WX) (σ : St) (rv : Rh → Hp → α → β → Prop) (ρ : Rh) (H : Hp) (r : R α) (Q : β → Hp → Prop) : Prop := match r with
  | .ok a h => ∀ ρ' H' x, Ex ρ H ρ' H' → HR ρ' h H' → rv ρ' H' a x → Q x H'
  | .ex c p h => ∀ ρ' H' cls d, Ex ρ H ρ' H' → HR ρ' h H' → RX G ρ' H' c p cls d → W cls d σ H'
  | .no => False
theorem Sp.mono {α β : Type} {G : Gp} {W : WX} {σ : St} {rv : Rh → Hp → α → β → Prop} {ρ ρ' : Rh} {H H' : Hp} {r : R α} {Q : β → Hp → Prop} (e : Ex ρ H ρ' H') (h : Sp G W σ rv ρ H r Q) : Sp G W σ rv ρ' H' r Q := by
  cases r with
  | ok a hx => exact fun ρ2 H2 x e2 => h ρ2 H2 x (e.trans e2)
  | ex c p hx => exact fun ρ2 H2 x d e2 => h ρ2 H2 x d (e.trans e2)
  | no => exact h
def RB (_ : Rh) (_ : Hp) (b c : Bool) : Prop := b = c
/-- the reading of a run -/
def tR {α β : Type} (G : Gp) (W : WX) (rv : Rh → Hp → α → β → Prop) (run : Env → Hx → R α) : St → Hp → (β → Hp → Prop) → Prop := fun σ H Q =>
  ∃ ρ h s, HR ρ h H ∧ RS ρ H s σ ∧ Sp G W σ rv ρ H (run s h) Q
abbrev tE (G : Gp) (W : WX) (run : Env → Hx → R Vl) : TE := tR G W RV run
abbrev tA (G : Gp) (W : WX) (run : Env → Hx → R (List Vl)) : TA := tR G W RVs run
abbrev tT (G : Gp) (W : WX) (run : Env → Hx → R Bool) : TT := tR G W RB run
/-- the first of two runs, what follows told by the whole -/
theorem tR_bind {α β γ δ : Type} {G : Gp} {W : WX} {rv : Rh → Hp → α → β → Prop} {rv2 : Rh → Hp → γ → δ → Prop} {run : Env → Hx → R α} {k : α → Hx → R γ} {σ : St} {ρ : Rh} {H : Hp} {h : Hx} {s : Env} {Q : δ → Hp → Prop} {C : β → Hp → Prop}
    (hr : HR ρ h H) (rs : RS ρ H s σ) (sp : Sp G W σ rv2 ρ H ((run s h).bind k) Q)
    (go : ∀ a ρ' H' x h', Ex ρ H ρ' H' → HR ρ' h' H' → RS ρ' H' s σ → rv ρ' H' a x → Sp G W σ rv2 ρ' H' (k a h') Q → C x H') : tR G W rv run σ H C := by
  refine ⟨ρ, h, s, hr, rs, ?_⟩
  cases e : run s h with
  | ok a h' =>
    rw [e] at sp
    exact fun ρ' H' x ex hr' r => go a ρ' H' x h' ex hr' (rs.mono ex) r (Sp.mono ex sp)
  | ex c p h' => rw [e] at sp; exact sp
  | no => rw [e] at sp; exact sp
/-- a statement's answer -/
def SpS (G : Gp) (W : WX) (ρ : Rh) (H : Hp) (r : Sg) (D : Ends) : Prop := match r with
  | .nx s h => ∀ ρ' H' σ', Ex ρ H ρ' H' → HR ρ' h H' → RS ρ' H' s σ' → D.nx σ' H'
  | .bk s h => ∀ ρ' H' σ', Ex ρ H ρ' H' → HR ρ' h H' → RS ρ' H' s σ' → D.bk σ' H'
  | .ct s h => ∀ ρ' H' σ', Ex ρ H ρ' H' → HR ρ' h H' → RS ρ' H' s σ' → D.ct σ' H'
  | .rt v h => ∀ ρ' H' x, Ex ρ H ρ' H' → HR ρ' h H' → RV ρ' H' v x → D.rt x H'
  | .ex c p s h => ∀ ρ' H' σ' cls d, Ex ρ H ρ' H' → HR ρ' h H' → RS ρ' H' s σ' → RX G ρ' H' c p cls d → W cls d σ' H'
  | .no => False
theorem SpS.mono {G : Gp} {W : WX} {ρ ρ' : Rh} {H H' : Hp} {r : Sg} {D : Ends} (e : Ex ρ H ρ' H') (h : SpS G W ρ H r D) : SpS G W ρ' H' r D := by
  cases r with
  | nx s hx => exact fun ρ2 H2 x e2 => h ρ2 H2 x (e.trans e2)
  | bk s hx => exact fun ρ2 H2 x e2 => h ρ2 H2 x (e.trans e2)
  | ct s hx => exact fun ρ2 H2 x e2 => h ρ2 H2 x (e.trans e2)
  | rt s hx => exact fun ρ2 H2 x e2 => h ρ2 H2 x (e.trans e2)
  | ex c p s hx => exact fun ρ2 H2 x c d e2 => h ρ2 H2 x c d (e.trans e2)
  | no => exact h
def tS (G : Gp) (W : WX) (run : Env → Hx → Sg) : TS := fun D σ H => ∃ ρ h s, HR ρ h H ∧ RS ρ H s σ ∧ SpS G W ρ H (run s h) D
/-- an expression ahead of what follows in a statement -/
theorem tR_sg {α β : Type} {G : Gp} {W : WX} {rv : Rh → Hp → α → β → Prop} {run : Env → Hx → R α} {k : α → Hx → Sg} {σ : St} {ρ : Rh} {H : Hp} {h : Hx} {s : Env} {D : Ends} {C : β → Hp → Prop}
    (hr : HR ρ h H) (rs : RS ρ H s σ) (sp : SpS G W ρ H ((run s h).sg s k) D)
    (go : ∀ a ρ' H' x h', Ex ρ H ρ' H' → HR ρ' h' H' → RS ρ' H' s σ → rv ρ' H' a x → SpS G W ρ' H' (k a h') D → C x H') : tR G W rv run σ H C := by
  refine ⟨ρ, h, s, hr, rs, ?_⟩
  cases e : run s h with
  | ok a h' =>
    rw [e] at sp
    exact fun ρ' H' x ex hr' r => go a ρ' H' x h' ex hr' (rs.mono ex) r (sp.mono ex)
  | ex c p h' =>
    rw [e] at sp
    exact fun ρ' H' cls d ex hr' r => sp ρ' H' σ cls d ex hr' (rs.mono ex) r
  | no => rw [e] at sp; exact sp
end Mini
set_option Elab.async false
set_option linter.all false
/-! M3: mini's evaluator. -/
namespace Mini
open PySem
/-! ### what operators do -/
def nl (h : Hx) (xs : List Vl) : R Vl := cond (okLen xs) (.ok (.ref h.n) (h.new (.lst xs))) .no
def nt (h : Hx) (xs : List Vl) : R Vl := cond (okLen xs) (.ok (.tup xs) h) .no
def rb (o : Option Bool) (h : Hx) : R Vl := match o with
  | some b => .ok (.bl b) h
  | none => .no
def i2 (v w : Vl) (h : Hx) (f : Int → Int → R Vl) : R Vl := match v, w with
  | .int i, .int j => f i j
  | _, _ => .no
def small (i : Int) : Bool := Nat.blt i.natAbs 18446744073709551616
def reps {α : Type} : Nat → List α → List α
  | 0, _ => []
  | n + 1, xs => xs ++ reps n xs
def vkey : Vl → Option Kx
  | .int i => some (.inl i)
  | .str x => some (.inr x)
  | _ => none
def vkeys : List Vl → Option (List Kx)
  | [] => some []
  | v :: r => match vkey v with
    | none => none
    | some k => (vkeys r).map fun ks => k :: ks
def keq : Kx → Kx → Bool
  | .inl i, .inl j => ieq i j
  | .inr x, .inr y => decide (x = y)
  | _, _ => false
def kseq : List Kx → List Kx → Bool
  | [], [] => true
  | a :: r, b :: s => cond (keq a b) (kseq r s) false
  | _, _ => false
def look {κ : Type} (eq : κ → κ → Bool) (k : κ) : List (κ × Vl) → Option Vl
  | [] => none
  | p :: r => cond (eq p.1 k) (some p.2) (look eq k r)
def hasK {κ : Type} (eq : κ → κ → Bool) (k : κ) : List (κ × Vl) → Bool
  | [] => false
  | p :: r => cond (eq p.1 k) true (hasK eq k r)
def mapK {κ : Type} (eq : κ → κ → Bool) (k : κ) (v : Vl) : List (κ × Vl) → List (κ × Vl)
  | [] => []
  | p :: r => cond (eq p.1 k) (p.1, v) p :: mapK eq k v r
def store {κ : Type} (eq : κ → κ → Bool) (k : κ) (v : Vl) (l : List (κ × Vl)) : List (κ × Vl) := cond (hasK eq k l) (mapK eq k v l) (l ++ [(k, v)])
/-- equal data -/
def veq (v w : Vl) : Option Bool := match v, w with
  | .int i, .int j => some (ieq i j)
  | .non, .int _ => some false
  | .int _, .non => some false
  | .non, .non => some true
  | .bl a, .bl b => some (match a, b with | true, true => true | false, false => true | _, _ => false)
  | _, _ => deq v w
/-- among data: flat ones one by one -/
def flat : Vl → Bool
  | .int _ => true
  | .non => true
  | _ => false
def fleq : Vl → Vl → Bool
  | .int i, .int j => ieq i j
  | .non, .non => true
  | _, _ => false
def inFlat (v : Vl) : List Vl → Option Bool
  | [] => some false
  | x :: r => cond (flat x) (match inFlat v r with | none => none | some b => some (cond (fleq x v) true b)) none
def inDeep (v : Vl) (xs : List Vl) : Option Bool := match v.py, pys xs with
  | some d, some ds => cond (SeqAt.shaped d && SeqAt.shaped (.list ds)) (some (ds.any fun z => PyData.eqv z d)) none
  | _, _ => none
def inSeq (v : Vl) (xs : List Vl) : Option Bool := match flat v, inFlat v xs with
  | true, some b => some b
  | _, _ => inDeep v xs
def inE (v w : Vl) (h : Hx) : Option Bool := match w with
  | .tup xs => inSeq v xs
  | .ref n => match h.get n with
    | some (.lst xs) => inSeq v xs
    | some (.dk kvs) => match vkey v with
      | some k => some (look keq k kvs).isSome
      | none => none
    | some (.dt kvs) => match v with
      | .tup ks => match vkeys ks with
        | some k => some (look kseq k kvs).isSome
        | none => none
      | _ => none
    | _ => none
  | _ => none
def nth (xs : List Vl) (i : Int) (h : Hx) : R Vl := match ixn (llen xs) i with
  | some k => match lget xs k with
    | some v => .ok v h
    | none => .no
  | none => .no
def ov (o : Option Vl) (h : Hx) : R Vl := match o with
  | some v => .ok v h
  | none => .no
def itemE (v w : Vl) (h : Hx) : R Vl := match v with
  | .tup xs => match w with
    | .int i => nth xs i h
    | _ => .no
  | .ref n => match h.get n with
    | some (.lst xs) => match w with
      | .int i => nth xs i h
      | _ => .no
    | some (.ro xs) => match w with
      | .int i => nth xs i h
      | _ => .no
    | some (.dk kvs) => match vkey w with
      | some k => ov (look keq k kvs) h
      | none => .no
    | some (.dt kvs) => match w with
      | .tup ks => match vkeys ks with
        | some k => ov (look kseq k kvs) h
        | none => .no
      | _ => .no
    | _ => .no
  | _ => .no
def addE (v w : Vl) (h : Hx) : R Vl := match v, w with
  | .int i, .int j => .ok (.int (i + j)) h
  | .tup xs, .tup ys => nt h (xs ++ ys)
  | .ref a, .ref b => match h.get a, h.get b with
    | some (.lst xs), some (.lst ys) => nl h (xs ++ ys)
    | _, _ => .no
  | _, _ => .no
def mulE (v w : Vl) (h : Hx) : R Vl := match v, w with
  | .int i, .int j => cond (small i || small j) (.ok (.int (i * j)) h) .no
  | .ref a, .int k => match h.get a, k with
    | some (.lst xs), .ofNat n => cond (Nat.ble n 1000) (nl h (reps n xs)) .no
    | _, _ => .no
  | .tup (x :: xs), .int (.ofNat n) => cond (Nat.ble 2 n && Nat.ble n 1000 && Nat.ble (llen (x :: xs)) 1000) (.ok (.tup (reps n (x :: xs))) h) .no
  | _, _ => .no
def opE (o : Op) (v w : Vl) (h : Hx) : R Vl := match o with
  | .add => addE v w h
  | .sub => i2 v w h fun i j => .ok (.int (i - j)) h
  | .mul => mulE v w h
  | .fdiv => i2 v w h fun i j => cond (ilt 0 j && ilt j 1073741824) (.ok (.int (i / j)) h) .no
  | .mod => i2 v w h fun i j => cond (ilt 0 j) (.ok (.int (i % j)) h) .no
  | .pow => i2 v w h fun i j => cond (ile 0 j && ile j 1000 && small i) (.ok (.int (i ^ j.toNat)) h) .no
  | .shl => i2 v w h fun i j => cond (ile 0 j && ile j 1000 && small i) (.ok (.int (i * 2 ^ j.toNat)) h) .no
  | .shr => i2 v w h fun i j => cond (ile 0 j) (.ok (.int (i / 2 ^ j.toNat)) h) .no
  | .band => i2 v w h fun i j => .ok (.int (Builtin.bitAnd i j)) h
  | .bor => i2 v w h fun i j => .ok (.int (Builtin.bitOr i j)) h
  | .bxor => i2 v w h fun i j => .ok (.int (Builtin.bitXor i j)) h
  | .eq => rb (veq v w) h
  | .ne => rb ((veq v w).map not) h
  | .lt => i2 v w h fun i j => .ok (.bl (ilt i j)) h
  | .le => i2 v w h fun i j => .ok (.bl (ile i j)) h
  | .gt => i2 v w h fun i j => .ok (.bl (ilt j i)) h
  | .ge => i2 v w h fun i j => .ok (.bl (ile j i)) h
  | .inn => rb (inE v w h) h
  | .nin => rb ((inE v w h).map not) h
  | .isN => match w with
    | .non => (match v with | .non => .ok (.bl true) h | .opq => .no | _ => .ok (.bl false) h)
    | _ => .no
  | .notN => match w with
    | .non => (match v with | .non => .ok (.bl false) h | .opq => .no | _ => .ok (.bl true) h)
    | _ => .no
  | .item => itemE v w h
def truE (v : Vl) (h : Hx) : Option Bool := match v with
  | .non => some false
  | .bl b => some b
  | .int i => some (!ieq i 0)
  | .tup [] => some false
  | .tup (_ :: _) => some true
  | .ref n => match h.get n with
    | some (.lst []) => some false
    | some (.lst (_ :: _)) => some true
    | some (.dk []) => some false
    | some (.dk (_ :: _)) => some true
    | _ => none
  | _ => none
def seqOf (v : Vl) (h : Hx) : Option (List Vl) := match v with
  | .tup xs => some xs
  | .ref n => match h.get n with
    | some (.lst xs) => some xs
    | some (.ro xs) => some xs
    | _ => none
  | _ => none
def intsV : List Vl → Option (List Int)
  | [] => some []
  | .int i :: r => (intsV r).map fun l => i :: l
  | _ => none
def bools : List Vl → Option (List Bool)
  | [] => some []
  | .bl b :: r => (bools r).map fun l => b :: l
  | _ => none
def insI (i : Int) : List Int → List Int
  | [] => [i]
  | j :: r => cond (ile i j) (i :: j :: r) (j :: insI i r)
def sortI : List Int → List Int
  | [] => []
  | i :: r => insI i (sortI r)
def allB : List Bool → Bool
  | [] => true
  | b :: r => cond b (allB r) false
def anyB : List Bool → Bool
  | [] => false
  | b :: r => cond b true (anyB r)
def tyList : List Vl → Option (List Bt)
  | [] => some []
  | .ty n :: r => (tyList r).map fun ns => n :: ns
  | _ => none
def typeOfV (v : Vl) (h : Hx) : Option Bt := match v with
  | .non => some .non
  | .bl _ => some .bool
  | .int _ => some .int
  | .str _ => some .str
  | .tup _ => some .tuple
  | .ref n => match h.get n with
    | some (.lst _) => some .list
    | some (.ro _) => some .list
    | some (.dk _) => some .dict
    | some (.dt _) => some .dict
    | _ => none
  | .ty _ => none
  | .opq => none
def isAny (t : Bt) : List Bt → Bool
  | [] => false
  | n :: r => cond (t.isa n) true (isAny t r)
def maxI (m : Int) : List Int → Int
  | [] => m
  | i :: r => maxI (cond (ilt m i) i m) r
def minI (m : Int) : List Int → Int
  | [] => m
  | i :: r => minI (cond (ilt i m) i m) r
/-- ascending, each once -/
def insU (i : Int) : List Int → List Int
  | [] => [i]
  | j :: r => cond (ilt i j) (i :: j :: r) (cond (ieq i j) (j :: r) (j :: insU i r))
def sortU : List Int → List Int
  | [] => []
  | i :: r => insU i (sortU r)
/-- pairs of ints -/
def pairsV : List Vl → Option (List (Int × Int))
  | [] => some []
  | .tup [.int i, .int j] :: r => (pairsV r).map fun l => (i, j) :: l
  | _ => none
def pltI (p q : Int × Int) : Bool := cond (ieq p.1 q.1) (ilt p.2 q.2) (ilt p.1 q.1)
def insP (p : Int × Int) : List (Int × Int) → List (Int × Int)
  | [] => [p]
  | q :: r => cond (pltI q p) (q :: insP p r) (p :: q :: r)
def sortP : List (Int × Int) → List (Int × Int)
  | [] => []
  | p :: r => insP p (sortP r)
def ofP (p : Int × Int) : Vl := .tup [.int p.1, .int p.2]
/-! ### what a walk gives at a turn -/
inductive Wk where
  | lst (n : Nat) | tup (xs : List Vl) | rng (lo : Int) (n : Nat) | enumL (n : Nat) | enumT (xs : List Vl) | zipL (n m : Nat) | zipT (xs ys : List Vl)
def lstAt (h : Hx) (n : Nat) : Option (List Vl) := match h.get n with
  | some (.lst xs) => some xs
  | some (.ro xs) => some xs
  | _ => none
def two (a b : Option Vl) : Option (Option Vl) := match a, b with
  | some x, some y => some (some (.tup [x, y]))
  | _, _ => some none
def Wk.at : Wk → Nat → Hx → Option (Option Vl)
  | .lst n, i, h => match lstAt h n with
    | some xs => some (lget xs i)
    | none => none
  | .tup xs, i, _ => some (lget xs i)
  | .rng lo n, i, _ => cond (Nat.blt i n) (some (some (.int (lo + (i : Nat))))) (some none)
  | .enumL n, i, h => match lstAt h n with
    | some xs => two (some (.int (i : Nat))) (lget xs i)
    | none => none
  | .enumT xs, i, _ => two (some (.int (i : Nat))) (lget xs i)
  | .zipL n m, i, h => match lstAt h n, lstAt h m with
    | some xs, some ys => two (lget xs i) (lget ys i)
    | _, _ => none
  | .zipT xs ys, i, _ => two (lget xs i) (lget ys i)
mutual
def asg : G → Vl → Env → Option Env
  | .name i, v, s => some (putE s i v)
  | .tup gs, v, s => match v with
    | .tup xs => asgs gs xs s
    | _ => none
def asgs : List G → List Vl → Env → Option Env
  | [], [], s => some s
  | g :: gs, v :: vs, s => match asg g v s with
    | some s' => asgs gs vs s'
    | none => none
  | _, _, _ => none
end
/-! ### one step over a slower self -/
structure Ev where
  e : M → Env → Hx → R Vl
  es : List M → Env → Hx → R (List Vl)
  t : T → Env → Hx → R Bool
  ts : List T → Env → Hx → R Bool
  w : W → Env → Hx → R Wk
  s : S → Env → Hx → Sg
  ss : List S → Env → Hx → Sg
  lp : Wk → Nat → G → List S → Env → Hx → Sg
  wh : T → List S → Env → Hx → Sg
  lc : Wk → Nat → G → List T → M → Nat → Env → Hx → R Unit
  dc : Wk → Nat → G → List T → M → M → Nat → Env → Hx → R Unit
abbrev Fn := Nat → List Vl → Hx → R Vl
def ev0 : Ev := ⟨fun _ _ _ => .no, fun _ _ _ => .no, fun _ _ _ => .no, fun _ _ _ => .no, fun _ _ _ => .no, fun _ _ _ => .no, fun _ _ _ => .no, fun _ _ _ _ _ _ => .no, fun _ _ _ _ => .no, fun _ _ _ _ _ _ _ _ => .no, fun _ _ _ _ _ _ _ _ _ => .no⟩
/-- an answer that may be no error -/
def R.sure {α : Type} (r : R α) : R α := match r with
  | .ok a h => .ok a h
  | _ => .no
def reorder (vs : List Vl) : List Nat → Option (List Vl)
  | [] => some []
  | i :: r => match lget vs i with
    | none => none
    | some v => (reorder vs r).map fun l => v :: l
def bfE (f : Bf) (vs : List Vl) (h : Hx) : R Vl := match f, vs with
  | .len, [v] => match v with
    | .tup xs => .ok (.int (llen xs)) h
    | .str _ => .no
    | .ref n => match h.get n with
      | some (.lst xs) => .ok (.int (llen xs)) h
      | some (.ro xs) => .ok (.int (llen xs)) h
      | some (.dk kvs) => .ok (.int (llen kvs)) h
      | _ => .no
    | _ => .no
  | .tuple, [v] => match v with
    | .tup xs => .ok (.tup xs) h
    | .ref n => match h.get n with
      | some (.lst xs) => .ok (.tup xs) h
      | _ => .no
    | _ => .no
  | .list, [v] => match seqOf v h with
    | some xs => nl h xs
    | none => .no
  | .int, [v] => match v with
    | .int i => .ok (.int i) h
    | _ => .no
  | .min, [.int i, .int j] => .ok (.int (cond (ilt j i) j i)) h
  | .max, [.int i, .int j] => .ok (.int (cond (ilt i j) j i)) h
  | .max, [v] => match seqOf v h with
    | some xs => match intsV xs with
      | some (i :: r) => .ok (.int (maxI i r)) h
      | _ => .no
    | none => .no
  | .min, [v] => match seqOf v h with
    | some xs => match intsV xs with
      | some (i :: r) => .ok (.int (minI i r)) h
      | _ => .no
    | none => .no
  | .all, [.ref n] => match h.get n with
    | some (.lst xs) => match bools xs with
      | some bs => .ok (.bl (allB bs)) h
      | none => .no
    | _ => .no
  | .any, [.ref n] => match h.get n with
    | some (.lst xs) => match bools xs with
      | some bs => .ok (.bl (anyB bs)) h
      | none => .no
    | _ => .no
  | .isinst, [v, c] => match typeOfV v h with
    | some t => match c with
      | .ty n => .ok (.bl (t.isa n)) h
      | .tup l => match tyList l with
        | some ns => .ok (.bl (isAny t ns)) h
        | none => .no
      | _ => .no
    | none => .no
  | .sorted, [v] => match seqOf v h with
    | some xs => match intsV xs with
      | some is => nl h ((sortI is).map Vl.int)
      | none => match v, pairsV xs with
        | .ref _, some ps => nl h ((sortP ps).map ofP)
        | _, _ => .no
    | none => .no
  | .lenset, [v] => match seqOf v h with
    | some xs => match intsV xs with
      | some is => cond (Nat.blt (llen is) 4000) (.ok (.int (llen (sortU is))) h) .no
      | none => .no
    | none => .no
  | .sortset, [v] => match seqOf v h with
    | some xs => match intsV xs with
      | some is => cond (Nat.blt (llen is) 64) (nl h ((sortU is).map Vl.int)) .no
      | none => .no
    | none => .no
  | .abs, [.int i] => .ok (.int (cond (ilt i 0) (-i) i)) h
  | _, _ => .no
def mfE (f : Mf) (v : Vl) (vs : List Vl) (h : Hx) : R Vl := match f, v, vs with
  | .append, .ref n, [x] => match h.get n with
    | some (.lst xs) => cond (okLen xs) (.ok .non (h.put n (.lst (xs ++ [x])))) .no
    | _ => .no
  | .extend, .ref n, [.ref m] => match h.get n, h.get m with
    | some (.lst xs), some (.lst ys) => cond (okLen xs && okLen ys) (.ok .non (h.put n (.lst (xs ++ ys)))) .no
    | _, _ => .no
  | .pop, .ref n, [] => match h.get n with
    | some (.lst xs) => match lget xs (llen xs - 1) with
      | some x => .ok x (h.put n (.lst xs.dropLast))
      | none => .no
    | _ => .no
  | _, _, _ => .no
/-- a class that an except clause names takes an error -/
def exm (c d : Nat) : Bool := Nat.beq c d
def optI (r : Ev) (o : Option M) (s : Env) (h : Hx) : R (Option Int) := match o with
  | none => .ok none h
  | some m => (r.e m s h).bind fun v h => match v with
    | .int i => .ok (some i) h
    | _ => .no
def step (call : Fn) (r : Ev) : Ev where
  e := fun m s h => match m with
    | .var i => match lget s i with
      | some (some v) => .ok v h
      | _ => .no
    | .cst v => .ok v h
    | .op o a b => (r.e a s h).bind fun v h => (r.e b s h).bind fun w h => opE o v w h
    | .chain o1 o2 a b c => (r.e a s h).bind fun v h => (r.e b s h).bind fun w h => (opE o1 v w h).bind fun x h => match x with
      | .bl true => (r.e c s h).bind fun z h => opE o2 w z h
      | .bl false => .ok (.bl false) h
      | _ => .no
    | .neg a => (r.e a s h).bind fun v h => match v with
      | .int i => .ok (.int (-i)) h
      | _ => .no
    | .inv a => (r.e a s h).bind fun v h => match v with
      | .int i => .ok (.int (Builtin.bitNot i)) h
      | _ => .no
    | .not a => (r.e a s h).bind fun v h => match truE v h with
      | some b => .ok (.bl (not b)) h
      | none => .no
    | .and a b => (r.e a s h).bind fun v h => match v with
      | .bl true => r.e b s h
      | .bl false => .ok (.bl false) h
      | _ => .no
    | .or a b => (r.e a s h).bind fun v h => match v with
      | .bl true => .ok (.bl true) h
      | .bl false => r.e b s h
      | _ => .no
    | .ite t a b => (r.t t s h).bind fun c h => match c with
      | true => r.e a s h
      | false => r.e b s h
    | .tup es => (r.es es s h).bind fun vs h => nt h vs
    | .lst es => (r.es es s h).bind fun vs h => nl h vs
    | .slice a lo hi => (r.e a s h).bind fun v h => (optI r lo s h).bind fun l h => (optI r hi s h).bind fun u h => match v with
      | .tup xs => .ok (.tup (cut xs l u)) h
      | .ref n => match h.get n with
        | some (.lst xs) => nl h (cut xs l u)
        | some (.ro xs) => nl h (cut xs l u)
        | _ => .no
      | _ => .no
    | .rev a => (r.e a s h).bind fun v h => match v with
      | .tup xs => .ok (.tup xs.reverse) h
      | _ => .no
    | .call f es => (r.es es s h).bind fun vs h => match es with
      | [] => (call f vs h).sure
      | _ :: _ => call f vs h
    | .callk f ks perm => (r.es ks s h).bind fun ws h => cond (Nat.beq (llen ws) (llen perm)) (match reorder ws perm with
      | some us => (call f us h).sure
      | none => .no) .no
    | .us f a => (r.e a s h).bind fun v h => bfE f [v] h
    | .bf f es => (r.es es s h).bind fun vs h => bfE f vs h
    | .mf f o es => (r.e o s h).bind fun v h => match v with
      | .ref n => match lstAt h n with
        | some _ => (r.es es s h).bind fun vs h => mfE f v vs h
        | none => .no
      | _ => .no
    | .lc w g ts e own => ((r.w w s h).bind fun k h => (r.lc k 0 g ts e h.n (wipeE s own) (h.new (.lst []))).sure.bind fun _ h' => .ok (.ref h.n) h')
    | .dc w g ts k e own => ((r.w w s h).bind fun j h => (r.dc j 0 g ts k e h.n (wipeE s own) (h.new (.dk []))).sure.bind fun _ h' => .ok (.ref h.n) h')
    | .one a => r.e a s h
    | .dnk => .ok (.ref h.n) (h.new (.dk []))
    | .dnt => .ok (.ref h.n) (h.new (.dt []))
  es := fun l s h => match l with
    | [] => .ok [] h
    | m :: ms => (r.e m s h).bind fun v h => (r.es ms s h).bind fun vs h => .ok (v :: vs) h
  t := fun t s h => match t with
    | .one t => r.t t s h
    | .val a => (r.e a s h).bind fun v h => match truE v h with
      | some b => .ok b h
      | none => .no
    | .not t => (r.t t s h).bind fun b h => .ok (not b) h
    | .and a b => (r.t a s h).bind fun c h => match c with
      | true => r.t b s h
      | false => .ok false h
    | .or a b => (r.t a s h).bind fun c h => match c with
      | true => .ok true h
      | false => r.t b s h
    | .cmp o a b => (r.e a s h).bind fun v h => (r.e b s h).bind fun w h => (opE o v w h).bind fun x h => match x with
      | .bl c => .ok c h
      | _ => .no
    | .chain o1 o2 a b c => (r.e a s h).bind fun v h => (r.e b s h).bind fun w h => (opE o1 v w h).bind fun x h => match x with
      | .bl true => (r.e c s h).bind fun z h => (opE o2 w z h).bind fun x h => match x with
        | .bl c => .ok c h
        | _ => .no
      | .bl false => .ok false h
      | _ => .no
  ts := fun l s h => match l with
    | [] => .ok true h
    | [t] => r.t t s h
    | _ => .no
  w := fun w s h => match w with
    | .seq a => (r.e a s h).bind fun v h => match v with
      | .tup xs => .ok (.tup xs) h
      | .ref n => match lstAt h n with
        | some _ => .ok (.lst n) h
        | none => .no
      | _ => .no
    | .rng1 a => (r.es [a] s h).bind fun vs h => match vs with
      | [.int j] => cond (Nat.blt j.natAbs 1000000) (.ok (.rng 0 j.toNat) h) .no
      | _ => .no
    | .rng2 a b => (r.es [a, b] s h).bind fun vs h => match vs with
      | [.int i, .int j] => cond (Nat.blt i.natAbs 1000000 && Nat.blt j.natAbs 1000000) (.ok (.rng i (j - i).toNat) h) .no
      | _ => .no
    | .enum a => (r.es [a] s h).bind fun vs h => match vs with
      | [.tup xs] => .ok (.enumT xs) h
      | [.ref n] => match lstAt h n with
        | some _ => .ok (.enumL n) h
        | none => .no
      | _ => .no
    | .zip a b => (r.es [a, b] s h).bind fun vs h => match vs with
      | [.tup xs, .tup ys] => .ok (.zipT xs ys) h
      | [.ref n, .ref m] => match lstAt h n, lstAt h m with
        | some _, some _ => .ok (.zipL n m) h
        | _, _ => .no
      | _ => .no
  s := fun c s h => match c with
    | .asg g e => (r.e e s h).sg s fun v h => match asg g v s with
      | some s' => .nx s' h
      | none => .no
    | .sub o i e => (r.e e s h).sg s fun v h => (r.e o s h).sg s fun d h => (r.e i s h).sg s fun k h => match d with
      | .ref n => match h.get n with
        | some (.lst xs) => match k with
          | .int j => match ixn (llen xs) j with
            | some q => .nx s (h.put n (.lst (lset xs q v)))
            | none => .no
          | _ => .no
        | some (.dk kvs) => match vkey k with
          | some q => cond (okLen kvs) (.nx s (h.put n (.dk (store keq q v kvs)))) .no
          | none => .no
        | some (.dt kvs) => match k with
          | .tup ks => match vkeys ks with
            | some q => cond (okLen kvs) (.nx s (h.put n (.dt (store kseq q v kvs)))) .no
            | none => .no
          | _ => .no
        | _ => .no
      | _ => .no
    | .par is es => (r.es es s h).sg s fun vs h => match asgs (is.map G.name) vs s with
      | some s' => .nx s' h
      | none => .no
    | .aug i o e => match lget s i with
      | some (some v) => (r.e e s h).sg s fun w h => (match v, w with | .int _, .int _ => opE o v w h | _, _ => .no).sg s fun x h => .nx (putE s i x) h
      | _ => .no
    | .expr e => (r.e e s h).sg s fun _ h => .nx s h
    | .ret e => (r.e e s h).sg s fun v h => .rt v h
    | .retN => .rt .non h
    | .iff t a b => (r.t t s h).sg s fun c h => match c with
      | true => r.ss a s h
      | false => r.ss b s h
    | .loop w g b => (r.w w s h).sg s fun k h => r.lp k 0 g b s h
    | .while t b => r.wh t b s h
    | .raise c e => (r.es [e] s h).sg s fun vs h => match vs with
      | [v] => .ex c v s h
      | _ => .no
    | .pass => .nx s h
    | .skip => .nx s h
    | .brk => .bk s h
    | .cont => .ct s h
    | .tryN b => match r.ss b s h with
      | .ex _ _ _ _ => .no
      | q => q
    | .tryA b c i j => match r.ss b s h with
      | .ex c' p s' h' => cond (Nat.beq c' c && Nat.blt i (llen s')) (.nx (lset (putE (lset s' i none) j p) i none) h') .no
      | q => q
  ss := fun l s h => match l with
    | [] => .nx s h
    | c :: r' => (r.s c s h).seq fun s h => r.ss r' s h
  lp := fun k i g b s h => match k.at i h with
    | none => .no
    | some none => .nx s h
    | some (some v) => match asg g v s with
      | none => .no
      | some s1 => match r.ss b s1 h with
        | .nx s2 h2 => r.lp k (i + 1) g b s2 h2
        | .ct s2 h2 => r.lp k (i + 1) g b s2 h2
        | .bk s2 h2 => .nx s2 h2
        | q => q
  wh := fun t b s h => (r.t t s h).sg s fun c h => match c with
    | false => .nx s h
    | true => match r.ss b s h with
      | .nx s2 h2 => r.wh t b s2 h2
      | .ct s2 h2 => r.wh t b s2 h2
      | .bk s2 h2 => .nx s2 h2
      | q => q
  lc := fun k i g ts e d s h => match k.at i h with
    | none => .no
    | some none => .ok () h
    | some (some v) => match asg g v s with
      | none => .no
      | some s1 => (r.ts ts s1 h).bind fun b h => match b with
        | false => r.lc k (i + 1) g ts e d s h
        | true => (r.e e s1 h).bind fun v h => match h.get d with
          | some (.lst acc) => cond (okLen acc) (r.lc k (i + 1) g ts e d s (h.put d (.lst (acc ++ [v])))) .no
          | _ => .no
  dc := fun j i g ts k e d s h => match j.at i h with
    | none => .no
    | some none => .ok () h
    | some (some v) => match asg g v s with
      | none => .no
      | some s1 => (r.ts ts s1 h).bind fun b h => match b with
        | false => r.dc j (i + 1) g ts k e d s h
        | true => (r.e k s1 h).bind fun y h => (r.e e s1 h).bind fun v h => match vkey y with
          | some q => match h.get d with
            | some (.dk kvs) => cond (okLen kvs) (r.dc j (i + 1) g ts k e d s (h.put d (.dk (store keq q v kvs)))) .no
            | _ => .no
          | none => .no
def evs (call : Fn) (n : Nat) : Ev := Nat.rec ev0 (fun _ r => step call r) n
theorem evs_zero (call : Fn) : evs call 0 = ev0 := rfl
theorem evs_succ (call : Fn) (n : Nat) : evs call (n + 1) = step call (evs call n) := rfl
/-- a def: how many parameters, how many slots, its body -/
structure Fd where
  np : Nat
  ns : Nat
  fl : Nat
  body : List S
def startE (ns : Nat) (vs : List Vl) : Env := vs.map some ++ List.replicate (ns - llen vs) none
def callD (tab : Nat → Option Fd) : Nat → Fn
  | 0 => fun _ _ _ => .no
  | d + 1 => fun f vs h => match tab f with
    | none => .no
    | some F => cond (Nat.beq (llen vs) F.np) (match (evs (callD tab d) F.fl).ss F.body (startE F.ns vs) h with
      | .nx _ h => .ok .non h
      | .rt v h => .ok v h
      | .ex c p _ h => .ex c p h
      | _ => .no) .no
end Mini
set_option Elab.async false
set_option linter.all false
/-! M4: what mini's operators do is what the rules of the layer ask. -/
namespace Mini
open PySem L2
section
variable {K : PySem.W.Frag} {ρ : Rh} {H : Hp}
mutual
theorem dp_of : ∀ (v : Vl) (x : V) (d : PyData), RV ρ H v x → v.py = some d → Dp K H x d
  | .non, x, d, r, e => by
    rw [r.non_inv]; unfold Vl.py at e; cases e; exact .non
  | .bl b, x, d, r, e => by
    rw [r.bl_inv]; unfold Vl.py at e; cases e; exact .bl b
  | .int i, x, d, r, e => by
    rw [r.int_inv]; unfold Vl.py at e; cases e; exact .int i
  | .str s, x, d, r, e => by
    rw [r.str_inv]; unfold Vl.py at e; cases e; exact .str s
  | .tup xs, x, d, r, e => by
    obtain ⟨a, ys, rfl, ha, rs⟩ := r.tup_inv
    unfold Vl.py at e
    cases q : pys xs with
    | none => rw [q] at e; cases e
    | some ds =>
      rw [q] at e; cases e
      exact .tup (SqT.of ha) (dps_of xs ys ds rs q)
  | .ref n, x, d, r, e => by unfold Vl.py at e; cases e
  | .ty n, x, d, r, e => by unfold Vl.py at e; cases e
theorem dps_of : ∀ (vs : List Vl) (xs : List V) (ds : List PyData), RVs ρ H vs xs → pys vs = some ds → DpAll K H xs ds
  | [], xs, ds, r, e => by
    rw [r.nil_inv]; unfold pys at e; cases e; exact .nil
  | v :: vs, xs, ds, r, e => by
    obtain ⟨y, t, rfl, h1, h2⟩ := r.cons_inv
    unfold pys at e
    cases q : v.py with
    | none => rw [q] at e; cases e
    | some d =>
      rw [q] at e
      cases q2 : pys vs with
      | none => rw [q2] at e; cases e
      | some es =>
        rw [q2] at e; cases e
        exact .cons (dp_of v y d h1 q) (dps_of vs t es h2 q2)
end
end
theorem sz_of {n : Nat} (h : n ≤ 200000) : n ≤ sizeLine := Nat.le_trans h (by decide)
theorem cond_tt {α : Type} {a b : α} : cond true a b = a := rfl
theorem cond_ff {α : Type} {a b : α} : cond false a b = b := rfl
section
variable {G : Gp} {W : WX} {σ : St} {ρ : Rh} {H : Hp} {h : Hx} {Q : V → Hp → Prop}
theorem sp_ok {v : Vl} {x : V} (hr : HR ρ h H) (r : RV ρ H v x) (sp : Sp G W σ RV ρ H (.ok v h) Q) : Q x H := sp ρ H x (Ex.refl _ _) hr r
theorem nl_s {xs : List Vl} {ys : List V} (hr : HR ρ h H) (r : RVs ρ H xs ys) (sp : Sp G W σ RV ρ H (nl h xs) Q) : ys.length ≤ sizeLine ∧ ∀ p, H p = none → Q (.ref p) (upd H p (.lst ys)) := by
  unfold nl at sp
  cases e : okLen xs with
  | false => rw [e] at sp; exact sp.elim
  | true =>
    rw [e] at sp
    refine ⟨sz_of (by rw [← r.length]; have := okLen_le e; omega), fun p hp => ?_⟩
    have ex : Ex ρ H (ρ ++ [p]) (upd H p (.lst ys)) := Ex.alloc hp
    exact sp (ρ ++ [p]) _ _ ex (hr.alloc hp ⟨ys, upd_same, RVs.mono ex _ _ r⟩) (RV.ref_of (by rw [hr.len]; exact getLast_at ρ p))
theorem nt_s {xs : List Vl} {ys : List V} (hr : HR ρ h H) (r : RVs ρ H xs ys) (sp : Sp G W σ RV ρ H (nt h xs) Q) : ys.length ≤ sizeLine ∧ ∀ p, H p = none → Q (.ref p) (upd H p (.tup ys)) := by
  unfold nt at sp
  cases e : okLen xs with
  | false => rw [e] at sp; exact sp.elim
  | true =>
    rw [e] at sp
    refine ⟨sz_of (by rw [← r.length]; have := okLen_le e; omega), fun p hp => ?_⟩
    have ex : Ex ρ H ρ (upd H p (.tup ys)) := Ex.fresh hp
    exact sp ρ _ _ ex (hr.fresh hp) (RV.tup_of upd_same (RVs.mono ex _ _ r))
/-- a new tuple whose length need not be looked at -/
theorem nt_s' {xs : List Vl} {ys : List V} (hr : HR ρ h H) (r : RVs ρ H xs ys) (sp : Sp G W σ RV ρ H (.ok (.tup xs) h) Q) : ∀ p, H p = none → Q (.ref p) (upd H p (.tup ys)) := fun p hp => by
  have ex : Ex ρ H ρ (upd H p (.tup ys)) := Ex.fresh hp
  exact sp ρ _ _ ex (hr.fresh hp) (RV.tup_of upd_same (RVs.mono ex _ _ r))
theorem lst_at {n : Nat} {x : V} {xs : List Vl} (hr : HR ρ h H) (r : RV ρ H (.ref n) x) (g : h.get n = some (.lst xs)) : ∃ a ys, x = .ref a ∧ ρ[n]? = some a ∧ H a = some (.lst ys) ∧ RVs ρ H xs ys := by
  obtain ⟨a, rfl, e⟩ := r.ref_inv
  obtain ⟨ys, e2, q⟩ := hr.ob e g
  exact ⟨a, ys, rfl, e, e2, q⟩
theorem ro_at {n : Nat} {x : V} {xs : List Vl} (hr : HR ρ h H) (r : RV ρ H (.ref n) x) (g : h.get n = some (.ro xs)) : ∃ a o ys, x = .ref a ∧ ρ[n]? = some a ∧ H a = some (.frz o (.lst ys)) ∧ RVs ρ H xs ys := by
  obtain ⟨a, rfl, e⟩ := r.ref_inv
  obtain ⟨o, ys, e2, q⟩ := hr.ob e g
  exact ⟨a, o, ys, rfl, e, e2, q⟩
theorem dk_at {n : Nat} {x : V} {kvs : List (Kx × Vl)} (hr : HR ρ h H) (r : RV ρ H (.ref n) x) (g : h.get n = some (.dk kvs)) : ∃ a ks, x = .ref a ∧ ρ[n]? = some a ∧ H a = some (.dK ks) ∧ RK ρ H kvs ks := by
  obtain ⟨a, rfl, e⟩ := r.ref_inv
  obtain ⟨ys, e2, q⟩ := hr.ob e g
  exact ⟨a, ys, rfl, e, e2, q⟩
theorem dt_at {n : Nat} {x : V} {kvs : List (List Kx × Vl)} (hr : HR ρ h H) (r : RV ρ H (.ref n) x) (g : h.get n = some (.dt kvs)) : ∃ a ks, x = .ref a ∧ ρ[n]? = some a ∧ H a = some (.dT ks) ∧ RK ρ H kvs ks := by
  obtain ⟨a, rfl, e⟩ := r.ref_inv
  obtain ⟨ys, e2, q⟩ := hr.ob e g
  exact ⟨a, ys, rfl, e, e2, q⟩
/-! ### keys -/
theorem keq_eq (a b : Kx) : keq a b = decide (a = b) := by
  cases a with
  | inl i => cases b with
    | inl j => show ieq i j = _; rw [ieq_eq]; simp
    | inr y => exact (decide_eq_false (fun z => nomatch z)).symm
  | inr x => cases b with
    | inl j => exact (decide_eq_false (fun z => nomatch z)).symm
    | inr y => show decide (x = y) = _; simp
theorem kseq_eq : ∀ a b : List Kx, kseq a b = decide (a = b)
  | [], [] => by simp [kseq]
  | [], _ :: _ => by simp [kseq]
  | _ :: _, [] => by simp [kseq]
  | a :: r, b :: s => by
    unfold kseq
    rw [keq_eq, kseq_eq r s]
    by_cases e : a = b
    · subst e; simp
    · simp [e]
theorem look_rv {κ : Type} [DecidableEq κ] {eq : κ → κ → Bool} (he : ∀ a b, eq a b = decide (a = b)) (k : κ) : ∀ {l : List (κ × Vl)} {ks : List (κ × V)}, RK ρ H l ks → match look eq k l with
    | some v => ∃ x, valV ks k = some x ∧ RV ρ H v x
    | none => valV ks k = none
  | [], ks, r => by
    have : ks = [] := r
    subst this
    exact valV_nil
  | p :: l, ks, r => by
    obtain ⟨q, s, rfl, h1, h2, h3⟩ := r
    unfold look
    rw [he]
    by_cases e : p.1 = k
    · rw [decide_eq_true e]
      exact ⟨q.2, valV_pos (h1.trans e), h2⟩
    · rw [decide_eq_false e]
      have ih := look_rv he k h3
      rw [valV_neg (show ¬ q.1 = k from fun z => e (h1.symm.trans z))]
      exact ih
theorem rk_len {κ : Type} : ∀ {l : List (κ × Vl)} {ks : List (κ × V)}, RK ρ H l ks → l.length = ks.length
  | [], ks, r => by
    have : ks = [] := r
    subst this; rfl
  | p :: l, ks, r => by
    obtain ⟨q, s, rfl, h1, h2, h3⟩ := r
    simp [rk_len h3]
theorem store_rv {κ : Type} [DecidableEq κ] {eq : κ → κ → Bool} (he : ∀ a b, eq a b = decide (a = b)) (k : κ) {v : Vl} {x : V} (rv : RV ρ H v x) {l : List (κ × Vl)} {ks : List (κ × V)} (r : RK ρ H l ks) : RK ρ H (store eq k v l) (L2.putK ks k x) := by
  have h1 : ∀ {l : List (κ × Vl)} {ks : List (κ × V)}, RK ρ H l ks → hasK eq k l = ks.any fun kv => decide (kv.1 = k) := by
    intro l
    induction l with
    | nil => intro ks r; rw [show ks = [] from r]; rfl
    | cons p l ih =>
      intro ks r
      obtain ⟨q, s, rfl, e, _, t⟩ := r
      unfold hasK
      rw [List.any_cons, he, ih t, e]
      by_cases c : p.1 = k
      · rw [decide_eq_true c]; rfl
      · rw [decide_eq_false c]; rfl
  have h2 : ∀ {l : List (κ × Vl)} {ks : List (κ × V)}, RK ρ H l ks → RK ρ H (mapK eq k v l) (ks.map fun kv => if kv.1 = k then (kv.1, x) else kv) := by
    intro l
    induction l with
    | nil => intro ks r; rw [show ks = [] from r]; rfl
    | cons p l ih =>
      intro ks r
      obtain ⟨q, s, rfl, e, rq, t⟩ := r
      refine ⟨_, _, rfl, ?_, ?_, ih t⟩
      · rw [he]
        by_cases c : p.1 = k
        · rw [decide_eq_true c]; dsimp only; rw [if_pos (by rw [e]; exact c)]; exact e
        · rw [decide_eq_false c]; dsimp only; rw [if_neg (by rw [e]; exact c)]; exact e
      · rw [he]
        by_cases c : p.1 = k
        · rw [decide_eq_true c]; dsimp only; rw [if_pos (by rw [e]; exact c)]; exact rv
        · rw [decide_eq_false c]; dsimp only; rw [if_neg (by rw [e]; exact c)]; exact rq
  have h3 : ∀ {l : List (κ × Vl)} {ks : List (κ × V)}, RK ρ H l ks → RK ρ H (l ++ [(k, v)]) (ks ++ [(k, x)]) := by
    intro l
    induction l with
    | nil => intro ks r; rw [show ks = [] from r]; exact ⟨_, _, rfl, rfl, rv, rfl⟩
    | cons p l ih =>
      intro ks r
      obtain ⟨q, s, rfl, e, rq, t⟩ := r
      exact ⟨_, _, rfl, e, rq, ih t⟩
  unfold store L2.putK
  rw [h1 r]
  cases ks.any fun kv => decide (kv.1 = k) with
  | true => rw [if_pos rfl]; exact h2 r
  | false => rw [if_neg Bool.false_ne_true]; exact h3 r
theorem rk_keys {κ : Type} : ∀ {l : List (κ × Vl)} {ks : List (κ × V)}, RK ρ H l ks → ks.map (·.1) = l.map (·.1)
  | [], ks, r => by
    have : ks = [] := r
    subst this; rfl
  | p :: l, ks, r => by
    obtain ⟨q, s, rfl, h1, h2, h3⟩ := r
    simp [rk_keys h3, h1]
theorem vkey_kV {v : Vl} {x : V} {k : Kx} (r : RV ρ H v x) (e : vkey v = some k) : x = kV k := by
  cases v with
  | int i => rw [r.int_inv]; cases e; rfl
  | str s => rw [r.str_inv]; cases e; rfl
  | _ => cases e
theorem vkeys_kV : ∀ {vs : List Vl} {xs : List V} {ks : List Kx}, RVs ρ H vs xs → vkeys vs = some ks → xs = ks.map kV
  | [], _, ks, r, e => by rw [r.nil_inv]; unfold vkeys at e; cases e; rfl
  | v :: vs, _, ks, r, e => by
    obtain ⟨y, t, rfl, h1, h2⟩ := r.cons_inv
    unfold vkeys at e
    cases q : vkey v with
    | none => rw [q] at e; cases e
    | some k =>
      rw [q] at e
      cases q2 : vkeys vs with
      | none => rw [q2] at e; cases e
      | some es =>
        rw [q2] at e; cases e
        rw [vkey_kV h1 q, vkeys_kV h2 q2]; rfl
/-! ### indices -/
theorem nblt (m n : Nat) : Nat.blt m n = decide (m < n) := by
  show Nat.ble (m + 1) n = _
  rw [nble]; rfl
theorem ixn_eq (n : Nat) (i : Int) : ixn n i = L2.ixN n i := by
  unfold ixn L2.ixN
  cases i with
  | ofNat k =>
    show cond (Nat.blt k n) _ _ = _
    rw [nblt]
    rw [if_pos (show 0 ≤ Int.ofNat k from Int.natCast_nonneg k)]
    by_cases h : k < n
    · rw [decide_eq_true h, if_pos (show Int.ofNat k < (n : Int) by show ((k : Nat) : Int) < n; omega)]; rfl
    · rw [decide_eq_false h, if_neg (show ¬ Int.ofNat k < (n : Int) by show ¬ ((k : Nat) : Int) < n; omega)]; rfl
  | negSucc k =>
    show cond (Nat.blt k n) _ _ = _
    rw [nblt, if_neg (by omega)]
    by_cases h : k < n
    · rw [decide_eq_true h, if_pos (by omega)]
      show some _ = some _
      congr 1; omega
    · rw [decide_eq_false h, if_neg (by omega)]; rfl
theorem nth_at {xs : List Vl} {ys : List V} {i : Int} (hr : HR ρ h H) (r : RVs ρ H xs ys) (sp : Sp G W σ RV ρ H (nth xs i h) Q) : ∃ y, atI ys i = some y ∧ Q y H := by
  unfold nth at sp
  rw [ixn_eq, llen_eq] at sp
  unfold atI
  rw [← r.length]
  cases e : L2.ixN xs.length i with
  | none => rw [e] at sp; exact sp.elim
  | some k =>
    rw [e] at sp
    dsimp only at sp
    rw [lget_eq] at sp
    cases e2 : xs[k]? with
    | none => rw [e2] at sp; exact sp.elim
    | some v =>
      rw [e2] at sp
      obtain ⟨y, h1, h2⟩ := r.get e2
      exact ⟨y, h1, sp_ok hr h2 sp⟩
theorem sls_eq (n d : Nat) (o : Option Int) : sls n d o = HT.sIx n d o := by
  cases o with
  | none => rfl
  | some v =>
    show _ = if v < 0 then (v + (n : Int)).toNat else min v.toNat n
    cases v with
    | ofNat k =>
      rw [if_neg (by show ¬ ((k : Nat) : Int) < 0; omega)]
      show cond (Nat.ble k n) k n = min k n
      rw [nble]
      by_cases h : k ≤ n
      · rw [decide_eq_true h]; show k = _; omega
      · rw [decide_eq_false h]; show n = _; omega
    | negSucc k =>
      rw [if_pos (by omega)]
      show n - (k + 1) = _
      omega
theorem cut_rv {xs : List Vl} {ys : List V} (r : RVs ρ H xs ys) (lo hi : Option Int) : RVs ρ H (cut xs lo hi) (cutV ys lo hi) := by
  unfold cut cutV
  dsimp only
  rw [llen_eq, sls_eq, sls_eq, ← r.length]
  exact (r.drop _).take _
/-! ### data -/
theorem veq_s {v w : Vl} {x y : V} {b : Bool} (K : PySem.W.Frag) (rv : RV ρ H v x) (rw_ : RV ρ H w y) (e : veq v w = some b) : ∃ d e, Dp K H x d ∧ Dp K H y e ∧ SeqAt.shaped d = true ∧ SeqAt.shaped e = true ∧ PyData.eqv d e = b := by
  have deep : deq v w = some b → ∃ d e, Dp K H x d ∧ Dp K H y e ∧ SeqAt.shaped d = true ∧ SeqAt.shaped e = true ∧ PyData.eqv d e = b := fun e => by
    unfold deq at e
    cases q1 : v.py with
    | none => rw [q1] at e; cases e
    | some d =>
      cases q2 : w.py with
      | none => rw [q1, q2] at e; cases e
      | some d' =>
        rw [q1, q2] at e
        dsimp only at e
        cases q3 : SeqAt.shaped d with
        | false => rw [q3] at e; cases e
        | true =>
          cases q4 : SeqAt.shaped d' with
          | false => rw [q3, q4] at e; cases e
          | true =>
            rw [q3, q4] at e
            exact ⟨d, d', dp_of v x d rv q1, dp_of w y d' rw_ q2, q3, q4, Option.some.inj e⟩
  have sI : ∀ i : Int, SeqAt.shaped (.int i) = true := fun i => rfl
  have sN : SeqAt.shaped .none = true := rfl
  have sB : ∀ i : Bool, SeqAt.shaped (.bool i) = true := fun i => rfl
  unfold veq at e
  split at e
  · rename_i i j
    cases e
    rw [rv.int_inv, rw_.int_inv]
    exact ⟨.int i, .int j, .int i, .int j, sI i, sI j, by rw [ieq_eq]; unfold PyData.eqv; rw [Bool.beq_eq_decide_eq]⟩
  · rename_i j
    cases e
    rw [rv.non_inv, rw_.int_inv]
    exact ⟨.none, .int j, .non, .int j, sN, sI j, by unfold PyData.eqv; rfl⟩
  · rename_i j
    cases e
    rw [rw_.non_inv, rv.int_inv]
    exact ⟨.int j, .none, .int j, .non, sI j, sN, by unfold PyData.eqv; rfl⟩
  · cases e
    rw [rw_.non_inv, rv.non_inv]
    exact ⟨.none, .none, .non, .non, sN, sN, by unfold PyData.eqv; rfl⟩
  · rename_i a c
    cases e
    rw [rw_.bl_inv, rv.bl_inv]
    exact ⟨.bool a, .bool c, .bl a, .bl c, sB a, sB c, by unfold PyData.eqv; cases a <;> cases c <;> rfl⟩
  · exact deep e
theorem flat_flatV {v : Vl} {x : V} (r : RV ρ H v x) (f : flat v = true) : flatV x = true := by
  cases v with
  | int i => rw [r.int_inv]; rfl
  | non => rw [r.non_inv]; rfl
  | _ => cases f
theorem fleq_eqV {v w : Vl} {x y : V} (r : RV ρ H v x) (q : RV ρ H w y) (f : flat v = true) (g : flat w = true) : fleq v w = eqV x y := by
  cases v with
  | int i =>
    rw [r.int_inv]
    cases w with
    | int j => rw [q.int_inv]; show ieq i j = (i == j); rw [ieq_eq, Bool.beq_eq_decide_eq]
    | non => rw [q.non_inv]; rfl
    | _ => cases g
  | non =>
    rw [r.non_inv]
    cases w with
    | int j => rw [q.int_inv]; rfl
    | non => rw [q.non_inv]; rfl
    | _ => cases g
  | _ => cases f
theorem inFlat_s {v : Vl} {x : V} (r : RV ρ H v x) (f : flat v = true) : ∀ {xs : List Vl} {ys : List V} {b : Bool}, RVs ρ H xs ys → inFlat v xs = some b → ys.all flatV = true ∧ inV x ys = b
  | [], _, b, q, e => by
    rw [q.nil_inv]
    unfold inFlat at e; cases e
    exact ⟨rfl, rfl⟩
  | w :: xs, _, b, q, e => by
    obtain ⟨y, t, rfl, h1, h2⟩ := q.cons_inv
    unfold inFlat at e
    cases g : flat w with
    | false => rw [g] at e; cases e
    | true =>
      rw [g] at e
      cases k : inFlat v xs with
      | none => rw [k] at e; cases e
      | some c =>
        rw [k] at e
        obtain ⟨i1, i2⟩ := inFlat_s r f h2 k
        have e' : cond (fleq w v) true c = b := Option.some.inj e
        refine ⟨by rw [List.all_cons, flat_flatV h1 g, i1]; rfl, ?_⟩
        show (eqV y x || inV x t) = b
        rw [i2, ← fleq_eqV h1 r g f, ← e']
        cases fleq w v <;> rfl
theorem inDeep_s {v : Vl} {x : V} {xs : List Vl} {ys : List V} {b : Bool} (K : PySem.W.Frag) (r : RV ρ H v x) (q : RVs ρ H xs ys) (e : inDeep v xs = some b) :
    ∃ d ds, Dp K H x d ∧ DpAll K H ys ds ∧ SeqAt.shaped d = true ∧ SeqAt.shaped (.list ds) = true ∧ (ds.any fun z => PyData.eqv z d) = b := by
  unfold inDeep at e
  cases q1 : v.py with
  | none => rw [q1] at e; cases e
  | some d =>
    cases q2 : pys xs with
    | none => rw [q1, q2] at e; cases e
    | some ds =>
      rw [q1, q2] at e
      dsimp only at e
      cases q3 : SeqAt.shaped d with
      | false => rw [q3] at e; cases e
      | true =>
        cases q4 : SeqAt.shaped (.list ds) with
        | false => rw [q3, q4] at e; cases e
        | true =>
          rw [q3, q4] at e
          exact ⟨d, ds, dp_of v x d r q1, dps_of xs ys ds q q2, q3, q4, Option.some.inj e⟩
end
end Mini
set_option Elab.async false
set_option linter.all false
/-! M5: the operators' rules, joined, and that mini's answers meet them. -/
namespace Mini
open PySem L2 PySem.Spec PyProof.Rows
section
variable {X : Cx}
def rInDT (K : PySem.W.Frag) (neg : Bool) : R2 := fun x y H Q => ∃ d ds, Dp K H x d ∧ Dp K H y (.tuple ds) ∧ SeqAt.shaped d = true ∧ SeqAt.shaped (.list ds) = true ∧ Q (.bl (if neg then !(ds.any fun z => PyData.eqv z d) else ds.any fun z => PyData.eqv z d)) H
def rDIn (neg : Bool) : R2 := fun y x H Q => ∃ a o, x = .ref a ∧ DGet H a y o ∧ Q (.bl (if neg then !o.isSome else o.isSome)) H
theorem op_inDT (hu : X.A.units + 65 < cLine) : OpR X (compareOp .In) (rInDT X.K false) := by
  intro pins s σ H x y v u Q I rx ry h
  obtain ⟨d, ds, hd, he, sd, se, q⟩ := h
  obtain ⟨as, r1⟩ := Dp.reads I d x v hd rx
  obtain ⟨bs, r2⟩ := Dp.reads I (.tuple ds) y u he ry
  exact SeqAt.in_tuple_reads r2 r1 (SeqAt.canLay_of_shaped se) (SeqAt.canLay_of_shaped sd) (room_in_shaped sd hu) ⟨.bl _, H, I, rfl, q⟩
theorem op_ninDT (hu : X.A.units + 65 < cLine) : OpR X (compareOp .NotIn) (rInDT X.K true) := by
  intro pins s σ H x y v u Q I rx ry h
  obtain ⟨d, ds, hd, he, sd, se, q⟩ := h
  obtain ⟨as, r1⟩ := Dp.reads I d x v hd rx
  obtain ⟨bs, r2⟩ := Dp.reads I (.tuple ds) y u he ry
  exact SeqAt.notIn_tuple_reads r2 r1 (SeqAt.canLay_of_shaped se) (SeqAt.canLay_of_shaped sd) (room_in_shaped sd hu) ⟨.bl _, H, I, rfl, q⟩
theorem op_din (hu : X.A.units + 1 < cLine) : OpR X (compareOp .In) (rDIn false) := by
  intro pins s σ H y x v u Q I ry rx h
  obtain ⟨a, o, rfl, g, q⟩ := h
  obtain rfl : u = Value.ref a := rx
  exact d_in hu I g ry fun s3 I3 => ⟨.bl o.isSome, H, I3, rfl, q⟩
theorem op_dnin (hu : X.A.units + 1 < cLine) : OpR X (compareOp .NotIn) (rDIn true) := by
  intro pins s σ H y x v u Q I ry rx h
  obtain ⟨a, o, rfl, g, q⟩ := h
  obtain rfl : u = Value.ref a := rx
  exact d_notIn hu I g ry fun s3 I3 => ⟨.bl (!o.isSome), H, I3, rfl, q⟩
end
def rIsNon (neg : Bool) : R2 := fun x y H Q => y = .non ∧ Q (.bl (if neg then !decide (x = .non) else decide (x = .non))) H
def rItem (K : PySem.W.Frag) : R2 := fun x y H Q => rIx K x y H Q ∨ ∃ a v, x = .ref a ∧ DGet H a y (some v) ∧ Q v H
/-- what the rule of an operator asks -/
def opQ (K : PySem.W.Frag) : Op → R2
  | .add => fun x y H Q => rI0 (fun i j => .int (i + j)) x y H Q ∨ (rCat x y H Q ∨ rCatA K x y H Q)
  | .sub => rI0 fun i j => .int (i - j)
  | .mul => fun x y H Q => rI CMul (fun i j => .int (i * j)) x y H Q ∨ (rRep x y H Q ∨ rRepT K x y H Q)
  | .fdiv => rI CDiv fun i j => .int (i / j)
  | .mod => rI (fun _ j => 0 < j) fun i j => .int (i % j)
  | .pow => rI CPow fun i j => .int (i ^ j.toNat)
  | .shl => rI CPow fun i j => .int (i * 2 ^ j.toNat)
  | .shr => rI (fun _ j => 0 ≤ j) fun i j => .int (i / 2 ^ j.toNat)
  | .band => rI0 fun i j => .int (Builtin.bitAnd i j)
  | .bor => rI0 fun i j => .int (Builtin.bitOr i j)
  | .bxor => rI0 fun i j => .int (Builtin.bitXor i j)
  | .eq => rEqD K
  | .ne => rNeD K
  | .lt => rI0 fun i j => .bl (decide (i < j))
  | .le => rI0 fun i j => .bl (decide (i ≤ j))
  | .gt => rI0 fun i j => .bl (decide (j < i))
  | .ge => rI0 fun i j => .bl (decide (j ≤ i))
  | .inn => fun x y H Q => rIn K false x y H Q ∨ (rInD K x y H Q ∨ (rInDT K false x y H Q ∨ rDIn false x y H Q))
  | .nin => fun x y H Q => rIn K true x y H Q ∨ (rNotInD K x y H Q ∨ (rInDT K true x y H Q ∨ rDIn true x y H Q))
  | .isN => rIsNon false
  | .notN => rIsNon true
  | .item => rItem K
def binOf : Op → Option Operator
  | .add => some .Add | .sub => some .Sub | .mul => some .Mult | .fdiv => some .FloorDiv | .mod => some .Mod | .pow => some .Pow | .shl => some .LShift | .shr => some .RShift | .band => some .BitAnd | .bor => some .BitOr | .bxor => some .BitXor
  | _ => none
def cmpOf : Op → Option CmpOp
  | .eq => some .Eq | .ne => some .NotEq | .lt => some .Lt | .le => some .LtE | .gt => some .Gt | .ge => some .GtE | .inn => some .In | .nin => some .NotIn | .isN => some .Is | .notN => some .IsNot
  | _ => none
section
variable {X : Cx}
theorem bin_ok {o : Op} {b : Operator} (e : binOf o = some b) : OpR X (binaryOp b) (opQ X.K o) := by
  cases o <;> first | (cases e; done) | skip
  case add => cases e; exact op_add.or (op_cat.or op_catA)
  case sub => cases e; exact op_sub
  case mul => cases e; exact op_mul.or (op_rep.or op_repT)
  case fdiv => cases e; exact op_fdiv
  case mod => cases e; exact op_mod
  case pow => cases e; exact op_pow
  case shl => cases e; exact op_shl
  case shr => cases e; exact op_shr
  case band => cases e; exact op_and
  case bor => cases e; exact op_or
  case bxor => cases e; exact op_xor
theorem cmp_ok (hu : X.A.units + 65 < cLine) {o : Op} {b : CmpOp} (e : cmpOf o = some b) : OpR X (compareOp b) (opQ X.K o) := by
  cases o <;> first | (cases e; done) | skip
  case eq => cases e; exact op_eqD (by omega)
  case ne => cases e; exact op_neD (by omega)
  case lt => cases e; exact op_lt
  case le => cases e; exact op_le
  case gt => cases e; exact op_gt
  case ge => cases e; exact op_ge
  case inn => cases e; exact op_in_seq.or ((op_inD hu).or ((op_inDT hu).or (op_din (by omega))))
  case nin => cases e; exact op_notIn_seq.or ((op_notInD hu).or ((op_ninDT hu).or (op_dnin (by omega))))
  case isN => cases e; exact op_isN
  case notN => cases e; exact op_notN
end
section
variable {G : Gp} {W : WX} {σ : L2.St} {ρ : Rh} {H : Hp} {h : Hx} {Q : V → Hp → Prop} {v w : Vl} {x y : V} {K : PySem.W.Frag}
theorem i2_s {f : Int → Int → R Vl} {C : Int → Int → Prop} {g : Int → Int → V} (rv : RV ρ H v x) (rw_ : RV ρ H w y) (sp : Sp G W σ RV ρ H (i2 v w h f) Q)
    (go : ∀ i j, Sp G W σ RV ρ H (f i j) Q → C i j ∧ Q (g i j) H) : rI C g x y H Q := by
  unfold i2 at sp
  split at sp
  · rename_i i j
    obtain ⟨h1, h2⟩ := go i j sp
    exact ⟨i, j, rv.int_inv, rw_.int_inv, h1, h2⟩
  · exact sp.elim
theorem i2_s0 {f : Int → Int → R Vl} {g : Int → Int → V} (rv : RV ρ H v x) (rw_ : RV ρ H w y) (sp : Sp G W σ RV ρ H (i2 v w h f) Q)
    (go : ∀ i j, Sp G W σ RV ρ H (f i j) Q → Q (g i j) H) : rI0 g x y H Q := by
  unfold i2 at sp
  split at sp
  · rename_i i j
    exact ⟨i, j, rv.int_inv, rw_.int_inv, go i j sp⟩
  · exact sp.elim
theorem cond_sp {b : Bool} {r : R Vl} (sp : Sp G W σ RV ρ H (cond b r .no) Q) : b = true ∧ Sp G W σ RV ρ H r Q := by
  cases b with
  | true => exact ⟨rfl, sp⟩
  | false => exact sp.elim
theorem small_is {i : Int} (e : small i = true) : -(2 ^ 64) < i ∧ i < 2 ^ 64 := by
  unfold small at e
  rw [nblt] at e
  have h := of_decide_eq_true e
  have h2 : (18446744073709551616 : Nat) = 2 ^ 64 := by decide
  omega
theorem reps_eq {α : Type} : ∀ (n : Nat) (xs : List α), reps n xs = (List.replicate n xs).flatten
  | 0, xs => rfl
  | n + 1, xs => by rw [reps, reps_eq n xs, List.replicate_succ, List.flatten_cons]
theorem reps_rv {xs : List Vl} {ys : List V} (r : RVs ρ H xs ys) : ∀ n : Nat, RVs ρ H (reps n xs) (List.replicate n ys).flatten
  | 0 => RVs.nil
  | n + 1 => by
    rw [reps, List.replicate_succ, List.flatten_cons]
    exact r.append (reps_rv r n)
theorem reps_len {α : Type} (n : Nat) (xs : List α) : (reps n xs).length = n * xs.length := by
  induction n with
  | zero => simp [reps]
  | succ n ih => rw [reps, List.length_append, ih, Nat.succ_mul]; omega
theorem rb_s {o : Option Bool} (hr : HR ρ h H) (sp : Sp G W σ RV ρ H (rb o h) Q) : ∃ b, o = some b ∧ Q (.bl b) H := by
  unfold rb at sp
  cases o with
  | none => exact sp.elim
  | some b => exact ⟨b, rfl, sp_ok hr RV.bl_of sp⟩
theorem add_s (hr : HR ρ h H) (rv : RV ρ H v x) (rw_ : RV ρ H w y) (sp : Sp G W σ RV ρ H (addE v w h) Q) : opQ K .add x y H Q := by
  unfold addE at sp
  split at sp
  · rename_i i j
    exact .inl ⟨i, j, rv.int_inv, rw_.int_inv, sp_ok hr RV.int_of sp⟩
  · rename_i xs ys
    obtain ⟨a, us, rfl, ha, ra⟩ := rv.tup_inv
    obtain ⟨b, ws, rfl, hb, rb⟩ := rw_.tup_inv
    refine .inr (.inr ⟨a, b, us, ws, rfl, rfl, SqT.of ha, SqT.of hb, ?_, fun e => ?_, fun e1 e2 => ?_, fun _ _ => ?_⟩)
    · have := (nt_s hr (ra.append rb) sp).1
      rwa [List.length_append] at this
    · subst e
      have := ra.length
      cases xs with
      | nil =>
        unfold nt at sp
        obtain ⟨_, sp⟩ := cond_sp sp
        exact sp_ok hr (RV.tup_of hb rb) sp
      | cons _ _ => simp at this
    · subst e2
      have := rb.length
      cases ys with
      | nil =>
        rw [List.append_nil] at sp
        unfold nt at sp
        obtain ⟨_, sp⟩ := cond_sp sp
        exact sp_ok hr (RV.tup_of ha ra) sp
      | cons _ _ => simp at this
    · exact (nt_s hr (ra.append rb) sp).2
  · rename_i n m
    split at sp
    · rename_i xs ys g1 g2
      obtain ⟨a, us, rfl, ea, ha, ra⟩ := lst_at hr rv g1
      obtain ⟨b, ws, rfl, eb, hb, rb⟩ := lst_at hr rw_ g2
      obtain ⟨h1, h2⟩ := nl_s hr (ra.append rb) sp
      rw [List.length_append] at h1
      exact .inr (.inl ⟨a, b, us, ws, rfl, rfl, ha, hb, h1, h2⟩)
    · exact sp.elim
  · exact sp.elim
theorem mul_s (hr : HR ρ h H) (rv : RV ρ H v x) (rw_ : RV ρ H w y) (sp : Sp G W σ RV ρ H (mulE v w h) Q) : opQ K .mul x y H Q := by
  unfold mulE at sp
  split at sp
  · rename_i i j
    obtain ⟨e, sp⟩ := cond_sp sp
    refine .inl ⟨i, j, rv.int_inv, rw_.int_inv, ?_, sp_ok hr RV.int_of sp⟩
    rcases Bool.or_eq_true_iff.mp e with e | e
    · exact .inl (small_is e)
    · exact .inr (small_is e)
  · rename_i n k
    split at sp
    · rename_i xs n' g1
      obtain ⟨e, sp⟩ := cond_sp sp
      rw [nble] at e
      have e := of_decide_eq_true e
      obtain ⟨a, us, rfl, ea, ha, ra⟩ := lst_at hr rv g1
      obtain ⟨h1, h2⟩ := nl_s hr (reps_rv ra n') sp
      refine .inr (.inl ⟨a, Int.ofNat n', us, rfl, rw_.int_inv, ha, ?_, ?_, ?_, h2⟩)
      · show -(2 ^ 63) ≤ ((n' : Nat) : Int); omega
      · show ((n' : Nat) : Int) < 2 ^ 63; omega
      · have : (Int.ofNat n').toNat = n' := rfl
        rw [this]
        rw [← reps_eq, reps_len] at h1
        rw [Nat.mul_comm]; exact h1
    · exact sp.elim
  · rename_i z zs n'
    obtain ⟨e, sp⟩ := cond_sp sp
    obtain ⟨e, e3⟩ := Bool.and_eq_true_iff.mp e
    obtain ⟨e1, e2⟩ := Bool.and_eq_true_iff.mp e
    rw [nble] at e1 e2 e3
    have e1 := of_decide_eq_true e1
    have e2 := of_decide_eq_true e2
    have e3 := of_decide_eq_true e3
    rw [llen_eq] at e3
    obtain ⟨a, us, rfl, ha, ra⟩ := rv.tup_inv
    refine .inr (.inr ⟨a, Int.ofNat n', us, rfl, rw_.int_inv, SqT.of ha, ?_, ?_, ?_, ?_, nt_s' hr (reps_rv ra n') sp⟩)
    · intro z; subst z; have := ra.length; simp at this
    · show (2 : Int) ≤ ((n' : Nat) : Int); omega
    · show ((n' : Nat) : Int) ≤ 1000; omega
    · rw [← ra.length]; exact e3
  · exact sp.elim
theorem in_s {b : Bool} {r : Bool → Bool} (neg : Bool) (hneg : ∀ c, r c = if neg then !c else c) (hr : HR ρ h H) (rv : RV ρ H v x) (rw_ : RV ρ H w y) (e : inE v w h = some b) (q : Q (.bl (r b)) H) :
    rIn K neg x y H Q ∨ (∃ d ds, Dp K H x d ∧ Dp K H y (.list ds) ∧ SeqAt.shaped d = true ∧ SeqAt.shaped (.list ds) = true ∧ Q (.bl (r (ds.any fun z => PyData.eqv z d))) H) ∨ rInDT K neg x y H Q ∨ rDIn neg x y H Q := by
  have seqd : ∀ {xs : List Vl} {p : Addr} {ys : List V}, inSeq v xs = some b → RVs ρ H xs ys → y = .ref p → (SqL K H p ys ∨ SqT K H p ys) →
      rIn K neg x y H Q ∨ (inDeep v xs = some b) := fun {xs p ys} e r ey sq => by
    unfold inSeq at e
    split at e
    · rename_i c f i
      cases e
      obtain ⟨h1, h2⟩ := inFlat_s rv f r i
      refine .inl ⟨p, ys, ey, sq, flat_flatV rv f, h1, ?_⟩
      rw [h2, ← hneg]; exact q
    · exact .inr e
  unfold inE at e
  split at e
  · rename_i xs
    obtain ⟨a, us, rfl, ha, ra⟩ := rw_.tup_inv
    rcases seqd e ra rfl (.inr (SqT.of ha)) with z | z
    · exact .inl z
    · obtain ⟨d, ds, h1, h2, h3, h4, h5⟩ := inDeep_s K rv ra z
      refine .inr (.inr (.inl ⟨d, ds, h1, .tup (SqT.of ha) h2, h3, h4, ?_⟩))
      rw [h5, ← hneg]; exact q
  · rename_i n
    split at e
    · rename_i xs g
      obtain ⟨a, us, rfl, ea, ha, ra⟩ := lst_at hr rw_ g
      rcases seqd e ra rfl (.inl (SqL.of ha)) with z | z
      · exact .inl z
      · obtain ⟨d, ds, h1, h2, h3, h4, h5⟩ := inDeep_s K rv ra z
        refine .inr (.inl ⟨d, ds, h1, .lst (SqL.of ha) h2, h3, h4, ?_⟩)
        rw [h5]; exact q
    · rename_i kvs g
      obtain ⟨a, ks, rfl, ea, ha, ra⟩ := dk_at hr rw_ g
      split at e
      · rename_i k hk
        cases e
        have hx := vkey_kV rv hk
        have l := look_rv keq_eq k ra
        refine .inr (.inr (.inr ⟨a, valV ks k, rfl, by rw [hx]; exact DGet.k ha, ?_⟩))
        rw [← hneg]
        cases z : look keq k kvs with
        | none => rw [z] at l q; rw [l]; exact q
        | some u => rw [z] at l q; obtain ⟨u', hu, _⟩ := l; rw [hu]; exact q
      · cases e
    · rename_i kvs g
      obtain ⟨a, ks, rfl, ea, ha, ra⟩ := dt_at hr rw_ g
      split at e
      · rename_i vs
        split at e
        · rename_i k hk
          cases e
          obtain ⟨t, us, rfl, ht, rt⟩ := rv.tup_inv
          have hx := vkeys_kV rt hk
          have l := look_rv kseq_eq k ra
          refine .inr (.inr (.inr ⟨a, valV ks k, rfl, DGet.t ha (by rw [ht, hx]), ?_⟩))
          rw [← hneg]
          cases z : look kseq k kvs with
          | none => rw [z] at l q; rw [l]; exact q
          | some u => rw [z] at l q; obtain ⟨u', hu, _⟩ := l; rw [hu]; exact q
        · cases e
      · cases e
    · cases e
  · cases e
theorem item_s (hr : HR ρ h H) (rv : RV ρ H v x) (rw_ : RV ρ H w y) (sp : Sp G W σ RV ρ H (itemE v w h) Q) : opQ K .item x y H Q := by
  unfold itemE at sp
  split at sp
  · rename_i xs
    split at sp
    · rename_i i
      obtain ⟨a, us, rfl, ha, ra⟩ := rv.tup_inv
      obtain ⟨z, h1, h2⟩ := nth_at hr ra sp
      exact .inl (.inr (.inl ⟨a, us, i, z, rfl, rw_.int_inv, SqT.of ha, h1, h2⟩))
    · exact sp.elim
  · rename_i n
    split at sp
    · rename_i xs g
      split at sp
      · rename_i i
        obtain ⟨a, us, rfl, ea, ha, ra⟩ := lst_at hr rv g
        obtain ⟨z, h1, h2⟩ := nth_at hr ra sp
        exact .inl (.inl ⟨a, us, i, z, rfl, rw_.int_inv, SqL.of ha, h1, h2⟩)
      · exact sp.elim
    · rename_i xs g
      split at sp
      · rename_i i
        obtain ⟨a, o, us, rfl, ea, ha, ra⟩ := ro_at hr rv g
        obtain ⟨z, h1, h2⟩ := nth_at hr ra sp
        exact .inl (.inl ⟨a, us, i, z, rfl, rw_.int_inv, .inl (.inr ⟨o, ha⟩), h1, h2⟩)
      · exact sp.elim
    · rename_i kvs g
      obtain ⟨a, ks, rfl, ea, ha, ra⟩ := dk_at hr rv g
      split at sp
      · rename_i k hk
        have hx := vkey_kV rw_ hk
        have l := look_rv keq_eq k ra
        unfold ov at sp
        cases z : look keq k kvs with
        | none => rw [z] at sp; exact sp.elim
        | some u =>
          rw [z] at l sp
          obtain ⟨u', hu, ru⟩ := l
          exact .inr ⟨a, u', rfl, by rw [hx, ← hu]; exact DGet.k ha, sp_ok hr ru sp⟩
      · exact sp.elim
    · rename_i kvs g
      obtain ⟨a, ks, rfl, ea, ha, ra⟩ := dt_at hr rv g
      split at sp
      · rename_i vs
        split at sp
        · rename_i k hk
          obtain ⟨t, us, rfl, ht, rt⟩ := rw_.tup_inv
          have hx := vkeys_kV rt hk
          have l := look_rv kseq_eq k ra
          unfold ov at sp
          cases z : look kseq k kvs with
          | none => rw [z] at sp; exact sp.elim
          | some u =>
            rw [z] at l sp
            obtain ⟨u', hu, ru⟩ := l
            exact .inr ⟨a, u', rfl, by rw [← hu]; exact DGet.t ha (by rw [ht, hx]), sp_ok hr ru sp⟩
        · exact sp.elim
      · exact sp.elim
    · exact sp.elim
  · exact sp.elim
theorem op_s {o : Op} (hr : HR ρ h H) (rv : RV ρ H v x) (rw_ : RV ρ H w y) (sp : Sp G W σ RV ρ H (opE o v w h) Q) : opQ K o x y H Q := by
  cases o with
  | add => exact add_s hr rv rw_ sp
  | sub => exact i2_s0 (h := h) rv rw_ sp fun i j sp => sp_ok hr RV.int_of sp
  | mul => exact mul_s hr rv rw_ sp
  | fdiv =>
    refine i2_s (h := h) rv rw_ sp fun i j sp => ?_
    obtain ⟨e, sp⟩ := cond_sp sp
    obtain ⟨e1, e2⟩ := Bool.and_eq_true_iff.mp e
    rw [ilt_eq] at e1 e2
    exact ⟨⟨of_decide_eq_true e1, of_decide_eq_true e2⟩, sp_ok hr RV.int_of sp⟩
  | mod =>
    refine i2_s (h := h) rv rw_ sp fun i j sp => ?_
    obtain ⟨e, sp⟩ := cond_sp sp
    rw [ilt_eq] at e
    exact ⟨of_decide_eq_true e, sp_ok hr RV.int_of sp⟩
  | pow =>
    refine i2_s (h := h) rv rw_ sp fun i j sp => ?_
    obtain ⟨e, sp⟩ := cond_sp sp
    obtain ⟨e, e3⟩ := Bool.and_eq_true_iff.mp e
    obtain ⟨e1, e2⟩ := Bool.and_eq_true_iff.mp e
    rw [ile_eq] at e1 e2
    have e1 := of_decide_eq_true e1
    have e2 := of_decide_eq_true e2
    have e3 := small_is e3
    exact ⟨⟨e1, by omega, by omega⟩, sp_ok hr RV.int_of sp⟩
  | shl =>
    refine i2_s (h := h) rv rw_ sp fun i j sp => ?_
    obtain ⟨e, sp⟩ := cond_sp sp
    obtain ⟨e, e3⟩ := Bool.and_eq_true_iff.mp e
    obtain ⟨e1, e2⟩ := Bool.and_eq_true_iff.mp e
    rw [ile_eq] at e1 e2
    have e1 := of_decide_eq_true e1
    have e2 := of_decide_eq_true e2
    have e3 := small_is e3
    exact ⟨⟨e1, by omega, by omega⟩, sp_ok hr RV.int_of sp⟩
  | shr =>
    refine i2_s (h := h) rv rw_ sp fun i j sp => ?_
    obtain ⟨e, sp⟩ := cond_sp sp
    rw [ile_eq] at e
    exact ⟨of_decide_eq_true e, sp_ok hr RV.int_of sp⟩
  | band => exact i2_s0 (h := h) rv rw_ sp fun i j sp => sp_ok hr RV.int_of sp
  | bor => exact i2_s0 (h := h) rv rw_ sp fun i j sp => sp_ok hr RV.int_of sp
  | bxor => exact i2_s0 (h := h) rv rw_ sp fun i j sp => sp_ok hr RV.int_of sp
  | eq =>
    obtain ⟨b, e, q⟩ := rb_s hr sp
    obtain ⟨d, d', h1, h2, h3, h4, h5⟩ := veq_s K rv rw_ e
    exact ⟨d, d', h1, h2, h3, h4, by rw [h5]; exact q⟩
  | ne =>
    obtain ⟨b, e, q⟩ := rb_s hr sp
    cases z : veq v w with
    | none => rw [z] at e; cases e
    | some c =>
      rw [z] at e
      obtain ⟨d, d', h1, h2, h3, h4, h5⟩ := veq_s K rv rw_ z
      refine ⟨d, d', h1, h2, h3, h4, ?_⟩
      rw [h5]
      have e' : (not c) = b := Option.some.inj e
      rw [e']; exact q
  | lt => exact i2_s0 (h := h) rv rw_ sp fun i j sp => by rw [← ilt_eq]; exact sp_ok hr RV.bl_of sp
  | le => exact i2_s0 (h := h) rv rw_ sp fun i j sp => by rw [← ile_eq]; exact sp_ok hr RV.bl_of sp
  | gt => exact i2_s0 (h := h) rv rw_ sp fun i j sp => by rw [← ilt_eq]; exact sp_ok hr RV.bl_of sp
  | ge => exact i2_s0 (h := h) rv rw_ sp fun i j sp => by rw [← ile_eq]; exact sp_ok hr RV.bl_of sp
  | inn =>
    obtain ⟨b, e, q⟩ := rb_s hr sp
    exact in_s (r := fun c => c) false (fun c => rfl) hr rv rw_ e q
  | nin =>
    obtain ⟨b, e, q⟩ := rb_s hr sp
    cases z : inE v w h with
    | none => rw [z] at e; cases e
    | some c =>
      rw [z] at e
      have e' : (not c) = b := Option.some.inj e
      exact in_s (r := not) true (fun c => rfl) hr rv rw_ z (by rw [e']; exact q)
  | isN =>
    show rIsNon false x y H Q
    unfold opE at sp
    cases w with
    | non =>
      refine ⟨rw_.non_inv, ?_⟩
      cases v with
      | non => have := sp_ok hr RV.bl_of sp; rw [rv.non_inv]; exact this
      | bl b => have := sp_ok hr RV.bl_of sp; rw [rv.bl_inv]; exact this
      | int b => have := sp_ok hr RV.bl_of sp; rw [rv.int_inv]; exact this
      | str b => have := sp_ok hr RV.bl_of sp; rw [rv.str_inv]; exact this
      | tup b => have := sp_ok hr RV.bl_of sp; obtain ⟨a, ys, e, _⟩ := rv.tup_inv; rw [e]; exact this
      | ref b => have := sp_ok hr RV.bl_of sp; obtain ⟨a, e, _⟩ := rv.ref_inv; rw [e]; exact this
      | ty b => have := sp_ok hr RV.bl_of sp; rw [rv.ty_inv]; exact this
      | opq => exact sp.elim
    | _ => exact sp.elim
  | notN =>
    show rIsNon true x y H Q
    unfold opE at sp
    cases w with
    | non =>
      refine ⟨rw_.non_inv, ?_⟩
      cases v with
      | non => have := sp_ok hr RV.bl_of sp; rw [rv.non_inv]; exact this
      | bl b => have := sp_ok hr RV.bl_of sp; rw [rv.bl_inv]; exact this
      | int b => have := sp_ok hr RV.bl_of sp; rw [rv.int_inv]; exact this
      | str b => have := sp_ok hr RV.bl_of sp; rw [rv.str_inv]; exact this
      | tup b => have := sp_ok hr RV.bl_of sp; obtain ⟨a, ys, e, _⟩ := rv.tup_inv; rw [e]; exact this
      | ref b => have := sp_ok hr RV.bl_of sp; obtain ⟨a, e, _⟩ := rv.ref_inv; rw [e]; exact this
      | ty b => have := sp_ok hr RV.bl_of sp; rw [rv.ty_inv]; exact this
      | opq => exact sp.elim
    | _ => exact sp.elim
  | item => exact item_s hr rv rw_ sp
theorem tru_s {b : Bool} (hr : HR ρ h H) (rv : RV ρ H v x) (e : truE v h = some b) : TruV K x H b := by
  unfold truE at e
  split at e
  · cases e; rw [rv.non_inv]; rfl
  · cases e; rw [rv.bl_inv]; rfl
  · rename_i i
    cases e; rw [rv.int_inv]
    show (!ieq i 0) = (i != 0)
    rw [ieq_eq, bne, Bool.beq_eq_decide_eq]
  · cases e
    obtain ⟨a, ys, rfl, ha, r⟩ := rv.tup_inv
    rw [r.nil_inv] at ha
    exact .inr (.inl ⟨[], SqT.of ha, rfl⟩)
  · cases e
    obtain ⟨a, ys, rfl, ha, r⟩ := rv.tup_inv
    obtain ⟨z, t, rfl, _, _⟩ := r.cons_inv
    exact .inr (.inl ⟨_, SqT.of ha, rfl⟩)
  · rename_i n
    split at e
    · rename_i g
      cases e
      obtain ⟨a, ys, rfl, _, ha, r⟩ := lst_at hr rv g
      rw [r.nil_inv] at ha
      exact .inl ⟨[], SqL.of ha, rfl⟩
    · rename_i g
      cases e
      obtain ⟨a, ys, rfl, _, ha, r⟩ := lst_at hr rv g
      obtain ⟨z, t, rfl, _, _⟩ := r.cons_inv
      exact .inl ⟨_, SqL.of ha, rfl⟩
    · rename_i g
      cases e
      obtain ⟨a, ks, rfl, _, ha, r⟩ := dk_at hr rv g
      have : ks = [] := r
      subst this
      exact .inr (.inr ⟨[], ha, rfl⟩)
    · rename_i g
      cases e
      obtain ⟨a, ks, rfl, _, ha, r⟩ := dk_at hr rv g
      obtain ⟨q, s, rfl, _⟩ := r
      exact .inr (.inr ⟨_, ha, rfl⟩)
    · cases e
  · cases e
end
end Mini
set_option Elab.async false
set_option linter.all false
/-! M6: from the text's terms to mini's (the compiler), the context's facts. -/
namespace Mini
open PySem L2
/-- what the compiler knows: the block's scope, the slots' names, the program's defs by number, the error classes by number, which empty dict displays (by line) hold tuple keys -/
structure Cc where
  sc : Scope
  N : List Str
  fns : List Str
  exs : List (Str × Str)
  dts : List Nat
  kwt : List (Nat × List Str × List Nat)
def ixS : List Str → Str → Option Nat
  | [], _ => none
  | x :: r, y => if x = y then some 0 else (ixS r y).map (· + 1)
theorem ixS_at : ∀ {l : List Str} {y : Str} {i : Nat}, ixS l y = some i → l[i]? = some y
  | [], _, _, e => by cases e
  | x :: r, y, i, e => by
    unfold ixS at e
    split at e
    · rename_i h; cases e; simp [h]
    · cases q : ixS r y with
      | none => rw [q] at e; cases e
      | some j => rw [q] at e; cases e; simpa using ixS_at q
def okName (x : Str) : Bool := !(x == ("__debug__" : Str)) && !(x == ("__classdict__" : Str)) && !(x == ("__name__" : Str))
def tyNamesL : List (Str × Bt) := [("int", .int), ("bool", .bool), ("tuple", .tuple), ("list", .list), ("str", .str), ("dict", .dict)]
def cName (c : Cc) (x : Str) : Option M := if okName x = true then
    match c.sc.names.lookup x with
    | some .local | some .cell | some .free => (ixS c.N x).map M.var
    | some .globalImplicit => (tyNamesL.lookup x).map fun n => M.cst (.ty n)
    | _ => none
  else none
def cConst : Const → Option Vl
  | .none => some .non
  | .bool b => some (.bl b)
  | .int i => some (.int i)
  | .str x => some (.str x)
  | _ => none
def cBin : Operator → Option Op
  | .Add => some .add | .Sub => some .sub | .Mult => some .mul | .FloorDiv => some .fdiv | .Mod => some .mod | .Pow => some .pow | .LShift => some .shl | .RShift => some .shr | .BitAnd => some .band | .BitOr => some .bor | .BitXor => some .bxor
  | _ => none
def cCmp : CmpOp → Option Op
  | .Eq => some .eq | .NotEq => some .ne | .Lt => some .lt | .LtE => some .le | .Gt => some .gt | .GtE => some .ge | .In => some .inn | .NotIn => some .nin | .Is => some .isN | .IsNot => some .notN
def bfNames : List (Str × Bf) := [("len", .len), ("tuple", .tuple), ("list", .list), ("sorted", .sorted), ("int", .int), ("min", .min), ("max", .max), ("all", .all), ("any", .any), ("abs", .abs), ("isinstance", .isinst)]
def kwNames : List Keyword → Option (List Str)
  | [] => some []
  | k :: r => match k.arg, kwNames r with
    | some n, some l => some (n :: l)
    | _, _ => none
def kwVals (l : List Keyword) : List Expr := l.map (·.value)
def permOf (t : List (Nat × List Str × List Nat)) (k : Nat) (ks : List Str) : Option (List Nat) := match t with
  | [] => none
  | (k', ks', p) :: r => if k' = k ∧ ks' = ks then some p else permOf r k ks
theorem permOf_mem : ∀ {t : List (Nat × List Str × List Nat)} {k : Nat} {ks : List Str} {p : List Nat}, permOf t k ks = some p → (k, ks, p) ∈ t
  | [], _, _, _, h => by cases h
  | (k', ks', p') :: r, k, ks, p, h => by
    unfold permOf at h
    split at h
    · rename_i e; cases h; rw [e.1, e.2]; exact List.mem_cons_self
    · exact List.mem_cons_of_mem _ (permOf_mem h)
def notCall : Expr → Bool
  | .Call _ _ _ _ => false
  | _ => true
def mfNames : List (Str × Mf) := [("append", .append), ("extend", .extend), ("pop", .pop)]
def ownOf (N : List Str) : List (Str × NameKind) → List (Str × Nat)
  | [] => []
  | (x, k) :: r => match k, ixS N x with
    | .local, some i => (x, i) :: ownOf N r
    | .cell, some i => (x, i) :: ownOf N r
    | _, _ => ownOf N r
mutual
def gIn (own : List Nat) : G → Bool
  | .name i => own.contains i
  | .tup gs => gsIn own gs
def gsIn (own : List Nat) : List G → Bool
  | [] => true
  | g :: gs => gIn own g && gsIn own gs
end
/-- a target; own: names that may be cells are allowed in a def's own block -/
def cG (f : Nat) (c : Cc) (cells : Bool) (e : Expr) : Option G := match f with
  | 0 => none
  | f + 1 => match e with
    | .Name x _ => match c.sc.names.lookup x with
      | some .local => (ixS c.N x).map G.name
      | some .cell => if cells = true then (ixS c.N x).map G.name else none
      | _ => none
    | .Tuple es _ _ => (es.foldr (fun e r => match cG f c cells e, r with | some g, some gs => some (g :: gs) | _, _ => none) (some [])).map G.tup
    | _ => none
def blt (c : Cc) (x : Str) : Bool := decide (c.sc.names.lookup x = some .globalImplicit) && okName x
mutual
def cE (f : Nat) (c : Cc) (e : Expr) : Option M := match f with
  | 0 => none
  | f + 1 => match e with
    | .Name x _ => cName c x
    | .Constant k _ _ => (cConst k).map M.cst
    | .BinOp a o b _ => match cE f c a, cBin o, cE f c b with
      | some a, some o, some b => some (.op o a b)
      | _, _, _ => none
    | .UnaryOp o a _ => match o, cE f c a with
      | .Not, some a => some (.not a)
      | .USub, some a => some (.neg a)
      | .Invert, some a => some (.inv a)
      | _, _ => none
    | .BoolOp o vs p => match vs with
      | [] => none
      | [a] => (cE f c a).map M.one
      | a :: b :: r => match o, cE f c a, cE f c (.BoolOp o (b :: r) p) with
        | .And, some a, some b => some (.and a b)
        | .Or, some a, some b => some (.or a b)
        | _, _, _ => none
    | .Compare a os bs _ => match os, bs with
      | [o], [b] => if behindInMarks o b = true then none else match cE f c a, cCmp o, cE f c b with
        | some a, some o, some b => some (.op o a b)
        | _, _, _ => none
      | [o1, o2], [b, d] => if lastMarks [o1, o2] [b, d] = true then none else match cE f c a, cCmp o1, cE f c b, cCmp o2, cE f c d with
        | some a, some o1, some b, some o2, some d => some (.chain o1 o2 a b d)
        | _, _, _, _, _ => none
      | _, _ => none
    | .IfExp t a b _ => match cT f c t, cE f c a, cE f c b with
      | some t, some a, some b => some (.ite t a b)
      | _, _, _ => none
    | .Tuple es _ _ => (cEs f c es).map M.tup
    | .List es _ => (cEs f c es).map M.lst
    | .Subscript a i _ => match i with
      | .Slice lo hi none _ => match cE f c a, cO f c lo, cO f c hi with
        | some a, some l, some h => some (.slice a l h)
        | _, _, _ => none
      | i => match cE f c a, cE f c i with
        | some a, some i => some (.op .item a i)
        | _, _ => none
    | .Call (.Name x _) es kws _ => if blt c x = true then
        match ixS c.fns x with
        | some k => match kws with
          | [] => (cEs f c es).map fun ms => .call k ms
          | _ :: _ => match es, kwNames kws, cKs f c kws with
            | [], some ks, some ns => (permOf c.kwt k ks).map fun p => .callk k ns p
            | _, _, _ => none
        | none => match bfNames.lookup x, kws, es with
          | some b, [], e :: es => match e, es with
            | .Call (.Name y _) [a] [] _, [] => if (blt c y = true ∧ ixS c.fns y = none ∧ y = ("set" : Str)) then
                match b, cE f c a with
                | .len, some m => some (.us .lenset m)
                | .sorted, some m => some (.us .sortset m)
                | _, _ => none
              else (cEs f c (e :: es)).map fun ms => .bf b ms
            | _, _ => (cEs f c (e :: es)).map fun ms => .bf b ms
          | _, _, _ => none
      else none
    | .Call (.Attribute o m ap) es kws cp => match kws, mfNames.lookup m, cE f c o, cEs f c es with
      | [], some b, some o', some ms => if (ap.endLine == cp.line) = true ∧ es.length < 29 ∧ notCall o = true then some (.mf b o' ms) else none
      | _, _, _, _ => none
    | .ListComp elt [⟨tg, it, ifs, 0⟩] scope _ =>
      let own := ownOf c.N scope.names
      let c' : Cc := { c with sc := relS scope c.sc }
      if blkC c.N c.sc scope own = true then
        match cW f c tg it, cG f c' false tg, cTs f c' ifs, cE f c' elt with
        | some w, some g, some ts, some e => if gIn (own.map (·.2)) g = true ∧ ts.length < 2 then some (.lc w g ts e (own.map (·.2))) else none
        | _, _, _, _ => none
      else none
    | .DictComp kx vx [⟨tg, it, ifs, 0⟩] scope _ =>
      let own := ownOf c.N scope.names
      let c' : Cc := { c with sc := relS scope c.sc }
      if blkC c.N c.sc scope own = true then
        match cW f c tg it, cG f c' false tg, cTs f c' ifs, cE f c' kx, cE f c' vx with
        | some w, some g, some ts, some k, some e => if gIn (own.map (·.2)) g = true ∧ ts.length < 2 then some (.dc w g ts k e (own.map (·.2))) else none
        | _, _, _, _, _ => none
      else none
    | _ => none
def cEs (f : Nat) (c : Cc) (es : List Expr) : Option (List M) := match f with
  | 0 => none
  | f + 1 => match es with
    | [] => some []
    | e :: r => match cE f c e, cEs f c r with
      | some m, some ms => some (m :: ms)
      | _, _ => none
def cKs (f : Nat) (c : Cc) (es : List Keyword) : Option (List M) := match f with
  | 0 => none
  | f + 1 => match es with
    | [] => some []
    | e :: r => match cE f c e.value, cKs f c r with
      | some m, some ms => some (m :: ms)
      | _, _ => none
def cO (f : Nat) (c : Cc) (o : Option Expr) : Option (Option M) := match f with
  | 0 => none
  | f + 1 => match o with
    | none => some none
    | some e => (cE f c e).map some
def cT (f : Nat) (c : Cc) (e : Expr) : Option T := match f with
  | 0 => none
  | f + 1 => match e with
    | .UnaryOp .Not a _ => (cT f c a).map T.not
    | .BoolOp o vs p => match vs with
      | [] => none
      | [a] => (cT f c a).map T.one
      | a :: b :: r => match o, cT f c a, cT f c (.BoolOp o (b :: r) p) with
        | .And, some a, some b => some (.and a b)
        | .Or, some a, some b => some (.or a b)
        | _, _, _ => none
    | .Compare a os bs _ => match os, bs with
      | [o], [b] => if behindInMarks o b = true then none else match cE f c a, cCmp o, cE f c b with
        | some a, some o, some b => some (.cmp o a b)
        | _, _, _ => none
      | [o1, o2], [b, d] => if lastMarks [o1, o2] [b, d] = true then none else match cE f c a, cCmp o1, cE f c b, cCmp o2, cE f c d with
        | some a, some o1, some b, some o2, some d => some (.chain o1 o2 a b d)
        | _, _, _, _, _ => none
      | _, _ => none
    | .IfExp _ _ _ _ => none
    | e => (cE f c e).map T.val
def cTs (f : Nat) (c : Cc) (es : List Expr) : Option (List T) := match f with
  | 0 => none
  | f + 1 => match es with
    | [] => some []
    | e :: r => match cT f c e, cTs f c r with
      | some m, some ms => some (m :: ms)
      | _, _ => none
def cW (f : Nat) (c : Cc) (tg e : Expr) : Option W := match f with
  | 0 => none
  | f + 1 => match e with
    | .Call (.Name x _) es [] _ => if blt c x = true ∧ ixS c.fns x = none then
        if x = ("range" : Str) then
          match es with
          | [_] => match cEs f c es with
            | some [a] => some (.rng1 a)
            | _ => none
          | [_, _] => match cEs f c es with
            | some [a, b] => some (.rng2 a b)
            | _ => none
          | _ => none
        else if x = ("enumerate" : Str) then
          match tg, es, cEs f c es with
          | .Tuple _ _ _, [_], some [a] => some (.enum a)
          | _, _, _ => none
        else if x = ("zip" : Str) then
          match tg, es, cEs f c es with
          | .Tuple _ _ _, [_, _], some [a, b] => some (.zip a b)
          | _, _, _ => none
        else (cE f c e).map W.seq
      else (cE f c e).map W.seq
    | .Set _ _ _ => none
    | e => (cE f c e).map W.seq
end
end Mini
set_option Elab.async false
set_option linter.all false
set_option maxRecDepth 100000
/-! M17: exception classes over LookupError with an own __init__ that keeps one field. -/
namespace Mini
open PySem L2 PySem.Spec PyProof.Rows
open PySem.W PySem.Calls PySem.HandSPX
open Builtin Builtin.ObjectAttr
abbrev leTail : List Value := [.type "LookupError", .type "Exception", .type "BaseException", .type "object"]
section
variable {prog : Program} {w : World} {A : Around} {E : Value → Shared → Prop} {R : Result → Shared → Prop} {hp : Heap} {g : Array GenState} {d : Drawn} {t : Nat} {os : OsState}
theorem le_pass (self : Value) (C : Addr) : refuseLoop self "__setattr__" (.ref C :: leTail) = pure () := by
  rw [refuseLoop_ref]
  exact PySem.F.store_LookupError.passes self
theorem exc_osaL {K : W.Frag} {name : Str} {tk : Tok} {v : Value} {x C : Addr} {fv : Array Value} {cd : ClassData}
    (X : K.In hp) (hx : hp.get? x = some { cls := .ref C, data := .fields fv }) (hcd : W.clsIn K C = some cd) (hm : cd.mro = .ref C :: leTail) (hh : cd.hasDict = true) (ha : W.findIn K (.ref C) name = some none)
    (hq : ∀ h' tk' dx, (∀ b o, b ≠ x → hp.get? b = some o → h'.get? b = some o) → hp.objs.size ≤ dx → dx ≠ x → h'.get? x = some { cls := .ref C, dict := some dx, data := .fields fv } →
      h'.Ns1 dx (fun y => if y = name then some v else none) → R (.ok (.ret .none)) ⟨h', g, d, tk', os⟩) :
    codeAny (model prog w) A (.call (.builtin "object.__setattr__") ⟨[.ref x, .str name tk, v], []⟩) R ⟨hp, g, d, t, os⟩ := by
  have I : W.InstAt hp x { cls := .ref C, data := .fields fv } C none := ⟨hx, rfl, rfl, trivial⟩
  have SF := F.store_object
  have ne : cd.mro.isEmpty = false := by rw [hm]; rfl
  have hob : cd.mro.contains (.type "object") = true := by
    rw [hm, List.contains_cons]
    have : leTail.contains (.type "object") = true := by decide +kernel
    rw [this, Bool.or_true]
  have hxs : x ≠ hp.objs.size := Nat.ne_of_lt (Heap.lt_size hx)
  have sub : W.Looks (model prog w) hp (isInstance (.ref x) (.type "object")) true := I.type.andThen (W.looks_mroIn X (by unfold W.mroIn; rw [hcd, Option.bind_some, if_neg (by rw [ne]; decide), hob]))
  refine codeAny_call_builtin SF.slot.plain SF.entry (@W.check_slot (model prog w) _ _ ⟨hp, g, d, t, os⟩ "object.__setattr__" "object" "__setattr__" (.ref x) [.str name tk, v] [] _ SF.kind SF.split sub (SF.args (.ref x) (.str name tk) v) ?_)
  have hmr : W.Looks (model prog w) hp (mroOf (.ref C)) cd.mro := (W.looks_clsIn X hcd).andThen .now
  have L3 : W.Looks (model prog w) hp (storeTaker? none) none := .now
  have hcls : W.Looks (model prog w) hp (classData C) cd := W.looks_clsIn X hcd
  rw [W.osa_eq, refuse_eq]
  refine wpAny_bind (wpAny_bind (I.type.at (wpAny_bind (hmr.at ?_))))
  rw [hm, le_pass]
  refine wpAny_pure (wpAny_bind (I.type.at (wpAny_bind ((W.looks_findIn X ha).at (wpAny_bind (L3.at ?_))))))
  show wpAny _ _ (storeInOwnDict (.ref x) (.ref C) (.str name tk) name v false) _ _ _
  obtain ⟨nm, bs, mro, ns, qn, hd, sn, sb, ab, col, del⟩ := cd
  dsimp only at hh
  subst hh
  unfold storeInOwnDict ownDictForStores
  repeat (first | with_reducible refine store_in_new ?_ ?_ | with_reducible refine wpAny_loadPart_at hx ?_ | with_reducible refine hcls.at ?_ | wp_step)
  · exact ⟨_, #[], _, (Heap.get?_update_ne _ _ _ _ hxs.symm).trans (Heap.get?_push_at rfl rfl), rfl, fun e he => absurd he (by simp), fun _ => rfl⟩
  · intro h' tk' hn' hs
    have hx₁ : (hp.push { cls := .type "dict", data := .dict #[] }).get? x = some { cls := .ref C, data := .fields fv } := Heap.get?_push_of_some _ hx
    refine hq h' tk' hp.objs.size (fun b o hb ho => ?_) (Nat.le_refl _) hxs.symm ?_ hn'
    · exact (hs.2 b (Nat.ne_of_lt (Heap.lt_size ho))).trans ((Heap.get?_update_ne _ _ _ _ hb).trans (Heap.get?_push_of_some _ ho))
    · exact (hs.2 x hxs).trans (Heap.get?_update_self _ hx₁ rfl)
end
/-- what the written part says of the class at C: over LookupError, one field f -/
structure OexL (K : PySem.W.Frag) (C : Addr) : Prop where
  cls : ∃ nm q N bs sn sub ab col dd k0 k1 k2 k3 k5, K.lookup C = some (excClassObj nm q C N bs leTail true sn sub ab col dd k0 k1 k2 k3 k5 "LookupError.__new__")
  sa : PySem.W.findIn K (.ref C) "__setattr__" = some (some (.builtin "object.__setattr__"))
  exC : PySem.W.subIn K (.ref C) (.type "BaseException") = some true
  tyC : PySem.W.typeIn K (.ref C) = some (.type "type")
  kC : PySem.W.keepIn K (.ref C) = true
section
variable {X : Cx} {pins : List (Addr × Obj)} {σ : L2.St} {H : Hp} {s : Shared} {a C dx : Addr} {f : Str} {y : V} {u : Value} {fs : List (Str × V)} {Q : Unit → Shared → Prop} {E : Value → Shared → Prop} {A : Around}
/-- self.f = y, the first one -/
theorem ost_newL (T : OexL X.K C) (I : Inv X pins σ H s) (e : H a = some (exo a C none)) (hno : PySem.W.findIn X.K (.ref C) f = some none) (ry : RelV y u)
    (h : ∀ dx s', H dx = none → dx ≠ a → Inv X pins σ (upd (upd H dx (exd dx [(f, y)])) a (exo a C (some dx))) s' → Q () s') : wpAny (model X.prog X.w) A (setAttr (.ref a) f u) Q E s := by
  obtain ⟨nm, q, N, bs, sn, sub, ab, col, dd, k0, k1, k2, k3, k5, hC⟩ := T.cls
  have hcl : PySem.W.clsIn X.K C = some { name := nm, bases := bs, mro := .ref C :: leTail, ns := N, qualname := q, hasDict := true, slotNames := sn, subclasses := sub, abstract := ab, collection := col, hasDel := false } := by unfold PySem.W.clsIn; rw [hC] <;> rfl
  obtain ⟨t1, ho⟩ := exo_at I.hok e
  obtain ⟨hp, g, d, t, os⟩ := s
  refine PySem.W.set_plain I.kIn (ox := { cls := .ref C, dict := none, data := .fields #[.ref t1, .none, .none, .none, .bool false, .none] }) (od := none) ⟨ho, rfl, rfl, trivial⟩ T.sa ?_
  refine exc_osaL I.kIn ho hcl rfl rfl hno (fun h' tk' dx k dn dne hx hn => ?_)
  have hnd : H dx = none := I.hok.fresh dn
  have nd : ∀ {b : Addr} {o : Obj}, hp.get? b = some o → b ≠ dx := fun {b o} q => Nat.ne_of_lt (Nat.lt_of_lt_of_le (Heap.lt_size q) dn)
  have na : ∀ {b : Addr}, H b = none → b ≠ a := fun {b} n z => by
    rw [z, e] at n
    cases n
  have Un1 : Un X.fs [] H (upd (upd H dx (exd dx [(f, y)])) a (exo a C (some dx))) hp h' := {
    keep := fun b o q n _ _ => k b o (na n) q
    slot := fun b o q n _ _ => ⟨o.slots, k b o (na n) q⟩
    free := fun b o q n _ => by rw [upd_ne (na n), upd_ne (nd q)]; exact n
    there := fun b o q _ => by
      by_cases hb : b = a
      · exact ⟨_, by rw [hb]; exact hx⟩
      · exact ⟨o, k b o hb q⟩
    tups := fun b xs q => by rw [upd_ne (at_ne e q exo_tup), upd_ne (ne_of_none q hnd)]; exact q
    frzs := fun b o v q => by rw [upd_ne (at_ne e q exo_frz), upd_ne (ne_of_none q hnd)]; exact q
    tbls := fun b ps q => ⟨#[], by rw [upd_ne (at_ne e q exo_tbl), upd_ne (ne_of_none q hnd), q]; simp⟩ }
  refine h dx _ hnd dne (I.un (t' := tk') Un1 fun b o q => ?_)
  by_cases hb : b = a
  · subst hb
    rw [upd_same] at q
    cases q
    exact exo_ok hx
  · rw [upd_ne hb] at q
    by_cases hd : b = dx
    · subst hd
      rw [upd_same] at q
      cases q
      exact exd_ok hn (relO_put (fs := []) ry fun g => True.intro)
    · rw [upd_ne hd] at q
      exact (I.hok b o q).stay (fun c v hc z => k c v (by
          rcases hc with hc | hc
          · rw [hc]
            exact hb
          · exact at_ne e hc exo_own) z)
        (fun c hc => by rw [upd_ne (at_ne e hc exo_own), upd_ne (ne_of_none hc hnd)]; exact hc) (fun c xs hc => by rw [upd_ne (at_ne e hc exo_tup), upd_ne (ne_of_none hc hnd)]; exact hc)
def tOstL (K : PySem.W.Frag) (f : Str) (to te : TE) : TS := fun D σ H => te σ H fun y H1 => to σ H1 fun x H2 => ∃ a C : Addr, x = .ref a ∧ OexL K C ∧ PySem.W.findIn K (.ref C) f = some none ∧
  (H2 a = some (exo a C none) ∧ ∀ dx, H2 dx = none → dx ≠ a → D.nx σ (upd (upd H2 dx (exd dx [(f, y)])) a (exo a C (some dx))))
theorem ps_ostL {o e : Expr} {p' pos : Pos} {to te : TE} (ho : PE X o to) (he : PE X e te) (hs : swapsWith e (some (.Attribute o f p')) pos.line X.env = pure false := by rfl) : PS X (.Assign [.Attribute o f p'] e pos) (tOstL X.K f to te) := by
  refine ⟨fun pins s σ H D I h => ?_⟩
  refine plainObj_wpAny_Assign_Attribute (thn (he.run pins s σ H _ I h) fun v s1 ⟨y, H1, I1, r1, q1⟩ => thn (ho.run pins s1 σ H1 _ I1 q1) fun u s2 ⟨x, H2, I2, r2, a, C, ex, T, hno, ea, q⟩ => ?_) hs
  subst ex
  obtain rfl : u = Value.ref a := r2
  exact ost_newL T I2 ea hno r1 fun dx s' n ne J => ⟨σ, _, J, q dx n ne⟩
/-- what __init__(self, v) does: self.f = v -/
def spI (K : PySem.W.Frag) (f : Str) : L2.Sp := fun vs H Q _ => ∃ (a C : Addr) (y : V), vs = [.ref a, y] ∧ OexL K C ∧ PySem.W.findIn K (.ref C) f = some none ∧ H a = some (exo a C none) ∧ ∀ dx, H dx = none → dx ≠ a → Q .non (upd (upd H dx (exd dx [(f, y)])) a (exo a C (some dx)))
theorem fn_init {P : Program} {w : World} {K : PySem.W.Frag} {mg : Str → Option Value} {base : Heap} {x qual self v f : Str} {st : Stmt} {fI : Addr} {fd : FuncData} {p1 p2 p3 p4 : Pos} (F : L2.Fun K x qual st fI fd) (S : FnScope [self, v] [self, v] (defScope st)) (hs : (defScope st).names.lookup self = some .local) (hv : (defScope st).names.lookup v = some .local)
    (k1 : (self == ("__debug__" : Str)) = false) (k2 : (self == ("__classdict__" : Str)) = false) (k3 : (v == ("__debug__" : Str)) = false) (k4 : (v == ("__classdict__" : Str)) = false) (hb : defBody st = [.Assign [.Attribute (.Name self p1) f p2] (.Name v p3) p4]) : FnOk P w K mg base (L2.CX P w) 1 fI fd [self, v] (spI K f) := by
  refine Fun.okX F S (fun vs H Q E q => by obtain ⟨a, C, y, rfl, _⟩ := q; rfl) fun cdv A outer s H vs Q E hr q => ?_
  obtain ⟨a, C, y, rfl, T, hno, ea, q⟩ := q
  rw [hb]
  refine ⟨_, pss_one (ps_ostL (pe_var (i := 0) rfl (.inl hs) k1 k2) (pe_var (i := 1) rfl (.inl hv) k3 k4)), ?_⟩
  exact ⟨y, rfl, V.ref a, rfl, a, C, rfl, T, hno, ea, q⟩
/-- C(e): the exception made -/
def tMkL (K : PySem.W.Frag) (C : Addr) (f : Str) (ta : TA) : L2.St → Hp → XK → Prop := fun σ H Q => ta σ H fun vs H1 => ∃ y, vs = [y] ∧ ∀ d, H1 d = none → Q (.ref C) (some d) (upd H1 d (.xd [(f, y)]))
theorem pmk_L {x : Str} {C fI : Addr} {fd : FuncData} {ps : List Str} {e : Expr} {ta : TA} {p pos : Pos} (T : OexL X.K C) (hno : PySem.W.findIn X.K (.ref C) f = some none) (iC : PySem.W.findIn X.K (.ref C) "__init__" = some (some (.ref fI))) (tI : PySem.W.typeIn X.K (.ref fI) = some (.type "function"))
    (F1 : FnOk X.prog X.w X.K X.mg X.base (L2.CX X.prog X.w) 1 fI fd ps (spI X.K f)) (hr : Room 2 X.A) (hb : Binds X.K fd ps []) (hg : Gl X x) (hm : X.mg x = some (.ref C)) (ha : PA X [e] ta)
    (hdb : (x == ("__debug__" : Str)) = false) (he : starEach [e] X.env = (false, eval e X.env) :: starEach [] X.env) :
    PMk X (.Call (.Name x p) [e] [] pos) (tMkL X.K C f ta) := by
  intro pins s σ H Q I h
  obtain ⟨nm, q, N, bs, sn, sub, ab, col, dd, k0, k1, k2, k3, k5, hC⟩ := T.cls
  refine wpAny_Call_Name_kw (ld_glob I hg hm ?_ hdb)
  refine PySem.W.callWith_K (h₀ := X.base) I.ok.mod.kin T.kC (thn (ha.run pos pins s σ H _ I h) fun us s1 ⟨vs, H1, I1, r1, y, ev, q1⟩ => ⟨I1.kIn, ?_⟩) he rfl
  show wpAny _ _ (call (.ref C) us) _ _ _
  subst ev
  obtain ⟨hp, g, dr, tk, os⟩ := s1
  have hsz : hp.objs.size ≤ hp.objs.size + 1 := Nat.le_succ _
  have hn : H1 (hp.objs.size + 1) = none := I1.hok.fresh hsz
  have kk : ∀ b o, hp.get? b = some o → ((hp.push (PySem.W.kdv_tup us)).push (PySem.HandSPX.excO C hp.objs.size)).get? b = some o := fun b o e => Heap.get?_push_of_some _ (Heap.get?_push_of_some _ e)
  have hget : ((hp.push (PySem.W.kdv_tup us)).push (PySem.HandSPX.excO C hp.objs.size)).get? (hp.objs.size + 1) = some (PySem.HandSPX.excO C hp.objs.size) := by heap_get
  have I2 : Inv X pins σ (upd H1 (hp.objs.size + 1) (exo (hp.objs.size + 1) C none)) ⟨(hp.push (PySem.W.kdv_tup us)).push (PySem.HandSPX.excO C hp.objs.size), g, dr, tk, os⟩ :=
    I1.laid (t' := tk) (a := hp.objs.size + 1) (o := exo (hp.objs.size + 1) C none) (h' := (hp.push (PySem.W.kdv_tup us)).push (PySem.HandSPX.excO C hp.objs.size)) kk hsz (exo_ok hget)
  have r2 : Vals (V.ref (hp.objs.size + 1) :: [y]) (Value.ref (hp.objs.size + 1) :: us) := .cons rfl r1
  have hus : us.length ≤ sizeLine := by
    rw [← Paired.length r1, sizeLine_eq]
    show 1 ≤ _
    omega
  have hq : spI X.K f (V.ref (hp.objs.size + 1) :: [y]) (upd H1 (hp.objs.size + 1) (exo (hp.objs.size + 1) C none))
      (fun v H2 => v = .non ∧ ∃ (d : Addr), H2 (hp.objs.size + 1) = some (exo (hp.objs.size + 1) C (some d)) ∧ H2 d = some (exd d [(f, y)]) ∧ H1 d = none ∧ upd (del H2 (hp.objs.size + 1)) d (.xd [(f, y)]) = upd H1 d (.xd [(f, y)])) (fun _ _ _ => False) := by
    refine ⟨_, C, y, rfl, T, hno, upd_same, fun dx hdx hne => ⟨rfl, dx, upd_same, ?_, ?_, ?_⟩⟩
    · rw [upd_ne hne, upd_same]
    · rw [upd_ne hne] at hdx; exact hdx
    · funext b
      by_cases hb : b = dx
      · rw [hb, upd_same, upd_same]
      · rw [upd_ne hb, upd_ne hb]
        by_cases hb2 : b = hp.objs.size + 1
        · rw [hb2, del_same, hn]
        · rw [del_ne hb2, upd_ne hb2, upd_ne hb, upd_ne hb2]
  have hl : (Value.ref (hp.objs.size + 1) :: us ++ []).length = ps.length := by
    have e := r2.length
    rw [F1.len _ _ _ _ hq] at e
    rw [List.append_nil]
    exact e.symm
  have bt := hb _ (Value.ref (hp.objs.size + 1) :: us) I2.kIn hl
  rw [List.append_nil] at bt
  have hT : ∀ Y : String, leTail.contains (.type Y) = leTail.contains (.type Y) := fun _ => rfl
  refine wpAny_call (PySem.HandSPX.call_own PySem.F.excBase_LookupError hT (I1.kIn _ _ hC) (PySem.W.looks_findIn I1.kIn iC) (fun self => PySem.W.bind_fn I1.kIn self tI) hus
    (codeAny_mono (F1.run _ X.stack _ _ ⟨Value.ref (hp.objs.size + 1) :: us, []⟩ (Value.ref (hp.objs.size + 1) :: us) _ _ (fun _ _ _ => False) ((hr.make C us []).mono (Nat.le_refl _)) (I2.env0.make C us []) bt r2 hq) fun r s' hq' => ?_))
  cases r with
  | error er => exact passL (X := X) pins σ _ _ er s' I2 hq'
  | ok fl =>
    cases fl with
    | ret u =>
      obtain ⟨v, H2, os2, bare2, un2, hok2, rv, ev, d, ea, ed, hd1, eH⟩ := hq'
      subst ev
      obtain ⟨h2, g2, d2, t2, os'⟩ := s'
      refine ⟨rv, mk_end (raises_own T.exC T.tyC) I1 hsz kk un2 hok2 os2 bare2 ea ed hd1 ?_⟩
      rw [eH]
      exact q1 d hd1
    | next => exact False.elim hq'
    | brk => exact False.elim hq'
    | cont => exact False.elim hq'
end
end Mini
set_option Elab.async false
set_option linter.all false
/-! M7: the compiled terms read as the text's: expressions. -/
namespace Mini
open PySem L2
theorem PE.imp {X : Cx} {e : Expr} {t t' : TE} (h : PE X e t) (i : ∀ σ H Q, t' σ H Q → t σ H Q) : PE X e t' := ⟨fun pins s σ H Q I q => h.run pins s σ H Q I (i σ H Q q)⟩
theorem PE.or {X : Cx} {e : Expr} {t u : TE} (h : PE X e t) (g : PE X e u) : PE X e (fun σ H Q => t σ H Q ∨ u σ H Q) := ⟨fun pins s σ H Q I q => by
  rcases q with q | q
  · exact h.run pins s σ H Q I q
  · exact g.run pins s σ H Q I q⟩
theorem PT.imp {X : Cx} {e : Expr} {t t' : TT} (h : PT X e t) (i : ∀ σ H Q, t' σ H Q → t σ H Q) : PT X e t' := ⟨fun pins s σ H Q I q => h.run pins s σ H Q I (i σ H Q q)⟩
theorem PW.imp {X : Cx} {e : Expr} {t t' : TT} (h : PW X e t) (i : ∀ σ H Q, t' σ H Q → t σ H Q) : PW X e t' := ⟨fun wh pins s σ H Q I q => h.run wh pins s σ H Q I (i σ H Q q)⟩
theorem PA.imp {X : Cx} {e : List Expr} {t t' : TA} (h : PA X e t) (i : ∀ σ H Q, t' σ H Q → t σ H Q) : PA X e t' := ⟨fun pos pins s σ H Q I q => h.run pos pins s σ H Q I (i σ H Q q)⟩
theorem PS.imp {X : Cx} {e : Stmt} {t t' : TS} (h : PS X e t) (i : ∀ D σ H, t' D σ H → t D σ H) : PS X e t' := ⟨fun pins s σ H D I q => h.run pins s σ H D I (i D σ H q)⟩
theorem PSs.imp {X : Cx} {e : List Stmt} {t t' : TS} (h : PSs X e t) (i : ∀ D σ H, t' D σ H → t D σ H) : PSs X e t' := ⟨fun pins s σ H D I q => h.run pins s σ H D I (i D σ H q)⟩
theorem PI.imp {X : Cx} {tg e : Expr} {t t' : TI} (h : PI X tg e t) (i : ∀ σ H Q, t' σ H Q → t σ H Q) : PI X tg e t' := ⟨fun pins s σ H Q I q => h.run pins s σ H Q I (i σ H Q q)⟩
theorem PI.or {X : Cx} {tg e : Expr} {t u : TI} (h : PI X tg e t) (g : PI X tg e u) : PI X tg e (fun σ H Q => t σ H Q ∨ u σ H Q) := ⟨fun pins s σ H Q I q => by
  rcases q with q | q
  · exact h.run pins s σ H Q I q
  · exact g.run pins s σ H Q I q⟩
def bnames : List Str := ["int", "bool", "tuple", "list", "str", "dict", "len", "sorted", "min", "max", "sum", "all", "any", "abs", "isinstance", "set", "range", "zip", "enumerate"]
structure XC (G : Gp) (c : Cc) (d : Nat) (W : WX) (X : Cx) : Prop where
  prog : X.prog = G.P
  w : X.w = G.w
  K : X.K = G.K
  mg : X.mg = G.mg
  base : X.base = G.base
  N : X.N = c.N
  nd : X.N.Nodup
  sc : X.env.scope = c.sc
  room : Room (d + 2) X.A
  calm : X.calm = true
  takes : Takes X W
def spF (G : Gp) (tab : Nat → Option Fd) (d k : Nat) : L2.Sp := fun vs H Q E => ∃ ρ h ws, HR ρ h H ∧ RVs ρ H ws vs ∧ Sp G (fun cls d _ H => E cls d H) [] RV ρ H (callD tab d k ws h) Q
/-- what is told of an exception class of the program's, with a field f -/
structure ExF (G : Gp) (C : Addr) (x f : Str) : Prop where
  mg : G.mg x = some (.ref C)
  T : OexL G.K C
  no : PySem.W.findIn G.K (.ref C) f = some none
  xf : XfC G.K C
  ex : PySem.W.exmOne G.K (.ref C) (.ref C) = some true
  ini : ∃ fI fd ps, PySem.W.findIn G.K (.ref C) "__init__" = some (some (.ref fI)) ∧ PySem.W.typeIn G.K (.ref fI) = some (.type "function") ∧ Binds G.K fd ps [] ∧ FnOk G.P G.w G.K G.mg G.base (L2.CX G.P G.w) 1 fI fd ps (spI G.K f)
/-- keywords' values in the parameters' order -/
def gOf (perm : List Nat) : List Value → List Value → List Value := fun us ws => if us.length = 0 ∧ ws.length = perm.length then perm.map fun i => ws.getD i .none else []
def gOfV (perm : List Nat) : List V → List V → List V := fun us ws => if us.length = 0 ∧ ws.length = perm.length then perm.map fun i => ws.getD i .non else []
structure GFn (G : Gp) (tab : Nat → Option Fd) (fns : List Str) (kwt : List (Nat × List Str × List Nat)) (exs : List (Str × Str)) (d : Nat) : Prop where
  fn : ∀ k x, fns[k]? = some x → ∃ a fd ps, G.mg x = some (.ref a) ∧ PySem.W.keepIn G.K (.ref a) = true ∧ Binds G.K fd ps [] ∧ FnOk G.P G.w G.K G.mg G.base (L2.CX G.P G.w) (d + 2) a fd ps (spF G tab d k) ∧ ∀ ks perm, (k, ks, perm) ∈ kwt → KBinds G.K fd ps ks (gOf perm) (gOfV perm)
  blt : ∀ x ∈ bnames, G.mg x = none
  exc : ∀ i x f, exs[i]? = some (x, f) → ∃ C, G.ctab i = some (C, some f) ∧ ExF G C x f
def NoStar (e : Expr) : Prop := ∀ x p, e ≠ .Starred x p
theorem star_ne {e : Expr} {es : List Expr} {env : PySem.Env} (h : NoStar e) : starEach (e :: es) env = (false, eval e env) :: starEach es env := by
  cases e <;> first | rfl | exact absurd rfl (h _ _)
theorem stars_ne {pos : Pos} {env : PySem.Env} : ∀ {es : List Expr}, (∀ e ∈ es, NoStar e) → (backTo pos (starEach es env)).any (·.1) = false
  | [], _ => rfl
  | e :: es, h => by
    rw [star_ne (h e List.mem_cons_self)]
    show (false || (backTo pos (starEach es env)).any (·.1)) = false
    rw [stars_ne fun x hx => h x (List.mem_cons_of_mem _ hx)]; rfl
theorem stars_all {pos : Pos} {env : PySem.Env} : ∀ {es : List Expr}, (∀ e ∈ es, NoStar e) → (backTo pos (starEach es env)).all (fun x => !x.1) = true
  | [], _ => rfl
  | e :: es, h => by
    rw [star_ne (h e List.mem_cons_self)]
    show (!false && (backTo pos (starEach es env)).all (fun x => !x.1)) = true
    rw [stars_all fun x hx => h x (List.mem_cons_of_mem _ hx)]; rfl
theorem cE_star {f : Nat} {c : Cc} {e : Expr} {m : M} (h : cE f c e = some m) : NoStar e := by
  intro x p z
  subst z
  cases f with
  | zero => unfold cE at h; cases h
  | succ f => unfold cE at h; cases h
theorem cEs_star : ∀ {es : List Expr} {f : Nat} {c : Cc} {ms : List M}, cEs f c es = some ms → ∀ e ∈ es, NoStar e
  | [], _, _, _, _, e, he => by cases he
  | x :: es, f, c, ms, h, e, he => by
    cases f with
    | zero => unfold cEs at h; cases h
    | succ f =>
      unfold cEs at h
      dsimp only at h
      split at h
      · rename_i m ms' h1 h2
        rcases List.mem_cons.mp he with z | z
        · rw [z]; exact cE_star h1
        · exact cEs_star h2 e z
      · cases h
section
variable {G : Gp} {c : Cc} {d : Nat} {W : WX} {X : Cx}
theorem Gl_of (x : XC G c d W X) {n : Str} (h : c.sc.names.lookup n = some .globalImplicit) : Gl X n := by
  show X.env.scope.names.lookup n = _
  rw [x.sc]; exact h
theorem okName_is {n : Str} (h : okName n = true) : (n == ("__debug__" : Str)) = false ∧ (n == ("__classdict__" : Str)) = false ∧ n ≠ "__name__" := by
  unfold okName at h
  obtain ⟨h, h3⟩ := Bool.and_eq_true_iff.mp h
  obtain ⟨h1, h2⟩ := Bool.and_eq_true_iff.mp h
  refine ⟨by simpa using h1, by simpa using h2, fun z => ?_⟩
  rw [z] at h3; simp at h3
theorem ty_boot {n : Str} {t : Bt} (h : tyNamesL.lookup n = some t) : n ∈ bnames ∧ bootBuiltins n = some (.type t.name) := by
  unfold tyNamesL at h
  simp only [List.lookup] at h
  split at h
  · rename_i z; have z := eq_of_beq z; subst z; cases h; exact ⟨by decide +kernel, by decide +kernel⟩
  split at h
  · rename_i z; have z := eq_of_beq z; subst z; cases h; exact ⟨by decide +kernel, by decide +kernel⟩
  split at h
  · rename_i z; have z := eq_of_beq z; subst z; cases h; exact ⟨by decide +kernel, by decide +kernel⟩
  split at h
  · rename_i z; have z := eq_of_beq z; subst z; cases h; exact ⟨by decide +kernel, by decide +kernel⟩
  split at h
  · rename_i z; have z := eq_of_beq z; subst z; cases h; exact ⟨by decide +kernel, by decide +kernel⟩
  split at h
  · rename_i z; have z := eq_of_beq z; subst z; cases h; exact ⟨by decide +kernel, by decide +kernel⟩
  cases h
/-! ### names, constants -/
theorem s_var (r : Ev) {i : Nat} {e : Expr} (h : PE X e (tVar i)) {call : Fn} : PE X e (tE G W ((step call r).e (.var i))) := by
  refine PE.imp h fun σ H Q q => ?_
  obtain ⟨ρ, h, s, hr, rs, sp⟩ := q
  change Sp G W σ RV ρ H (match lget s i with | some (some v) => R.ok v h | _ => R.no) Q at sp
  rw [lget_eq] at sp
  split at sp
  · rename_i v e
    obtain ⟨x, h1, h2⟩ := rs.at_ i v e
    exact ⟨x, h1, sp_ok hr h2 sp⟩
  · exact sp.elim
theorem s_cst (r : Ev) {v : Vl} {x : V} {e : Expr} (h : PE X e (tC x)) (hv : ∀ ρ H, RV ρ H v x) {call : Fn} : PE X e (tE G W ((step call r).e (.cst v))) := by
  refine PE.imp h fun σ H Q q => ?_
  obtain ⟨ρ, h, s, hr, rs, sp⟩ := q
  exact sp_ok hr (hv ρ H) sp
theorem s_name {call : Fn} (r : Ev) (x : XC G c d W X) (hb : ∀ x ∈ bnames, G.mg x = none) {n : Str} {p : Pos} {m : M} (h : cName c n = some m) : PE X (.Name n p) (tE G W ((step call r).e m)) := by
  unfold cName at h
  split at h
  · rename_i ok
    obtain ⟨k1, k2, k3⟩ := okName_is ok
    have loc : ∀ {i : Nat}, ixS c.N n = some i → Vis X.env.scope n → PE X (.Name n p) (tE G W ((step call r).e (.var i))) := fun {i} e v =>
      s_var r (pe_var (by rw [x.N]; exact ixS_at e) v k1 k2)
    split at h
    · rename_i q
      cases e : ixS c.N n with
      | none => rw [e] at h; cases h
      | some i => rw [e] at h; cases h; exact loc e (.inl (by rw [x.sc]; exact q))
    · rename_i q
      cases e : ixS c.N n with
      | none => rw [e] at h; cases h
      | some i => rw [e] at h; cases h; exact loc e (.inr (.inl (by rw [x.sc]; exact q)))
    · rename_i q
      cases e : ixS c.N n with
      | none => rw [e] at h; cases h
      | some i => rw [e] at h; cases h; exact loc e (.inr (.inr (by rw [x.sc]; exact q)))
    · rename_i q
      cases e : tyNamesL.lookup n with
      | none => rw [e] at h; cases h
      | some t =>
        rw [e] at h; cases h
        obtain ⟨b1, b2⟩ := ty_boot e
        exact s_cst r (pe_bltn (v := .ty t.name) (Gl_of x q) (by rw [x.mg]; exact hb n b1) b2 rfl k3 k1) fun _ _ => RV.ty_of
    · cases h
  · cases h
theorem s_const {call : Fn} (r : Ev) {k : Const} {j : Nat} {p : Pos} {v : Vl} (h : cConst k = some v) : PE X (.Constant k j p) (tE G W ((step call r).e (.cst v))) := by
  cases k with
  | none => cases h; exact s_cst r pe_non fun _ _ => RV.non_of
  | bool b => cases h; exact s_cst r pe_bl fun _ _ => RV.bl_of
  | int i => cases h; exact s_cst r pe_int fun _ _ => RV.int_of
  | str x => cases h; exact s_cst r pe_str fun _ _ => RV.str_of
  | _ => cases h
/-! ### operators -/
theorem s_op {call : Fn} {r : Ev} {a b e : Expr} {o : Op} {ma mb : M} {rr : R2} (hp : ∀ ta tb, PE X a ta → PE X b tb → PE X e (tOp rr ta tb)) (hq : ∀ x y H Q, opQ X.K o x y H Q → rr x y H Q) (ha : PE X a (tE G W (r.e ma))) (hb : PE X b (tE G W (r.e mb))) :
    PE X e (tE G W ((step call r).e (.op o ma mb))) := by
  refine PE.imp (hp _ _ ha hb) fun σ H Q q => ?_
  obtain ⟨ρ, h, s, hr, rs, sp⟩ := q
  refine tR_bind hr rs sp fun v ρ1 H1 x h1 e1 hr1 rs1 rv1 sp1 => ?_
  refine tR_bind hr1 rs1 sp1 fun w ρ2 H2 y h2 e2 hr2 rs2 rv2 sp2 => ?_
  exact hq _ _ _ _ (op_s hr2 (RV.mono e2 _ _ rv1) rv2 sp2)
theorem s_chain {call : Fn} {r : Ev} {a b c' e : Expr} {o1 o2 : Op} {ma mb mc : M} (hp : ∀ ta tb tc, PE X a ta → PE X b tb → PE X c' tc → PE X e (tChain (opQ X.K o1) (opQ X.K o2) ta tb tc))
    (ha : PE X a (tE G W (r.e ma))) (hb : PE X b (tE G W (r.e mb))) (hc : PE X c' (tE G W (r.e mc))) : PE X e (tE G W ((step call r).e (.chain o1 o2 ma mb mc))) := by
  refine PE.imp (hp _ _ _ ha hb hc) fun σ H Q q => ?_
  obtain ⟨ρ, h, s, hr, rs, sp⟩ := q
  refine tR_bind hr rs sp fun v ρ1 H1 x h1 e1 hr1 rs1 rv1 sp1 => ?_
  refine tR_bind hr1 rs1 sp1 fun w ρ2 H2 y h2 e2 hr2 rs2 rv2 sp2 => ?_
  refine op_s (G := G) (W := W) (σ := σ) (o := o1) hr2 (RV.mono e2 _ _ rv1) rv2 ?_
  cases z : opE o1 v w h2 with
  | no => rw [z] at sp2; exact sp2
  | ex c p h3 => rw [z] at sp2; exact sp2
  | ok u h3 =>
    rw [z] at sp2
    intro ρ3 H3 u' e3 hr3 ru
    have sp3 := Sp.mono e3 sp2
    dsimp only [R.bind] at sp3
    split at sp3
    · refine ⟨true, ru.bl_inv, ?_⟩
      rw [if_pos rfl]
      refine tR_bind hr3 (rs2.mono e3) sp3 fun w2 ρ4 H4 y2 h4 e4 hr4 rs4 rv4 sp4 => ?_
      exact op_s hr4 (RV.mono (e3.trans e4) _ _ rv2) rv4 sp4
    · refine ⟨false, ru.bl_inv, ?_⟩
      rw [if_neg Bool.false_ne_true]
      exact sp_ok hr3 RV.bl_of sp3
    · exact sp3.elim
theorem s_neg {call : Fn} {r : Ev} {a : Expr} {ma : M} {p : Pos} (ha : PE X a (tE G W (r.e ma))) : PE X (.UnaryOp .USub a p) (tE G W ((step call r).e (.neg ma))) := by
  refine PE.imp (pe_un un_neg ha) fun σ H Q q => ?_
  obtain ⟨ρ, h, s, hr, rs, sp⟩ := q
  refine tR_bind hr rs sp fun v ρ1 H1 x h1 e1 hr1 rs1 rv1 sp1 => ?_
  split at sp1
  · exact ⟨_, rv1.int_inv, sp_ok hr1 RV.int_of sp1⟩
  · exact sp1.elim
theorem s_inv {call : Fn} {r : Ev} {a : Expr} {ma : M} {p : Pos} (ha : PE X a (tE G W (r.e ma))) : PE X (.UnaryOp .Invert a p) (tE G W ((step call r).e (.inv ma))) := by
  refine PE.imp (pe_un un_inv ha) fun σ H Q q => ?_
  obtain ⟨ρ, h, s, hr, rs, sp⟩ := q
  refine tR_bind hr rs sp fun v ρ1 H1 x h1 e1 hr1 rs1 rv1 sp1 => ?_
  split at sp1
  · exact ⟨_, rv1.int_inv, sp_ok hr1 RV.int_of sp1⟩
  · exact sp1.elim
theorem s_not {call : Fn} {r : Ev} {a : Expr} {ma : M} {p : Pos} (ha : PE X a (tE G W (r.e ma))) : PE X (.UnaryOp .Not a p) (tE G W ((step call r).e (.not ma))) := by
  refine PE.imp (pe_notT ha) fun σ H Q q => ?_
  obtain ⟨ρ, h, s, hr, rs, sp⟩ := q
  refine tR_bind hr rs sp fun v ρ1 H1 x h1 e1 hr1 rs1 rv1 sp1 => ?_
  split at sp1
  · rename_i b e
    exact ⟨b, tru_s hr1 rv1 e, sp_ok hr1 RV.bl_of sp1⟩
  · exact sp1.elim
theorem s_and {call : Fn} {r : Ev} {a b : Expr} {l : List Expr} {ma mb : M} {p : Pos} (ha : PE X a (tE G W (r.e ma))) (hb : PE X (.BoolOp .And (b :: l) p) (tE G W (r.e mb))) : PE X (.BoolOp .And (a :: b :: l) p) (tE G W ((step call r).e (.and ma mb))) := by
  refine PE.imp (pe_and ha hb) fun σ H Q q => ?_
  obtain ⟨ρ, h, s, hr, rs, sp⟩ := q
  refine tR_bind hr rs sp fun v ρ1 H1 x h1 e1 hr1 rs1 rv1 sp1 => ?_
  split at sp1
  · refine ⟨true, rv1.bl_inv, ?_⟩
    rw [if_pos rfl]
    exact ⟨ρ1, h1, s, hr1, rs1, sp1⟩
  · refine ⟨false, rv1.bl_inv, ?_⟩
    rw [if_neg Bool.false_ne_true]
    exact sp_ok hr1 RV.bl_of sp1
  · exact sp1.elim
theorem s_or {call : Fn} {r : Ev} {a b : Expr} {l : List Expr} {ma mb : M} {p : Pos} (ha : PE X a (tE G W (r.e ma))) (hb : PE X (.BoolOp .Or (b :: l) p) (tE G W (r.e mb))) : PE X (.BoolOp .Or (a :: b :: l) p) (tE G W ((step call r).e (.or ma mb))) := by
  refine PE.imp (pe_or ha hb) fun σ H Q q => ?_
  obtain ⟨ρ, h, s, hr, rs, sp⟩ := q
  refine tR_bind hr rs sp fun v ρ1 H1 x h1 e1 hr1 rs1 rv1 sp1 => ?_
  split at sp1
  · refine ⟨true, rv1.bl_inv, ?_⟩
    rw [if_pos rfl]
    exact sp_ok hr1 RV.bl_of sp1
  · refine ⟨false, rv1.bl_inv, ?_⟩
    rw [if_neg Bool.false_ne_true]
    exact ⟨ρ1, h1, s, hr1, rs1, sp1⟩
  · exact sp1.elim
theorem s_ite {call : Fn} {r : Ev} {t a b : Expr} {mt : T} {ma mb : M} {p : Pos} (ht : PT X t (tT G W (r.t mt))) (ha : PE X a (tE G W (r.e ma))) (hb : PE X b (tE G W (r.e mb))) : PE X (.IfExp t a b p) (tE G W ((step call r).e (.ite mt ma mb))) := by
  refine PE.imp (pe_ifExp ht ha hb) fun σ H Q q => ?_
  obtain ⟨ρ, h, s, hr, rs, sp⟩ := q
  refine tR_bind hr rs sp fun v ρ1 H1 x h1 e1 hr1 rs1 rv1 sp1 => ?_
  have e : v = x := rv1
  subst e
  cases v with
  | true => rw [if_pos rfl]; exact ⟨ρ1, h1, s, hr1, rs1, sp1⟩
  | false => rw [if_neg Bool.false_ne_true]; exact ⟨ρ1, h1, s, hr1, rs1, sp1⟩
/-! ### displays, slices -/
theorem s_tup {call : Fn} {r : Ev} {es : List Expr} {ms : List M} {k : Nat} {p : Pos} (ha : PA X es (tA G W (r.es ms))) : PE X (.Tuple es k p) (tE G W ((step call r).e (.tup ms))) := by
  refine PE.imp (pe_tup ha) fun σ H Q q => ?_
  obtain ⟨ρ, h, s, hr, rs, sp⟩ := q
  refine tR_bind hr rs sp fun v ρ1 H1 x h1 e1 hr1 rs1 rv1 sp1 => ?_
  exact nt_s hr1 rv1 sp1
theorem s_lst {call : Fn} {r : Ev} {es : List Expr} {ms : List M} {p : Pos} (ha : PA X es (tA G W (r.es ms))) : PE X (.List es p) (tE G W ((step call r).e (.lst ms))) := by
  refine PE.imp (pe_lst ha) fun σ H Q q => ?_
  obtain ⟨ρ, h, s, hr, rs, sp⟩ := q
  refine tR_bind hr rs sp fun v ρ1 H1 x h1 e1 hr1 rs1 rv1 sp1 => ?_
  exact nl_s hr1 rv1 sp1
def RO2 (_ : Rh) (_ : Hp) (a b : Option Int) : Prop := a = b
abbrev tO (G : Gp) (W : WX) (run : Env → Hx → R (Option Int)) : TO := tR G W RO2 run
theorem PO.imp {X : Cx} {e : Option Expr} {t t' : TO} (h : PO X e t) (i : ∀ σ H Q, t' σ H Q → t σ H Q) : PO X e t' := ⟨fun pins s σ H Q I q => h.run pins s σ H Q I (i σ H Q q)⟩
theorem s_opt {r : Ev} {f : Nat} {o : Option Expr} {mo : Option M} (h : cO f c o = some mo) (he : ∀ e m f, cE f c e = some m → PE X e (tE G W (r.e m))) : PO X o (tO G W (optI r mo)) := by
  cases f with
  | zero => unfold cO at h; cases h
  | succ f =>
    unfold cO at h
    cases o with
    | none =>
      cases h
      exact PO.imp po_none fun σ H Q q => by
        obtain ⟨ρ, h, s, hr, rs, sp⟩ := q
        exact sp ρ H none (Ex.refl _ _) hr rfl
    | some e =>
      dsimp only at h
      cases z : cE f c e with
      | none => rw [z] at h; cases h
      | some m =>
        rw [z] at h; cases h
        exact PO.imp (po_some (he e m f z)) fun σ H Q q => by
          obtain ⟨ρ, h, s, hr, rs, sp⟩ := q
          refine tR_bind hr rs sp fun v ρ1 H1 x h1 e1 hr1 rs1 rv1 sp1 => ?_
          split at sp1
          · rename_i i
            exact ⟨i, rv1.int_inv, sp1 ρ1 H1 (some i) (Ex.refl _ _) hr1 rfl⟩
          · exact sp1.elim
theorem SlR.or {r r' : V → Option Int → Option Int → Hp → VK → Prop} (h : SlR X r) (g : SlR X r') : SlR X (fun x a b H Q => r x a b H Q ∨ r' x a b H Q) := by
  intro pins s σ H x v vl vu lo hi sl Q I rx hs pl pu q
  rcases q with q | q
  · exact h pins s σ H x v vl vu lo hi sl Q I rx hs pl pu q
  · exact g pins s σ H x v vl vu lo hi sl Q I rx hs pl pu q
theorem s_slice {call : Fn} {r : Ev} {a : Expr} {lo hi : Option Expr} {ma : M} {ml mh : Option M} {p p2 : Pos} (ha : PE X a (tE G W (r.e ma))) (hl : PO X lo (tO G W (optI r ml))) (hh : PO X hi (tO G W (optI r mh))) :
    PE X (.Subscript a (.Slice lo hi none p2) p) (tE G W ((step call r).e (.slice ma ml mh))) := by
  refine PE.imp (pe_slice (SlR.or sl_tupA sl_list) ha hl hh) fun σ H Q q => ?_
  obtain ⟨ρ, h, s, hr, rs, sp⟩ := q
  refine tR_bind hr rs sp fun v ρ1 H1 x h1 e1 hr1 rs1 rv1 sp1 => ?_
  refine tR_bind hr1 rs1 sp1 fun l ρ2 H2 l' h2 e2 hr2 rs2 rl sp2 => ?_
  refine tR_bind hr2 rs2 sp2 fun u ρ3 H3 u' h3 e3 hr3 rs3 ru sp3 => ?_
  have el : l = l' := rl
  have eu : u = u' := ru
  subst el eu
  have rv3 := RV.mono (e2.trans e3) _ _ rv1
  split at sp3
  · rename_i xs
    obtain ⟨a', ys, rfl, ha', ra⟩ := rv3.tup_inv
    refine .inl ⟨a', ys, rfl, SqT.of ha', fun e => ?_, fun _ => nt_s' hr3 (cut_rv ra l u) sp3⟩
    have : cutV ys l u = ys := by
      unfold cutV
      rw [e.1, e.2]; simp
    refine sp_ok hr3 (RV.tup_of ha' ?_) sp3
    have z := cut_rv ra l u
    rwa [this] at z
  · rename_i n
    split at sp3
    · rename_i xs g
      obtain ⟨a', ys, rfl, ea, ha', ra⟩ := lst_at hr3 rv3 g
      exact .inr ⟨a', ys, rfl, SqL.of ha', (nl_s hr3 (cut_rv ra l u) sp3).2⟩
    · rename_i xs g
      obtain ⟨a', o, ys, rfl, ea, ha', ra⟩ := ro_at hr3 rv3 g
      exact .inr ⟨a', ys, rfl, .inl (.inr ⟨o, ha'⟩), (nl_s hr3 (cut_rv ra l u) sp3).2⟩
    · exact sp3.elim
  · exact sp3.elim
/-! ### arguments -/
theorem s_esnil {call : Fn} {r : Ev} : PA X [] (tA G W ((step call r).es [])) := PA.imp pa_nil fun σ H Q q => by
  obtain ⟨ρ, h, s, hr, rs, sp⟩ := q
  exact sp ρ H [] (Ex.refl _ _) hr RVs.nil
theorem s_escons {call : Fn} {r : Ev} {e : Expr} {es : List Expr} {m : M} {ms : List M} (hn : NoStar e) (he : PE X e (tE G W (r.e m))) (hs : PA X es (tA G W (r.es ms))) : PA X (e :: es) (tA G W ((step call r).es (m :: ms))) := by
  refine PA.imp (pa_cons he hs (star_ne hn)) fun σ H Q q => ?_
  obtain ⟨ρ, h, s, hr, rs, sp⟩ := q
  refine tR_bind hr rs sp fun v ρ1 H1 x h1 e1 hr1 rs1 rv1 sp1 => ?_
  refine tR_bind hr1 rs1 sp1 fun vs ρ2 H2 xs h2 e2 hr2 rs2 rv2 sp2 => ?_
  exact sp2 ρ2 H2 _ (Ex.refl _ _) hr2 (RVs.cons (RV.mono e2 _ _ rv1) rv2)
/-! ### tests -/
theorem s_tval {call : Fn} {r : Ev} {a : Expr} {m : M} (ha : PE X a (tE G W (r.e m))) (he : ∀ whole, isTrue a X.env whole = (do let v ← whole; standAt a.pos; holding [v] (truthy v))) : PT X a (tT G W ((step call r).t (.val m))) := by
  refine PT.imp (pt_truth ha he) fun σ H Q q => ?_
  obtain ⟨ρ, h, s, hr, rs, sp⟩ := q
  refine tR_bind hr rs sp fun v ρ1 H1 x h1 e1 hr1 rs1 rv1 sp1 => ?_
  split at sp1
  · rename_i b e
    exact ⟨b, tru_s hr1 rv1 e, sp1 ρ1 H1 b (Ex.refl _ _) hr1 rfl⟩
  · exact sp1.elim
theorem s_tnot {call : Fn} {r : Ev} {a : Expr} {t : T} {p : Pos} (ha : PT X a (tT G W (r.t t))) : PT X (.UnaryOp .Not a p) (tT G W ((step call r).t (.not t))) := by
  refine PT.imp (pt_not ha) fun σ H Q q => ?_
  obtain ⟨ρ, h, s, hr, rs, sp⟩ := q
  refine tR_bind hr rs sp fun v ρ1 H1 x h1 e1 hr1 rs1 rv1 sp1 => ?_
  have e : v = x := rv1
  subst e
  exact sp1 ρ1 H1 _ (Ex.refl _ _) hr1 rfl
theorem s_tcmp {call : Fn} {r : Ev} {a b : Expr} {o : Op} {b' : CmpOp} {ma mb : M} {p : Pos} (hu : X.A.units + 65 < cLine) (e : cmpOf o = some b') (hm : behindInMarks b' b = false) (ha : PE X a (tE G W (r.e ma))) (hb : PE X b (tE G W (r.e mb))) :
    PT X (.Compare a [b'] [b] p) (tT G W ((step call r).t (.cmp o ma mb))) := by
  refine PT.imp (pt_cmpR (cmp_ok hu e) ha hb hm) fun σ H Q q => ?_
  obtain ⟨ρ, h, s, hr, rs, sp⟩ := q
  refine tR_bind hr rs sp fun v ρ1 H1 x h1 e1 hr1 rs1 rv1 sp1 => ?_
  refine tR_bind hr1 rs1 sp1 fun w ρ2 H2 y h2 e2 hr2 rs2 rv2 sp2 => ?_
  refine op_s (G := G) (W := W) (σ := σ) (o := o) hr2 (RV.mono e2 _ _ rv1) rv2 ?_
  cases z : opE o v w h2 with
  | no => rw [z] at sp2; exact sp2
  | ex c p h3 => rw [z] at sp2; exact sp2
  | ok u h3 =>
    rw [z] at sp2
    intro ρ3 H3 u' e3 hr3 ru
    have sp3 := Sp.mono e3 sp2
    dsimp only [R.bind] at sp3
    split at sp3
    · rename_i b
      exact ⟨b, ru.bl_inv, sp3 ρ3 H3 b (Ex.refl _ _) hr3 rfl⟩
    · exact sp3.elim
theorem s_tchain {call : Fn} {r : Ev} {a b c' e : Expr} {o1 o2 : Op} {ma mb mc : M} (hp : ∀ ta tb tc, PE X a ta → PE X b tb → PE X c' tc → PT X e (tTest (tChain (opQ X.K o1) (opQ X.K o2) ta tb tc)))
    (ha : PE X a (tE G W (r.e ma))) (hb : PE X b (tE G W (r.e mb))) (hc : PE X c' (tE G W (r.e mc))) : PT X e (tT G W ((step call r).t (.chain o1 o2 ma mb mc))) := by
  refine PT.imp (hp _ _ _ ha hb hc) fun σ H Q q => ?_
  obtain ⟨ρ, h, s, hr, rs, sp⟩ := q
  refine tR_bind hr rs sp fun v ρ1 H1 x h1 e1 hr1 rs1 rv1 sp1 => ?_
  refine tR_bind hr1 rs1 sp1 fun w ρ2 H2 y h2 e2 hr2 rs2 rv2 sp2 => ?_
  refine op_s (G := G) (W := W) (σ := σ) (o := o1) hr2 (RV.mono e2 _ _ rv1) rv2 ?_
  cases z : opE o1 v w h2 with
  | no => rw [z] at sp2; exact sp2
  | ex c p h3 => rw [z] at sp2; exact sp2
  | ok u h3 =>
    rw [z] at sp2
    intro ρ3 H3 u' e3 hr3 ru
    have sp3 := Sp.mono e3 sp2
    dsimp only [R.bind] at sp3
    split at sp3
    · refine ⟨true, ru.bl_inv, ?_⟩
      rw [if_pos rfl]
      refine tR_bind hr3 (rs2.mono e3) sp3 fun w2 ρ4 H4 y2 h4 e4 hr4 rs4 rv4 sp4 => ?_
      refine op_s (G := G) (W := W) (σ := σ) (o := o2) hr4 (RV.mono (e3.trans e4) _ _ rv2) rv4 ?_
      cases z2 : opE o2 w w2 h4 with
      | no => rw [z2] at sp4; exact sp4
      | ex c p h3 => rw [z2] at sp4; exact sp4
      | ok u2 h5 =>
        rw [z2] at sp4
        intro ρ5 H5 u5 e5 hr5 ru5
        have sp5 := Sp.mono e5 sp4
        dsimp only at sp5
        split at sp5
        · rename_i b
          exact ⟨b, ru5.bl_inv, sp5 ρ5 H5 b (Ex.refl _ _) hr5 rfl⟩
        · exact sp5.elim
    · refine ⟨false, ru.bl_inv, ?_⟩
      rw [if_neg Bool.false_ne_true]
      exact ⟨false, rfl, sp3 ρ3 H3 false (Ex.refl _ _) hr3 rfl⟩
    · exact sp3.elim
theorem s_tand1 {call : Fn} {r : Ev} {a : Expr} {t : T} {p : Pos} (ha : PT X a (tT G W (r.t t))) : PW X (.BoolOp .And [a] p) (tT G W ((step call r).t (.one t))) := PW.imp (pw_and1 ha) fun σ H Q q => q
theorem s_tor1 {call : Fn} {r : Ev} {a : Expr} {t : T} {p : Pos} (ha : PT X a (tT G W (r.t t))) : PW X (.BoolOp .Or [a] p) (tT G W ((step call r).t (.one t))) := PW.imp (pw_or1 ha) fun σ H Q q => q
theorem s_tand {call : Fn} {r : Ev} {a b : Expr} {l : List Expr} {t u : T} {p : Pos} (ha : PT X a (tT G W (r.t t))) (hb : PW X (.BoolOp .And (b :: l) p) (tT G W (r.t u))) : PW X (.BoolOp .And (a :: b :: l) p) (tT G W ((step call r).t (.and t u))) := by
  refine PW.imp (pw_and ha hb) fun σ H Q q => ?_
  obtain ⟨ρ, h, s, hr, rs, sp⟩ := q
  refine tR_bind hr rs sp fun v ρ1 H1 x h1 e1 hr1 rs1 rv1 sp1 => ?_
  have e : v = x := rv1
  subst e
  cases v with
  | true => rw [if_pos rfl]; exact ⟨ρ1, h1, s, hr1, rs1, sp1⟩
  | false => rw [if_neg Bool.false_ne_true]; exact sp1 ρ1 H1 _ (Ex.refl _ _) hr1 rfl
theorem s_tor {call : Fn} {r : Ev} {a b : Expr} {l : List Expr} {t u : T} {p : Pos} (ha : PT X a (tT G W (r.t t))) (hb : PW X (.BoolOp .Or (b :: l) p) (tT G W (r.t u))) : PW X (.BoolOp .Or (a :: b :: l) p) (tT G W ((step call r).t (.or t u))) := by
  refine PW.imp (pw_or ha hb) fun σ H Q q => ?_
  obtain ⟨ρ, h, s, hr, rs, sp⟩ := q
  refine tR_bind hr rs sp fun v ρ1 H1 x h1 e1 hr1 rs1 rv1 sp1 => ?_
  have e : v = x := rv1
  subst e
  cases v with
  | true => rw [if_pos rfl]; exact sp1 ρ1 H1 _ (Ex.refl _ _) hr1 rfl
  | false => rw [if_neg Bool.false_ne_true]; exact ⟨ρ1, h1, s, hr1, rs1, sp1⟩
end
end Mini
set_option Elab.async false
set_option linter.all false
/-! M8a: set(xs), xs a list of ints. -/
namespace Mini
open PySem L2 PySem.Spec PyProof.Rows
section
variable {prog : Program} {w : World} {A : Around} {E : Value → Shared → Prop} {s : Shared}
set_option maxRecDepth 100000 in
set_option maxHeartbeats 3200000 in
theorem set_of_list {l : Addr} {items : Array Value} (ns : List Int) {Q : Value → Shared → Prop} (hh : A.handled = none) (hl : s.heap.IsList l items) (hit : IntsAre items.toList ns) (hb : ns.length + 1 < scanBound)
    (h : ∀ (h' : Heap) (tk c : Nat), SetR w h' s.heap.objs.size (fun j => decide (j ∈ ns)) c → c ≤ ns.length → (∀ b o, s.heap.get? b = some o → h'.get? b = some o) → Q (.ref s.heap.objs.size) { s with heap := h', toks := tk }) :
    wpAny (model prog w) A (call (.type "set") [.ref l]) Q E s := by
  have hisz : items.size = ns.length := by
    have q := IntsAre.length hit
    rw [Array.length_toList] at q
    exact q
  obtain ⟨c, tl, hmro⟩ := F.called_set.mro
  have hmade := F.called_set.made
  have hsub := F.called_set.sub
  refine wpAny_call (codeAny_of_tree ?_)
  show wpAny _ _ (callAny (.type "set") _) _ _ _
  refine wpAny_pure ⟨Code.quiet_builtin _ (by decide +kernel), codeAny_builtin F.entry_type_call ?_⟩
  rw [Around.under_plain (weight_type_call_type "set" [.ref l] []) rfl]
  have h1 := F.called_set.notType
  have h2 := F.called_set.canCreate
  have hct := F.typeCall_set_1 (.ref l)
  repeat (any_goals (first | assumption | wp_step))
  refine codeAny_mono (code_set_led1 (.ref l) (E := E) (Q₁ := fun obj s₁ => obj = .ref s.heap.objs.size ∧ s₁ = { s with heap := s.heap.push { cls := .type "set", dict := none, data := .set #[] 0 (.fresh 0 0 (!w.params.followText "set-order")) } }) ⟨rfl, rfl⟩) fun r s₁ hr => ?_
  cases r with
  | error e => exact hr
  | ok fl =>
    cases fl with
    | ret obj =>
      obtain ⟨rfl, rfl⟩ := hr
      have hS : (s.heap.push { cls := .type "set", dict := none, data := .set #[] 0 (.fresh 0 0 (!w.params.followText "set-order")) }).get? s.heap.objs.size = some { cls := .type "set", dict := none, data := .set #[] 0 (.fresh 0 0 (!w.params.followText "set-order")) } := Heap.get?_push_size _ rfl
      have hT : Shared.TypeIs { s with heap := s.heap.push { cls := .type "set", dict := none, data := .set #[] 0 (.fresh 0 0 (!w.params.followText "set-order")) } } (.ref s.heap.objs.size) "set" := ⟨_, hS, rfl⟩
      have hli := F.called_set.init.lookup
      have hbi := F.called_set.init.bind (.ref s.heap.objs.size)
      repeat (any_goals (first | assumption | wp_step))
      refine codeAny_mono (codeAny_call_builtin (R := wants (fun r s₂ => r = .none ∧ ∃ h' tk c, s₂ = { s with heap := h', toks := tk } ∧ SetR w h' s.heap.objs.size (fun j => decide (j ∈ ns)) c ∧ c ≤ ns.length ∧
          (∀ b o, s.heap.get? b = some o → h'.get? b = some o)) E) F.called_set.init.plain F.entry_set_init (check_set_init_1 hT ?_)) fun r₂ s₂ hr₂ => ?_
      · obtain ⟨ol, hol, hcl, nl, hdl⟩ := hl
        obtain ⟨ocls, odict, odata, oslots⟩ := ol
        simp only at hcl hdl
        subst hcl; subst hdl
        have hol' : (s.heap.push { cls := .type "set", dict := none, data := .set #[] 0 (.fresh 0 0 (!w.params.followText "set-order")) }).get? l = some { cls := .type "list", dict := odict, data := .seq items nl, slots := oslots } := Heap.get?_push_of_some _ hol
        have hsls := PySem.F.sub_list_set
        have hslf := PySem.F.sub_list_frozenset
        have hne : (Value.type "list" == Value.type "dict") = false := by decide
        have hl1 : (s.heap.push { cls := .type "set", dict := none, data := .set #[] 0 (.fresh 0 0 (!w.params.followText "set-order")) }).IsList l items := ⟨_, hol', rfl, nl, rfl⟩
        unfold Builtin.«set.__init__» noKeywords Builtin.Frozenset.updateFrom
        generalize hPI : pyIter = PI
        wp_walk
        subst hPI
        refine wpAny_pyIter_list hl1 ?_
        refine wpAny_bind (wpAny_runValue ?_)
        have hlS : l < s.heap.objs.size := Heap.lt_size hol
        have hh3 : A.in1.in1.in1.handled = none := by simp [hh]
        have hz1 : (s.heap.push { cls := .type "set", dict := none, data := .set #[] 0 (.fresh 0 0 (!w.params.followText "set-order")) }).objs.size = s.heap.objs.size + 1 := Heap.size_push ..
        have hneI : l ≠ (s.heap.push { cls := .type "set", dict := none, data := .set #[] 0 (.fresh 0 0 (!w.params.followText "set-order")) }).objs.size := by
          rw [Heap.size_push]; exact Nat.ne_of_lt (Nat.lt_succ_of_lt hlS)
        have hSf : s.heap.objs.size ∉ [(s.heap.push { cls := .type "set", dict := none, data := .set #[] 0 (.fresh 0 0 (!w.params.followText "set-order")) }).objs.size, l] := by
          rw [Heap.size_push]; simp only [List.mem_cons, List.mem_singleton, List.not_mem_nil, or_false, not_or]
          exact ⟨Nat.ne_of_lt (Nat.lt_succ_self _), Nat.ne_of_gt hlS⟩
        have hval : ∀ (i : Nat) (v : Value), items[i]? = some v → ∃ k t, ns[i]? = some k ∧ v = .int k t := fun i v hv => by
          have hi : i < ns.length := by rw [← hisz]; exact (Array.getElem?_eq_some_iff.mp hv).1
          obtain ⟨t, e⟩ := PyProof.Rows.IntsAre.int_at hit i v (by rw [Array.getElem?_toList]; exact hv)
          refine ⟨ns[i], t, List.getElem?_eq_getElem hi, ?_⟩
          rw [e, List.getD_eq_getElem?_getD, List.getElem?_eq_getElem hi] <;> rfl
        refine set_update_ints ((Walks.list hh3 _ l hneI items).toS) s.heap.objs.size
          hSf ns hisz hb hval (items.size - 0) 0 _ (by omega) (Nat.zero_le _)
          ⟨⟨_, Heap.get?_push_size _ rfl, rfl, rfl⟩, (hl1.push _)⟩ ?hS0 ?hR
        case hS0 =>
          have hget : ((s.heap.push { cls := .type "set", dict := none, data := .set #[] 0 (.fresh 0 0 (!w.params.followText "set-order")) }).push { cls := .type "list_iterator", data := .fields #[.ref l, .int 0 0] }).get? s.heap.objs.size
              = some { cls := .type "set", dict := none, data := .set #[] 0 (.fresh 0 0 (!w.params.followText "set-order")) } := Heap.get?_push_of_some _ hS
          exact ⟨0, Nat.le_refl 0, setR_new_at hget⟩
        case hR =>
          intro s' c' hm hc' hS'
          obtain ⟨h', g2, d', tk', os'⟩ := s'
          have eg : g2 = s.gens := hm.gens
          have ed : d' = s.drawn := hm.drawn
          have eo : os' = s.os := hm.os
          subst eg; subst ed; subst eo
          show wpAny _ _ _ _ _ _
          refine wpAny_pure ?_
          show wpAny _ _ (ret Value.none) _ _ _
          rw [hisz] at hc'
          refine wpAny_pure ⟨rfl, h', tk', c', rfl, hS', hc', fun b o e => ?_⟩
          have hb0 : b < s.heap.objs.size := Heap.lt_size e
          have hb1 : b ≠ s.heap.objs.size := Nat.ne_of_lt hb0
          have hb2 : b ≠ (s.heap.push { cls := .type "set", dict := none, data := .set #[] 0 (.fresh 0 0 (!w.params.followText "set-order")) }).objs.size := by
            rw [Heap.size_push]; exact Nat.ne_of_lt (Nat.lt_succ_of_lt hb0)
          exact hm.heap b o (by simp only [List.mem_cons, List.mem_singleton, List.not_mem_nil, or_false, not_or]; exact ⟨hb1, hb2⟩) (Heap.get?_push_of_some _ (Heap.get?_push_of_some _ e))
      · cases r₂ with
        | error e => exact hr₂
        | ok fl₂ =>
          cases fl₂ with
          | ret r =>
            obtain ⟨rfl, h', tk, c', rfl, hS', hc', hk'⟩ := hr₂
            repeat (any_goals (first | assumption | wp_step))
            exact h _ _ _ hS' hc' hk'
          | _ => exact hr₂.elim
    | _ => exact hr.elim
end
end Mini
set_option Elab.async false
set_option linter.all false
/-! M8b: enumerate of a tuple. -/
namespace Mini
open PySem L2 PySem.Spec PyProof.Rows
open Sem (wp)
open AutoSeq1 (wpAny_loadPart')
set_option maxHeartbeats 1000000 in
theorem meets_enum_begins {v : Value} {o : Obj} {H : Heap → Prop} (B : Begins v o H) :
    Meets (Builtin.«enumerate.__new__» ⟨[.type "enumerate", v], []⟩) (fun _ R s => H s.heap ∧
      R (.ok (.ret (.ref (s.heap.push o).objs.size))) { s with heap := (s.heap.push o).push { cls := .type "enumerate", data := .fields #[.none, .bool false, .ref s.heap.objs.size, rawInt 0, .none, .none] } }) :=
  .of_wp fun prog w A R s h => by
    obtain ⟨hp, g, d, tk, os⟩ := s; obtain ⟨h1, h⟩ := h
    have hsub := sub_enumerate
    have q1 : ∀ {A' : Around} {E : Value → Shared → Prop} {Q : Value → Shared → Prop}, Q (.ref hp.objs.size) ⟨hp.push o, g, d, tk, os⟩ → wpAny (model prog w) A' (pyIter v) Q E ⟨hp, g, d, tk, os⟩ :=
      fun q => B.iter prog w _ _ ⟨hp, g, d, tk, os⟩ _ h1 q
    wp_walk using q1
    refine wpAny_stack_any fun st => wpAny_pure ?_
    split
    · rename_i c _ _ _ _ _
      cases (c == Value.type "enumerate")
      · wp_walk using q1
        exact ⟨_, rfl, h⟩
      · wp_walk using q1
        exact ⟨_, rfl, h⟩
    · wp_walk using q1
      exact ⟨_, rfl, h⟩
section
variable {prog : Program} {w : World} {A : Around} {E : Value → Shared → Prop} {s : Shared}
theorem call_enum_begins {v : Value} {o : Obj} {H : Heap → Prop} {Q : Value → Shared → Prop} (B : Begins v o H) (h1 : H s.heap)
    (h : ∀ h', IsEnum h' (s.heap.objs.size + 1) s.heap.objs.size 0 .none → h'.get? s.heap.objs.size = some o → h'.objs.size = s.heap.objs.size + 2 →
      (∀ b o, s.heap.get? b = some o → h'.get? b = some o) → Q (.ref (s.heap.objs.size + 1)) { s with heap := h' }) :
    wpAny (model prog w) A (call (.type "enumerate") [v]) Q E s := by
  refine callType_new F.called_enumerate (by decide) (F.typeCall_enumerate_1 _) (F.newCall_enumerate_1 _) (fun obj => F.args_object_init_2 obj _) F.entry_enumerate_new
    (meets_enum_begins B) ⟨h1, ?_⟩
  have hz : (s.heap.push o).objs.size = s.heap.objs.size + 1 := Heap.size_push ..
  show _ ∧ _
  rw [hz]
  have he : IsEnum ((s.heap.push o).push { cls := .type "enumerate", data := .fields #[.none, .bool false, .ref s.heap.objs.size, rawInt 0, .none, .none] }) (s.heap.objs.size + 1) s.heap.objs.size 0 .none := by
    have := Heap.get?_push_size (s.heap.push o) (o := { cls := .type "enumerate", data := .fields #[.none, .bool false, .ref s.heap.objs.size, rawInt 0, .none, .none] }) rfl
    rw [hz] at this; exact this
  refine ⟨⟨_, he, rfl⟩, h _ he (Heap.get?_push_of_some _ (Heap.get?_push_size _ B.free)) (by rw [Heap.size_push, hz]) fun b o x => Heap.get?_push_of_some _ (Heap.get?_push_of_some _ x)⟩
theorem enum_endT {e it l : Addr} {i : Nat} {items : Array Value} {old : Value} {Q : Option Value → Shared → Prop} (hh : A.handled = none)
    (he : IsEnum s.heap e it i old) (hit : s.heap.IsTupleIter it l i) (hl : s.heap.IsTuple l items) (hx : items[i]? = none)
    (hQ : ∀ h', Heap.ExtBut it s.heap h' → Q none { s with heap := h' }) : wpAny (model prog w) A (pyNext (.ref e)) Q E s := by
  have hT : s.TypeIs (.ref e) "enumerate" := ⟨_, he, rfl⟩
  unfold pyNext
  refine wpAny_bind (wpAny_attempt (wpAny_callSpecial?_slot (name := Str.ofString "__next__") hT F.slot_enumerate_next
    (wpAny_call_entry F.slot_enumerate_next hT F.entry_enumerate_next ?_ (F.args_enumerate_next_1 _))))
  show wpAny _ _ (field (.ref e) 2 >>= _) _ _ _
  refine wpAny_bind (wpAny_field he rfl (x := .ref it) rfl ?_)
  refine wpAny_bind (wpAny_nextOf_tuple_end hh hit hl hx fun h' x he' hx' => ?_)
  obtain ⟨o, ho, hc⟩ := hx'
  refine wpAny_bind (wpAny_isInstance (T := "StopIteration") (b := true) ⟨o, ho, hc⟩ isSubtype_stop ?_)
  exact wpAny_pure (hQ _ he')
end
/-- the tuple at a, each item in a new pair -/
def IteT (K : PySem.W.Frag) (a : Addr) : It :=
  ⟨fun i H => ∃ (xs : List V) (x : V), SqT K H a xs ∧ xs[i]? = some x, fun i H v H' => ∃ T x, v = .ref T ∧ H T = none ∧ H' = upd H T (.tup [.int (i : Nat), x]) ∧ ∀ xs, SqT K H a xs → xs[i]? = some x, fun i H => ∃ xs : List V, SqT K H a xs ∧ xs.length ≤ i⟩
theorem turn_enumT {P : Program} {w : World} {K : PySem.W.Frag} {elts : List Expr} {kk : Nat} {tpos : Pos} (a e it : Addr) (ha : a ≠ it) (hea : e ≠ a) :
    Turn P w K (.Tuple elts kk tpos) (IteT K a) [e, it] e (fun i h => (∃ old, IsEnum h e it ((i : Nat) : Int) old) ∧ h.IsTupleIter it a i ∧ e ≠ it) where
  mem := by simp
  obj := fun i h st b hb => by
    obtain ⟨⟨old, he⟩, ⟨o, ho, hc, hd⟩, _⟩ := st
    have e' : b = e ∨ b = it := by simpa using hb
    rcases e' with z | z
    · rw [z]; exact ⟨_, he, fun v q => nomatch q⟩
    · rw [z]; exact ⟨o, ho, fun v q => by rw [hd] at q; cases q⟩
  keep := fun i h h' st k => let ⟨⟨old, he⟩, hi, hne⟩ := st; ⟨⟨old, k e (by simp) _ he⟩, hi.at fun o q => k it (by simp) o q, hne⟩
  item := by
    intro X hP hw hK hc i pins s σ H E I hf st hg
    subst hP hw hK
    obtain ⟨⟨old, he⟩, hit, hne⟩ := st
    obtain ⟨xs, x, hq, hx⟩ := hg
    obtain ⟨its, rv, p, hz⟩ := I.tuple hq
    obtain ⟨u, hu, ru⟩ := rv.get hx
    have hel : e < s.heap.objs.size := Heap.lt_size he
    have hil : it < s.heap.objs.size := by obtain ⟨_, q, _⟩ := hit; exact Heap.lt_size q
    have hil2 : i < its.toArray.size := by
      have := (List.getElem?_eq_some_iff.mp hu).1
      simpa using this
    refine wpAny_pyNext_enum_itemD (Draws.tuple (A := X.A.in1) (by simpa using I.ok.hd hc) it a ha its.toArray) he ⟨hit, p⟩ hil2 hne (by simp [hne, hea]) fun u' h' tk hP ho hst' hT hsz hk => ?_
    have hu' : u' = u := by
      have hP' : its.toArray[i]? = some u' := hP
      rw [List.getElem?_toArray, hu] at hP'
      exact (Option.some.inj hP').symm
    subst hu'
    obtain ⟨hit', _⟩ := hst'
    refine ⟨_, rfl, wpAny_letOwnedTupleGo_enum (s := { s with heap := h', toks := tk + 1 }) ho fun h'' he' sb => ?_⟩
    have hT2 : h''.get? s.heap.objs.size = some { cls := .type "tuple", data := .seq #[.int i tk, u'] } := (sb.2 _ (Nat.ne_of_gt hel)).trans hT
    have new : ObjOk X.prog X.w (upd H s.heap.objs.size (.tup [.int (i : Nat), x])) h'' s.heap.objs.size (.tup [.int (i : Nat), x]) :=
      ⟨by show 2 ≤ sizeLine; decide, [.int i tk, u'], .cons ⟨_, rfl⟩ (.cons ru .nil), ⟨_, hT2, rfl, _, rfl⟩⟩
    have I1 : Inv X pins σ (upd H s.heap.objs.size (.tup [.int (i : Nat), x])) { s with heap := h'', toks := tk + 1 } :=
      I.turnedNew (ch := [e, it]) (fun b ob hb q => (sb.2 b (fun z => hb (by simp [z]))).trans (hk b ob (fun z => hb (by simp [z])) (fun z => hb (by simp [z])) q)) hf (Nat.le_refl _) new
    refine ⟨.ref s.heap.objs.size, _, I1, rfl, ⟨_, x, rfl, I.hok.fresh (Nat.le_refl _), rfl, fun ys hy => by rw [I.tuple_inj hy hq]; exact hx⟩, ⟨⟨u', ?_⟩, hit'.at fun o q => (sb.2 it (Ne.symm hne)).trans q, hne⟩, fun b hb => ?_⟩
    · have e1 : ((i + 1 : Nat) : Int) = (i : Int) + 1 := by omega
      rw [e1]; exact he'
    · have hb' : b < s.heap.objs.size := by
        have e' : b = e ∨ b = it := by simpa using hb
        rcases e' with z | z
        · rw [z]; exact hel
        · rw [z]; exact hil
      rw [upd_ne (Nat.ne_of_lt hb')]
      exact (hf b hb).1
  done := by
    intro X hP hw hK hc i pins s σ H E I hf st hg
    subst hP hw hK
    obtain ⟨⟨old, he⟩, hit, hne⟩ := st
    obtain ⟨xs, hq, hx⟩ := hg
    obtain ⟨its, rv, p, hz⟩ := I.tuple hq
    obtain ⟨f0, f1, f2, f3, f4, f5⟩ := hf it (by simp)
    have hl := rv.length
    exact enum_endT (I.ok.hd hc) he hit p (by simp; omega) fun h' eb => ⟨rfl, I.turned (t' := s.toks) (fun b o hb q => eb b o hb q) f0 f1 f3 f4 f5⟩
  self := fun A i s Q E st h => let ⟨⟨_, he⟩, _⟩ := st; wpAny_pyIter_enum he h
def iEnumA (K : PySem.W.Frag) (ta : TA) : TI := fun σ H R => ta σ H fun vs H1 => ∃ a xs, vs = [.ref a] ∧ ((SqL K H1 a xs ∧ R (Ite K a) H1) ∨ (SqT K H1 a xs ∧ R (IteT K a) H1))
theorem pi_enumA {X : Cx} {e : Expr} {ta : TA} {p pos tpos : Pos} {elts : List Expr} {kk : Nat} (hg : Gl X "enumerate") (hm : X.mg "enumerate" = none) (ha : PA X [e] ta) (hs : starEach [e] X.env = [(false, eval e X.env)]) :
    PI X (.Tuple elts kk tpos) (.Call (.Name "enumerate" p) [e] [] pos) (iEnumA X.K ta) := by
  refine ⟨fun pins s σ H R I h => ?_⟩
  refine Call_ (ld_blt I hg hm boot_enumerate (PyProof.Rows.callWith_type1 (thn (ha.run pos pins s σ H _ I h) fun us s1 ⟨vs, H1, I1, r1, q1⟩ => ?_) hs rfl))
  obtain ⟨a, xs, ex, q1⟩ := q1
  subst ex
  have fresh2 : ∀ b ∈ [s1.heap.objs.size + 1, s1.heap.objs.size], FpOk X pins H1 b := fun b hb => by
    have e' : b = s1.heap.objs.size + 1 ∨ b = s1.heap.objs.size := by simpa using hb
    have hle : s1.heap.objs.size ≤ b := by
      rcases e' with z | z
      · rw [z]; exact Nat.le_add_right _ _
      · rw [z]; exact Nat.le_refl _
    exact I1.fpOk hle (I1.hok.fresh hle)
  cases r1 with
  | cons r rr =>
    cases rr
    cases r
    rcases q1 with ⟨hq, q⟩ | ⟨hq, q⟩
    · obtain ⟨its, rv, p', hz⟩ := I1.list hq
      refine call_enumerate_list p'.isList fun h' he hit hsz hk => wpAny_pyIter_enum he ?_
      have I2 : Inv X pins σ H1 { s1 with heap := h' } := I1.kept (t' := s1.toks) hk
      exact ⟨s1.heap.objs.size + 1, [s1.heap.objs.size + 1, s1.heap.objs.size], _, _, H1, rfl, I2, turn_enum a (s1.heap.objs.size + 1) s1.heap.objs.size, ⟨⟨.none, he⟩, hit, Nat.succ_ne_self _⟩, fresh2, q⟩
    · obtain ⟨its, rv, p', hz⟩ := I1.tuple hq
      have hlt : a < s1.heap.objs.size := by obtain ⟨o, ho, _⟩ := p'; exact Heap.lt_size ho
      refine call_enum_begins (begins_tuple a its.toArray) p' fun h' he hit hsz hk => wpAny_pyIter_enum he ?_
      have I2 : Inv X pins σ H1 { s1 with heap := h' } := I1.kept (t' := s1.toks) hk
      exact ⟨s1.heap.objs.size + 1, [s1.heap.objs.size + 1, s1.heap.objs.size], _, _, H1, rfl, I2, turn_enumT a (s1.heap.objs.size + 1) s1.heap.objs.size (Nat.ne_of_lt hlt) (Nat.ne_of_gt (Nat.lt_succ_of_lt hlt)), ⟨⟨.none, he⟩, ⟨_, hit, rfl, rfl⟩, Nat.succ_ne_self _⟩, fresh2, q⟩
/-- a list or a tuple, walked -/
def iSeq (K : PySem.W.Frag) (tl : TE) : TI := fun σ H R => tl σ H fun x H1 => ∃ a, x = .ref a ∧ (((∃ xs, SqL K H1 a xs) ∧ R (Itl K a) H1) ∨ ((∃ xs, SqT K H1 a xs) ∧ R (Itt K a) H1))
theorem pi_seq {X : Cx} {tg l : Expr} {tl : TE} (hl : PE X l tl) : PI X tg l (iSeq X.K tl) := by
  refine ⟨fun pins s σ H R I h => ?_⟩
  refine thn (hl.run pins s σ H _ I h) fun v s1 ⟨x, H1, I1, r1, q1⟩ => ?_
  obtain ⟨a, e, q1⟩ := q1
  subst e
  cases r1
  have fresh1 : ∀ b ∈ [s1.heap.objs.size], FpOk X pins H1 b := fun b hb => by
    have e : b = s1.heap.objs.size := by simpa using hb
    subst e
    exact I1.fpOk (Nat.le_refl _) (I1.hok.fresh (Nat.le_refl _))
  rcases q1 with ⟨⟨xs, hq⟩, q⟩ | ⟨⟨xs, hq⟩, q⟩
  · obtain ⟨its, rv, p, hz⟩ := I1.list hq
    refine wpAny_pyIter_list p.isList ?_
    exact ⟨s1.heap.objs.size, [s1.heap.objs.size], _, _, H1, rfl, I1.kept (t' := s1.toks) fun b o e => Heap.get?_push_of_some _ e, turn_list a _, ⟨_, Heap.get?_push_size _ rfl, rfl, rfl⟩, fresh1, q⟩
  · obtain ⟨its, rv, p, hz⟩ := I1.tuple hq
    refine wpAny_pyIter_tuple (show s1.heap.IsTuple a its.toArray from p) ?_
    exact ⟨s1.heap.objs.size, [s1.heap.objs.size], _, _, H1, rfl, I1.kept (t' := s1.toks) fun b o e => Heap.get?_push_of_some _ e, turn_tuple a _, ⟨_, Heap.get?_push_size _ rfl, rfl, rfl⟩, fresh1, q⟩
end Mini
set_option Elab.async false
set_option linter.all false
/-! M8: own rules by values: sorted of a tuple, sets of ints. -/
namespace Mini
open PySem L2 PySem.Spec PyProof.Rows SrtO
section
variable {prog : Program} {w : World} {A : Around} {E : Value → Shared → Prop} {s : Shared}
/-- what collect gathers off a list or tuple, the heap it leaves -/
theorem collect_at {Q : List Value → Shared → Prop} (it : Addr) {T : String} {o : Obj} {vs : List Value} {n : Nat} (hT : T = "list" ∨ T = "tuple") (ho : s.heap.get? it = some o) (hc : o.cls = .type T) (hd : o.data = .seq vs.toArray n) (hz : vs.length ≤ sizeLine)
    (hQ : Q vs { s with heap := (s.heap.push { cls := .type "list", data := .seq ([] : List Value).toArray }).update s.heap.objs.size (Obj.mapSeq (· ++ vs.toArray)) }) : wpAny (model prog w) A (collect (.ref it)) Q E s := by
  unfold collect
  refine wpAny_bind (wpAny_runValue (codeAny_builtin F.entry_proto_collect ?_))
  rw [Around.under_plainId F.plain_proto_collect _]
  show wpAny _ A.in1 (newList [] >>= fun l => again (.builtin "list.__iadd__" ⟨[l, .ref it], []⟩)) _ _ s
  refine wpAny_bind (wpAny_newObj_type ?_)
  refine wpAny_pure ⟨plainId_quiet F.plain_list_iadd _, codeAny_builtin F.entry_list_iadd ?_⟩
  rw [Around.under_plainId F.plain_list_iadd _]
  show wpAny _ A.in1 (Builtin.List.listExtendWith (.ref s.heap.objs.size) (.ref it) (.ref s.heap.objs.size)) _ _ _
  have hS : (s.heap.push { cls := .type "list", data := .seq ([] : List Value).toArray }).get? s.heap.objs.size = some { cls := .type "list", data := .seq #[] 0 } := Heap.get?_push_size _ rfl
  have hL := Heap.get?_update_self (Obj.mapSeq (· ++ vs.toArray)) hS rfl
  have go : ∀ s', s' = { s with heap := (s.heap.push { cls := .type "list", data := .seq ([] : List Value).toArray }).update s.heap.objs.size (Obj.mapSeq (· ++ vs.toArray)) } → wpAny (model prog w) A (match Value.ref s.heap.objs.size with
      | Value.ref a => do
        match (← load a).data with
          | Data.seq xs _ => pure xs.toList
          | _ => unsupported "internal:collect"
      | _ => unsupported "internal:collect") Q E s' := fun s' e => by
    subst e
    refine wpAny_bind (wpAny_load hL (wpAny_pure ?_))
    have e : ((#[] : Array Value) ++ vs.toArray).toList = vs := by simp
    show Q ((#[] : Array Value) ++ vs.toArray).toList _
    rw [e]
    exact hQ
  refine wpAny_mono (wpAny_extend_seq (hsz := by rw [List.size_toArray]; exact hz) (A := A) (R := fun r s' => r = .ok (.ret (.ref s.heap.objs.size)) ∧ s' = { s with heap := (s.heap.push { cls := .type "list", data := .seq ([] : List Value).toArray }).update s.heap.objs.size (Obj.mapSeq (· ++ vs.toArray)) })
    (s := { s with heap := s.heap.push { cls := .type "list", data := .seq ([] : List Value).toArray } }) _ it _ 0 hT hS (Heap.get?_push_of_some _ ho) hc hd ⟨rfl, rfl⟩) (fun fin s' h => ?_) (fun e s' h => absurd h.1 (by simp))
  cases fin with
  | done f =>
    obtain ⟨e, h2⟩ := h
    cases e
    exact go s' h2
  | again c' => exact ⟨h.1, codeAny_mono h.2 fun r s'' hr => by
      obtain ⟨h1, h2⟩ := hr
      cases h1
      exact go s'' h2⟩
/-- sorted of a list or tuple: a new list -/
theorem sorted_seq {l : Addr} {T : String} {o : Obj} {vs : List Value} {n : Nat} {ltv : Value → Value → Bool} {Q : Value → Shared → Prop} (O : Swo ltv) (hT : T = "list" ∨ T = "tuple") (ho : s.heap.get? l = some o) (hc : o.cls = .type T) (hd : o.data = .seq vs.toArray n) (hz : vs.length ≤ sizeLine)
    (hS : 2 ≤ vs.length → ∀ (h₁ : Heap) (a : Addr), SortableO prog w A.in1.in1 { s with heap := h₁ } a vs ltv)
    (h : ∀ (h' : Heap) (a : Addr) (c : Nat) (out : List Value), Srtd ltv out → Stb ltv out vs → (∀ b o, s.heap.get? b = some o → h'.get? b = some o) → s.heap.objs.size ≤ a → h'.get? a = some (seqObj "list" out.toArray c) → Q (.ref a) { s with heap := h' }) :
    wpAny (model prog w) A (call (.builtin "sorted") [.ref l]) Q E s := by
  refine Calls.call_function_entry kind_sorted plain_sorted entry_sorted (args_sorted1 _) ?_
  unfold Builtin.«sorted»
  refine wpAny_bind (m := checkCount "sorted" 1 1 _) (wpAny_pure ?_)
  refine wpAny_bind (collect_at l hT ho hc hd hz ?_)
  have hsz1 : ((s.heap.push { cls := .type "list", data := .seq ([] : List Value).toArray }).update s.heap.objs.size (Obj.mapSeq (· ++ vs.toArray))).objs.size = s.heap.objs.size + 1 := by
    rw [Heap.size_update, size_push']
  have k1 : ∀ b o, s.heap.get? b = some o → ((s.heap.push { cls := .type "list", data := .seq ([] : List Value).toArray }).update s.heap.objs.size (Obj.mapSeq (· ++ vs.toArray))).get? b = some o := fun b o q => by
    rw [Heap.get?_update_ne _ _ _ _ (Nat.ne_of_lt (Heap.lt_size q))]
    exact Heap.get?_push_of_some _ q
  generalize (s.heap.push { cls := .type "list", data := .seq ([] : List Value).toArray }).update s.heap.objs.size (Obj.mapSeq (· ++ vs.toArray)) = h1 at hsz1 k1 ⊢
  have hsz : s.heap.objs.size ≤ h1.objs.size := by omega
  refine wpAny_bind (wpAny_newList ?_ hz)
  have hoL : (h1.push (seqObj "list" vs.toArray 0)).get? h1.objs.size = some (seqObj "list" vs.toArray 0) := Heap.get?_push_size _ rfl
  refine wpAny_bind (wpAny_holding (wpAny_call_entry slot_list_sort ⟨_, hoL, rfl⟩ entry_list_sort (list_sort_ord (s := { s with heap := h1.push (seqObj "list" vs.toArray 0) }) O hoL hz (fun h2 => hS h2 _ _) fun out hs hb => ⟨_, rfl, ?_⟩) (args_list_sort _)))
  obtain ⟨c, hc2⟩ := sortedHeap_at (vs := vs) (out := out.toArray) hoL
  refine wpAny_pure ⟨_, rfl, h _ h1.objs.size c out hs hb (fun b u e => ?_) hsz hc2⟩
  have q := k1 b u e
  have hlt := Heap.lt_size q
  rw [sortedHeap_old (Nat.ne_of_lt hlt) (by rw [size_push']; exact Nat.lt_succ_of_lt hlt)]
  exact Heap.get?_push_of_some _ q
end
section
variable {X : Cx}
/-- sorted(xs), ints, a list or a tuple -/
def rSortIA (K : PySem.W.Frag) : List V → Hp → VK → Prop := fun vs H Q => ∃ (a : Addr) (ns : List Int), vs = [V.ref a] ∧ (SqL K H a (ns.map V.int) ∨ SqT K H a (ns.map V.int)) ∧
  ∀ (ns' : List Int) (p : Addr), ns'.Perm ns → ns'.Pairwise (· ≤ ·) → H p = none → Q (.ref p) (upd H p (.lst (ns'.map V.int)))
theorem cr_sortIA : CallR X (.builtin "sorted") (rSortIA X.K) := by
  intro pins s σ H vs us Q I r h
  obtain ⟨a, ns, rfl, hs, q⟩ := h
  rw [Vals.ref1 r]
  have fin : ∀ (its : List Value) (T : String) (o : Obj) (n : Nat), Vals (ns.map V.int) its → (ns.map V.int).length ≤ sizeLine → (T = "list" ∨ T = "tuple") → s.heap.get? a = some o → o.cls = .type T → o.data = .seq its.toArray n →
      wpAny (model X.prog X.w) X.A (call (.builtin "sorted") [.ref a]) (EP X pins σ Q) X.xe s := fun its T o n rv hz hT ho hc hd => by
    have hi := rv.ints
    refine sorted_seq swo_int hT ho hc hd (by rw [← rv.length]; exact hz) (fun h2 h₁ a' => ints_sortable hi h2) fun h' p c out h1 h2 kp hp hg => ?_
    obtain ⟨k1, k2, k3⟩ := ints_out hi h1 h2
    have hlen : ((out.map iv).map V.int).length ≤ sizeLine := by
      rw [List.length_map, k2.length_eq]
      rw [List.length_map] at hz
      exact hz
    exact ⟨.ref _, upd H p (.lst ((out.map iv).map V.int)), I.laid (t' := s.toks) kp hp ⟨hlen, out, c, vals_of_ints k1, hg⟩, rfl, q _ _ k2 k3 (I.hok.fresh hp)⟩
  rcases hs with hs | hs
  · obtain ⟨its, rv, hl, hz⟩ := I.list hs
    obtain ⟨o, ho, hc, n, hd⟩ := hl.isList
    exact fin its "list" o n rv hz (.inl rfl) ho hc hd
  · obtain ⟨its, rv, hl, hz⟩ := I.tuple hs
    obtain ⟨o, ho, hc, n, hd⟩ := hl
    exact fin its "tuple" o n rv hz (.inr rfl) ho hc hd
end
/-! ### max, min -/
theorem maxI_eq : ∀ (ns : List Int) (m : Int), maxI m ns = ns.foldl max m
  | [], _ => rfl
  | i :: r, m => by
    show maxI (cond (ilt m i) i m) r = r.foldl max (max m i)
    rw [ilt_eq, maxI_eq r]
    congr 1
    by_cases h : m < i
    · rw [decide_eq_true h]; show i = max m i; omega
    · rw [decide_eq_false h]; show m = max m i; omega
theorem minI_eq : ∀ (ns : List Int) (m : Int), minI m ns = ns.foldl min m
  | [], _ => rfl
  | i :: r, m => by
    show minI (cond (ilt i m) i m) r = r.foldl min (min m i)
    rw [ilt_eq, minI_eq r]
    congr 1
    by_cases h : i < m
    · rw [decide_eq_true h]; show i = min m i; omega
    · rw [decide_eq_false h]; show m = min m i; omega
section
variable {X : Cx}
def rBest (K : PySem.W.Frag) (f : Int → List Int → Int) : List V → Hp → VK → Prop := fun vs H Q => ∃ (a : Addr) (n : Int) (ns : List Int), vs = [V.ref a] ∧ (SqL K H a ((n :: ns).map V.int) ∨ SqT K H a ((n :: ns).map V.int)) ∧ Q (.int (f n ns)) H
theorem alike_n (ns : List Int) : PySem.W.AlikeAll (ns.map PyData.int) := by
  refine ⟨fun a ha b hb => ?_, fun a ha => by obtain ⟨i, _, rfl⟩ := List.mem_map.mp ha; exact fun z => nomatch z⟩
  obtain ⟨i, _, rfl⟩ := List.mem_map.mp ha
  obtain ⟨j, _, rfl⟩ := List.mem_map.mp hb
  rfl
theorem cr_maxA (hc : X.calm = true) (hu : X.A.units + 65 < cLine) : CallR X (.builtin "max") (rBest X.K maxI) := by
  intro pins s σ H vs us Q I r h
  obtain ⟨a, n, ns, rfl, hs, q⟩ := h
  rw [Vals.ref1 r]
  have hd : PyData.depthAll ((n :: ns).map PyData.int) = 0 := PySem.W.depth_ints _
  have fin : ∀ (h' : Heap) (v : Value) (tk : Nat) (bs : List Addr), Reads h' v (PySem.W.maxD (.int n) (ns.map .int)) bs → (∀ b o, s.heap.get? b = some o → h'.get? b = some o) → EP X pins σ Q v { s with heap := h', toks := tk } := fun h' v tk bs r hk => by
    rw [PySem.W.maxD_ints] at r
    cases r
    exact ⟨.int (maxI n ns), H, I.kept hk, by rw [maxI_eq]; exact ⟨_, rfl⟩, q⟩
  rcases hs with hs | hs
  · obtain ⟨its, rv, hl, _⟩ := I.list hs
    exact PySem.W.max_list_data (xs := ns.map .int) (x := .int n) (I.ok.hd hc) hl.isList (by simpa using rv.ints.reads s.heap) (alike_n (n :: ns)) (by show X.A.units + 1 + PyData.depthAll ((n :: ns).map PyData.int) < _; rw [hd]; omega) fun i v h' tk bs _ r hk => fin h' v tk bs r hk
  · obtain ⟨its, rv, hl, _⟩ := I.tuple hs
    exact PySem.W.max_tuple_data (xs := ns.map .int) (x := .int n) (I.ok.hd hc) hl (by simpa using rv.ints.reads s.heap) (alike_n (n :: ns)) (by show X.A.units + 1 + PyData.depthAll ((n :: ns).map PyData.int) < _; rw [hd]; omega) fun i v h' tk bs _ r hk => fin h' v tk bs r hk
theorem cr_minA (hc : X.calm = true) (hu : X.A.units + 65 < cLine) : CallR X (.builtin "min") (rBest X.K minI) := by
  intro pins s σ H vs us Q I r h
  obtain ⟨a, n, ns, rfl, hs, q⟩ := h
  rw [Vals.ref1 r]
  have hd : PyData.depthAll ((n :: ns).map PyData.int) = 0 := PySem.W.depth_ints _
  have fin : ∀ (h' : Heap) (v : Value) (tk : Nat) (bs : List Addr), Reads h' v (PySem.W.minD (.int n) (ns.map .int)) bs → (∀ b o, s.heap.get? b = some o → h'.get? b = some o) → EP X pins σ Q v { s with heap := h', toks := tk } := fun h' v tk bs r hk => by
    rw [PySem.W.minD_ints] at r
    cases r
    exact ⟨.int (minI n ns), H, I.kept hk, by rw [minI_eq]; exact ⟨_, rfl⟩, q⟩
  rcases hs with hs | hs
  · obtain ⟨its, rv, hl, _⟩ := I.list hs
    exact PySem.W.min_list_data (xs := ns.map .int) (x := .int n) (I.ok.hd hc) hl.isList (by simpa using rv.ints.reads s.heap) (alike_n (n :: ns)) (by show X.A.units + 1 + PyData.depthAll ((n :: ns).map PyData.int) < _; rw [hd]; omega) fun i v h' tk bs _ r hk => fin h' v tk bs r hk
  · obtain ⟨its, rv, hl, _⟩ := I.tuple hs
    exact PySem.W.min_tuple_data (xs := ns.map .int) (x := .int n) (I.ok.hd hc) hl (by simpa using rv.ints.reads s.heap) (alike_n (n :: ns)) (by show X.A.units + 1 + PyData.depthAll ((n :: ns).map PyData.int) < _; rw [hd]; omega) fun i v h' tk bs _ r hk => fin h' v tk bs r hk
end
/-! ### sets of ints -/
section
variable {X : Cx}
theorem same_len {l m : List Int} (hl : l.Nodup) (hm : m.Nodup) (h : ∀ x, x ∈ l ↔ x ∈ m) : l.length = m.length :=
  ((List.perm_ext_iff_of_nodup hl hm).mpr h).length_eq
theorem sorted_same : ∀ {l m : List Int}, l.Pairwise (· < ·) → m.Pairwise (· < ·) → (∀ x, x ∈ l ↔ x ∈ m) → l = m
  | [], [], _, _, _ => rfl
  | [], y :: m, _, _, h => absurd ((h y).mpr List.mem_cons_self) (by simp)
  | x :: l, [], _, _, h => absurd ((h x).mp List.mem_cons_self) (by simp)
  | x :: l, y :: m, hl, hm, h => by
    obtain ⟨h1, h2⟩ := List.pairwise_cons.mp hl
    obtain ⟨h3, h4⟩ := List.pairwise_cons.mp hm
    have e : x = y := by
      rcases List.mem_cons.mp ((h x).mp List.mem_cons_self) with e | e
      · exact e
      · rcases List.mem_cons.mp ((h y).mpr List.mem_cons_self) with e2 | e2
        · exact e2.symm
        · have a := h3 x e; have b := h1 y e2; omega
    subst e
    rw [sorted_same h2 h4 fun z => ⟨fun hz => ?_, fun hz => ?_⟩]
    · rcases List.mem_cons.mp ((h z).mp (List.mem_cons_of_mem _ hz)) with e | e
      · have := h1 z hz; omega
      · exact e
    · rcases List.mem_cons.mp ((h z).mpr (List.mem_cons_of_mem _ hz)) with e | e
      · have := h3 z hz; omega
      · exact e
theorem insU_mem (i : Int) : ∀ (l : List Int) (x : Int), x ∈ insU i l ↔ x = i ∨ x ∈ l
  | [], x => by simp [insU]
  | j :: r, x => by
    unfold insU
    rw [ilt_eq, ieq_eq]
    by_cases h : i < j
    · rw [decide_eq_true h]; simp
    · rw [decide_eq_false h]
      by_cases h2 : i = j
      · rw [decide_eq_true h2]; subst h2; simp
      · rw [decide_eq_false h2]
        show x ∈ j :: insU i r ↔ _
        rw [List.mem_cons, insU_mem i r x, List.mem_cons]
        constructor
        · rintro (a | a | a)
          · exact .inr (.inl a)
          · exact .inl a
          · exact .inr (.inr a)
        · rintro (a | a | a)
          · exact .inr (.inl a)
          · exact .inl a
          · exact .inr (.inr a)
theorem insU_lt (i : Int) : ∀ {l : List Int}, l.Pairwise (· < ·) → (insU i l).Pairwise (· < ·)
  | [], _ => by simp [insU]
  | j :: r, h => by
    obtain ⟨h1, h2⟩ := List.pairwise_cons.mp h
    unfold insU
    rw [ilt_eq, ieq_eq]
    by_cases c : i < j
    · rw [decide_eq_true c]
      refine List.pairwise_cons.mpr ⟨fun y hy => ?_, h⟩
      rcases List.mem_cons.mp hy with e | e
      · rw [e]; exact c
      · have := h1 y e; omega
    · rw [decide_eq_false c]
      by_cases c2 : i = j
      · rw [decide_eq_true c2]; exact h
      · rw [decide_eq_false c2]
        refine List.pairwise_cons.mpr ⟨fun y hy => ?_, insU_lt i h2⟩
        rcases (insU_mem i r y).mp hy with e | e
        · rw [e]; omega
        · exact h1 y e
theorem sortU_mem : ∀ (l : List Int) (x : Int), x ∈ sortU l ↔ x ∈ l
  | [], x => Iff.rfl
  | i :: r, x => by
    show x ∈ insU i (sortU r) ↔ _
    rw [insU_mem, sortU_mem r x, List.mem_cons]
theorem sortU_lt : ∀ l : List Int, (sortU l).Pairwise (· < ·)
  | [] => List.Pairwise.nil
  | i :: r => insU_lt i (sortU_lt r)
theorem insU_le (i : Int) : ∀ l : List Int, (insU i l).length ≤ l.length + 1
  | [] => Nat.le_refl _
  | j :: r => by
    have := insU_le i r
    unfold insU
    cases ilt i j <;> cases ieq i j <;> simp <;> omega
theorem sortU_le : ∀ l : List Int, (sortU l).length ≤ l.length
  | [] => Nat.le_refl _
  | i :: r => by
    have h1 := insU_le i (sortU r)
    have h2 := sortU_le r
    show (insU i (sortU r)).length ≤ r.length + 1
    omega
theorem lt_nodup {l : List Int} (h : l.Pairwise (· < ·)) : l.Nodup := h.imp fun {x y} h e => by omega
theorem setR_len {w : World} {h : Heap} {a : Addr} {ns : List Int} {n : Nat} (R : SetR w h a (fun j => decide (j ∈ ns)) n) : n = (sortU ns).length := by
  obtain ⟨o, es, ep, t, _, _, _, _, nd, mem, _, _, e, _⟩ := R
  rw [← e, ← Array.length_toList, ← List.length_map (f := keyOf)]
  exact same_len nd (lt_nodup (sortU_lt ns)) fun x => by rw [← mem x, sortU_mem]; simp
/-- set(xs) inside len( ), sorted( ) -/
def tSet (K : PySem.W.Frag) (ta : TE) (r : List Int → Hp → VK → Prop) : TE := fun σ H Q => ta σ H fun x H1 => ∃ (l : Addr) (ns : List Int), x = .ref l ∧ (SqL K H1 l (ns.map V.int) ∨ SqT K H1 l (ns.map V.int)) ∧ ns.length < 4000 ∧ r ns H1 Q
theorem pe_ofSet {a : Expr} {ta : TE} {p p2 q pos : Pos} {x : Str} {id : String} {r : List Int → Hp → VK → Prop} (hg : Gl X x) (hm : X.mg x = none) (hb : bootBuiltins x = some (.builtin id)) (k1 : x ≠ "__name__") (k2 : (x == ("__debug__" : Str)) = false) (hc : X.calm = true) (hg2 : Gl X "set") (hm2 : X.mg "set" = none) (ha : PE X a ta)
    (na : starEach [a] X.env = (false, eval a X.env) :: starEach [] X.env)
    (hr : ∀ (pins : List (Addr × Obj)) (σ : L2.St) (H : Hp) (s : Shared) (S : Addr) (ns : List Int) (Q : VK), Inv X pins σ H s → SetR X.w s.heap S (fun j => decide (j ∈ ns)) (sortU ns).length → ns.length < 4000 → r ns H Q → wpAny (model X.prog X.w) X.A (call (.builtin id) [.ref S]) (EP X pins σ Q) X.xe s) :
    PE X (.Call (.Name x p) [.Call (.Name "set" p2) [a] [] q] [] pos) (tSet X.K ta r) := by
  refine ⟨fun pins s σ H Q I h => ?_⟩
  refine Call_ (ld_blt I hg hm hb ?_ k1 k2)
  refine PyProof.Rows.callWith_builtin1 (PyProof.Rows.args_cons ?_ rfl) rfl rfl
  refine Call_ (ld_blt I hg2 hm2 boot_set ?_)
  refine PyProof.Rows.callWith_type1 (PyProof.Rows.args_cons (thn (ha.run pins s σ H _ I h) fun v s1 ⟨x, H1, I1, r1, q1⟩ => PyProof.Rows.args_nil ?_) na) na rfl
  obtain ⟨l, ns, rfl, hq, hl, q1⟩ := q1
  cases r1
  have fin : ∀ (h' : Heap) (tk c : Nat), SetR X.w h' s1.heap.objs.size (fun j => decide (j ∈ ns)) c → c ≤ ns.length → (∀ b o, s1.heap.get? b = some o → h'.get? b = some o) →
      wpAny (model X.prog X.w) X.A (spliced (backTo pos (starEach [] X.env))) (fun vs s₂ => wpAny (model X.prog X.w) X.A (call (.builtin id) (Value.ref s1.heap.objs.size :: vs)) (EP X pins σ Q) X.xe s₂) X.xe { s1 with heap := h', toks := tk } := fun h' tk c hS hc' hk => by
    refine PyProof.Rows.args_nil ?_
    have e := setR_len hS
    subst e
    exact hr pins σ H1 { s1 with heap := h', toks := tk } _ ns Q (I1.kept hk) hS hl q1
  rcases hq with hq | hq
  · obtain ⟨its, rv, pl, hz⟩ := I1.list hq
    exact set_of_list ns (I1.ok.hd hc) pl.isList (by simpa using rv.ints) (by unfold scanBound; omega) fin
  · obtain ⟨its, rv, pl, hz⟩ := I1.tuple hq
    exact call_set_tupI ns (I1.ok.hd hc) pl (by simpa using rv.ints) (by unfold scanBound; omega) fin
theorem rs_len : ∀ (pins : List (Addr × Obj)) (σ : L2.St) (H : Hp) (s : Shared) (S : Addr) (ns : List Int) (Q : VK), Inv X pins σ H s → SetR X.w s.heap S (fun j => decide (j ∈ ns)) (sortU ns).length → ns.length < 4000 → Q (.int ((sortU ns).length : Nat)) H → wpAny (model X.prog X.w) X.A (call (.builtin "len") [.ref S]) (EP X pins σ Q) X.xe s := fun pins σ H s S ns Q I R hl q => by
  obtain ⟨o, es, ep, t, ho, hex, hd, _, _, _, _, hf, hn, _⟩ := R
  have hle : es.size ≤ ns.length := by
    rw [hn]
    exact sortU_le ns
  exact call_len_set ho hex hd hf (by omega) ⟨.int (sortU ns).length, H, I.tok _, ⟨_, by rw [hn]⟩, q⟩
end
end Mini
set_option Elab.async false
set_option linter.all false
/-! M9: built-in functions: mini's answer, the rule's. -/
namespace Mini
open PySem L2 PySem.Spec PyProof.Rows
section
variable {ρ : Rh} {H : Hp} {h : Hx}
theorem ints_rv : ∀ {xs : List Vl} {is : List Int} {ys : List V}, intsV xs = some is → RVs ρ H xs ys → ys = is.map V.int
  | [], is, ys, e, r => by cases e; rw [r.nil_inv]; rfl
  | v :: xs, is, ys, e, r => by
    obtain ⟨y, ys', rfl, ry, t⟩ := r.cons_inv
    cases v with
    | int i =>
      unfold intsV at e
      cases q : intsV xs with
      | none => rw [q] at e; cases e
      | some l => rw [q] at e; cases e; rw [ry.int_inv, ints_rv q t]; rfl
    | _ => unfold intsV at e; cases e
theorem ints_of_rv : ∀ (is : List Int), RVs ρ H (is.map Vl.int) (is.map V.int)
  | [] => RVs.nil
  | i :: is => RVs.cons RV.int_of (ints_of_rv is)
theorem bools_rv : ∀ {xs : List Vl} {is : List Bool} {ys : List V}, bools xs = some is → RVs ρ H xs ys → ys = is.map V.bl
  | [], is, ys, e, r => by cases e; rw [r.nil_inv]; rfl
  | v :: xs, is, ys, e, r => by
    obtain ⟨y, ys', rfl, ry, t⟩ := r.cons_inv
    cases v with
    | bl i =>
      unfold bools at e
      cases q : bools xs with
      | none => rw [q] at e; cases e
      | some l => rw [q] at e; cases e; rw [ry.bl_inv, bools_rv q t]; rfl
    | _ => unfold bools at e; cases e
theorem seq_at {v : Vl} {x : V} {xs : List Vl} {K : PySem.W.Frag} (hr : HR ρ h H) (r : RV ρ H v x) (e : seqOf v h = some xs) : ∃ a ys, x = .ref a ∧ RVs ρ H xs ys ∧ (SqL K H a ys ∨ SqT K H a ys) := by
  unfold seqOf at e
  split at e
  · cases e
    obtain ⟨a, ys, rfl, ha, ra⟩ := r.tup_inv
    exact ⟨a, ys, rfl, ra, .inr (SqT.of ha)⟩
  · split at e
    · rename_i g
      cases e
      obtain ⟨a, ys, rfl, _, ha, ra⟩ := lst_at hr r g
      exact ⟨a, ys, rfl, ra, .inl (SqL.of ha)⟩
    · rename_i g
      cases e
      obtain ⟨a, o, ys, rfl, _, ha, ra⟩ := ro_at hr r g
      exact ⟨a, ys, rfl, ra, .inl (.inl (.inr ⟨o, ha⟩))⟩
    · cases e
  · cases e
theorem RVs.one_inv {v : Vl} {xs : List V} (r : RVs ρ H [v] xs) : ∃ x, xs = [x] ∧ RV ρ H v x := by
  obtain ⟨x, r', rfl, rx, t⟩ := r.cons_inv
  rw [t.nil_inv]
  exact ⟨x, rfl, rx⟩
theorem RVs.two_inv {v w : Vl} {xs : List V} (r : RVs ρ H [v, w] xs) : ∃ x y, xs = [x, y] ∧ RV ρ H v x ∧ RV ρ H w y := by
  obtain ⟨x, r', rfl, rx, t⟩ := r.cons_inv
  obtain ⟨y, rfl, ry⟩ := t.one_inv
  exact ⟨x, y, rfl, rx, ry⟩
theorem rk_length {κ : Type} : ∀ {l : List (κ × Vl)} {ks : List (κ × V)}, RK ρ H l ks → l.length = ks.length
  | [], ks, h => by rw [show ks = [] from h]; rfl
  | p :: r, ks, h => by
    obtain ⟨q, s, rfl, _, _, t⟩ := h
    rw [List.length_cons, List.length_cons, rk_length t]
end
/-! ### sorting -/
theorem insI_perm (i : Int) : ∀ l : List Int, (insI i l).Perm (i :: l)
  | [] => List.Perm.refl _
  | j :: r => by
    unfold insI
    cases ile i j with
    | true => exact List.Perm.refl _
    | false => exact ((insI_perm i r).cons j).trans (List.Perm.swap i j r)
theorem insI_le (i : Int) : ∀ {l : List Int}, l.Pairwise (· ≤ ·) → (insI i l).Pairwise (· ≤ ·)
  | [], _ => by simp [insI]
  | j :: r, h => by
    obtain ⟨h1, h2⟩ := List.pairwise_cons.mp h
    unfold insI
    rw [ile_eq]
    by_cases c : i ≤ j
    · rw [decide_eq_true c]
      refine List.pairwise_cons.mpr ⟨fun y hy => ?_, h⟩
      rcases List.mem_cons.mp hy with e | e
      · rw [e]; exact c
      · have := h1 y e; omega
    · rw [decide_eq_false c]
      refine List.pairwise_cons.mpr ⟨fun y hy => ?_, insI_le i h2⟩
      rcases List.mem_cons.mp ((insI_perm i r).mem_iff.mp hy) with e | e
      · rw [e]; omega
      · exact h1 y e
theorem sortI_perm : ∀ l : List Int, (sortI l).Perm l
  | [] => List.Perm.refl _
  | i :: r => (insI_perm i (sortI r)).trans ((sortI_perm r).cons i)
theorem sortI_le : ∀ l : List Int, (sortI l).Pairwise (· ≤ ·)
  | [] => List.Pairwise.nil
  | i :: r => insI_le i (sortI_le r)
theorem sortI_is {l m : List Int} (p : m.Perm l) (s : m.Pairwise (· ≤ ·)) : m = sortI l :=
  List.Perm.eq_of_pairwise (fun a b _ _ h1 h2 => Int.le_antisymm h1 h2) s (sortI_le l) (p.trans (sortI_perm l).symm)
theorem pltI_eq (p q : Int × Int) : pltI p q = SrtO.lexB p q := by
  unfold pltI SrtO.lexB
  rw [ieq_eq, ilt_eq, ilt_eq]
  by_cases h : p.1 = q.1
  · rw [decide_eq_true h, if_pos h]; rfl
  · rw [decide_eq_false h, if_neg h]; rfl
abbrev pLe (p q : Int × Int) : Prop := SrtO.lexB q p = false
theorem insP_perm (i : Int × Int) : ∀ l : List (Int × Int), (insP i l).Perm (i :: l)
  | [] => List.Perm.refl _
  | j :: r => by
    unfold insP
    cases pltI j i with
    | false => exact List.Perm.refl _
    | true => exact ((insP_perm i r).cons j).trans (List.Perm.swap i j r)
theorem insP_le (i : Int × Int) : ∀ {l : List (Int × Int)}, l.Pairwise pLe → (insP i l).Pairwise pLe
  | [], _ => by simp [insP]
  | j :: r, h => by
    obtain ⟨h1, h2⟩ := List.pairwise_cons.mp h
    unfold insP
    rw [pltI_eq]
    cases c : SrtO.lexB j i with
    | false =>
      refine List.pairwise_cons.mpr ⟨fun y hy => ?_, h⟩
      rcases List.mem_cons.mp hy with e | e
      · rw [e]; exact c
      · have a := SrtO.lexB_no.mp c
        have b := SrtO.lexB_no.mp (h1 y e)
        exact SrtO.lexB_no.mpr (by omega)
    | true =>
      refine List.pairwise_cons.mpr ⟨fun y hy => ?_, insP_le i h2⟩
      rcases List.mem_cons.mp ((insP_perm i r).mem_iff.mp hy) with e | e
      · rw [e]
        have a := SrtO.lexB_iff.mp c
        exact SrtO.lexB_no.mpr (by omega)
      · exact h1 y e
theorem sortP_perm : ∀ l : List (Int × Int), (sortP l).Perm l
  | [] => List.Perm.refl _
  | i :: r => (insP_perm i (sortP r)).trans ((sortP_perm r).cons i)
theorem sortP_le : ∀ l : List (Int × Int), (sortP l).Pairwise pLe
  | [] => List.Pairwise.nil
  | i :: r => insP_le i (sortP_le r)
theorem sortP_is {l m : List (Int × Int)} (p : m.Perm l) (s : m.Pairwise pLe) : m = sortP l :=
  List.Perm.eq_of_pairwise (fun a b _ _ h1 h2 => by
    have a1 := SrtO.lexB_no.mp h1
    have a2 := SrtO.lexB_no.mp h2
    refine Prod.ext ?_ ?_ <;> omega) s (sortP_le l) (p.trans (sortP_perm l).symm)
/-- the pair of ints that stands there -/
def pairAt (H : Hp) (x : V) : Int × Int := match x with
  | .ref t => match H t with
    | some (.tup [.int i, .int j]) => (i, j)
    | _ => (0, 0)
  | _ => (0, 0)
section
variable {ρ : Rh} {H : Hp}
theorem pairs_rv : ∀ {xs : List Vl} {ps : List (Int × Int)} {ys : List V}, pairsV xs = some ps → RVs ρ H xs ys → ps = ys.map (pairAt H) ∧ (∀ y ∈ ys, RV ρ H (ofP (pairAt H y)) y) ∧ ∀ y ∈ ys, ∃ t, y = V.ref t ∧ H t = some (.tup [.int (pairAt H y).1, .int (pairAt H y).2])
  | [], ps, ys, e, r => by
    cases e; rw [r.nil_inv]
    exact ⟨rfl, fun y hy => absurd hy (by simp), fun y hy => absurd hy (by simp)⟩
  | v :: xs, ps, ys, e, r => by
    obtain ⟨y, ys', rfl, ry, t⟩ := r.cons_inv
    unfold pairsV at e
    split at e
    · rename_i hx; cases hx
    · rename_i i j r' hx
      cases hx
      cases q : pairsV xs with
      | none => rw [q] at e; cases e
      | some l =>
        rw [q] at e; cases e
        obtain ⟨h1, h2, h3⟩ := pairs_rv q t
        obtain ⟨a, us, rfl, ha, ru⟩ := ry.tup_inv
        obtain ⟨u1, u2, rfl, r1, r2⟩ := ru.two_inv
        rw [r1.int_inv, r2.int_inv] at ha
        have hp : pairAt H (.ref a) = (i, j) := by
          unfold pairAt
          dsimp only
          rw [ha]
        refine ⟨by rw [List.map_cons, ← h1, hp], fun y hy => ?_, fun y hy => ?_⟩
        · rcases List.mem_cons.mp hy with e | e
          · rw [e, hp]; exact ry
          · exact h2 y e
        · rcases List.mem_cons.mp hy with e | e
          · rw [e, hp]; exact ⟨a, rfl, ha⟩
          · exact h3 y e
    · cases e
theorem ofP_rv : ∀ {ys : List V}, (∀ y ∈ ys, RV ρ H (ofP (pairAt H y)) y) → RVs ρ H ((ys.map (pairAt H)).map ofP) ys
  | [], _ => RVs.nil
  | y :: ys, h => RVs.cons (h y List.mem_cons_self) (ofP_rv fun z hz => h z (List.mem_cons_of_mem _ hz))
end
/-! ### isinstance -/
theorem kit_bt (a b : Bt) : kitB a.name b.name = some (a.isa b) := by cases a <;> cases b <;> decide +kernel
section
variable {ρ : Rh} {H : Hp} {h : Hx} {K : PySem.W.Frag}
theorem type_s {v : Vl} {x : V} {t : Bt} (hr : HR ρ h H) (r : RV ρ H v x) (e : typeOfV v h = some t) : TyX K H x (.type t.name) := by
  unfold typeOfV at e
  split at e
  · cases e; rw [r.non_inv]; exact .base .non
  · cases e; rw [r.bl_inv]; exact .base (.bl _)
  · cases e; rw [r.int_inv]; exact .base (.int _)
  · cases e; rw [r.str_inv]; exact .base (.str _)
  · cases e
    obtain ⟨a, ys, rfl, ha, _⟩ := r.tup_inv
    exact .base (.tup ha)
  · split at e
    · rename_i g; cases e; obtain ⟨a, ys, rfl, _, ha, _⟩ := lst_at hr r g; exact .base (.lst ha)
    · rename_i g; cases e; obtain ⟨a, o, ys, rfl, _, ha, _⟩ := ro_at hr r g; exact .base (.frz ha)
    · rename_i g; cases e; obtain ⟨a, ys, rfl, _, ha, _⟩ := dk_at hr r g; exact .base (.dK ha)
    · rename_i g; cases e; obtain ⟨a, ys, rfl, _, ha, _⟩ := dt_at hr r g; exact .base (.dT ha)
    · cases e
  · cases e
  · cases e
theorem tyList_s : ∀ {l : List Vl} {ns : List Bt} {ys : List V}, tyList l = some ns → RVs ρ H l ys → Paired ClsV ys (ns.map fun n => Value.type n.name)
  | [], ns, ys, e, r => by cases e; rw [r.nil_inv]; exact .nil
  | v :: l, ns, ys, e, r => by
    obtain ⟨y, ys', rfl, ry, t⟩ := r.cons_inv
    cases v with
    | ty n =>
      unfold tyList at e
      cases q : tyList l with
      | none => rw [q] at e; cases e
      | some m => rw [q] at e; cases e; rw [ry.ty_inv]; exact .cons (.ty _) (tyList_s q t)
    | _ => unfold tyList at e; cases e
theorem isAny_s (t : Bt) : ∀ ns : List Bt, PySem.W.kitAny K (.type t.name) (ns.map fun n => Value.type n.name) = some (isAny t ns)
  | [] => kitAny_nil
  | n :: ns => by
    refine kitAny_cons (kit_ty (kit_bt t n)) (fun e => ?_) fun e => ?_
    · unfold isAny; rw [e]; exact isAny_s t ns
    · unfold isAny; rw [e]; rfl
end
theorem allB_eq : ∀ bs : List Bool, allB bs = bs.all id
  | [] => rfl
  | b :: r => by unfold allB; rw [allB_eq r]; cases b <;> rfl
theorem anyB_eq : ∀ bs : List Bool, anyB bs = bs.any id
  | [] => rfl
  | b :: r => by unfold anyB; rw [anyB_eq r]; cases b <;> rfl
end Mini
set_option Elab.async false
set_option linter.all false
/-! M10: built-in functions as terms. -/
namespace Mini
open PySem L2 PySem.Spec PyProof.Rows
def rLen (K : PySem.W.Frag) : List V → Hp → VK → Prop := fun xs H Q => (∃ p ys, xs = [.ref p] ∧ (SqL K H p ys ∨ SqT K H p ys) ∧ Q (.int (ys.length : Nat)) H) ∨ ∃ a kvs, xs = [V.ref a] ∧ H a = some (.dK kvs) ∧ Q (.int (kvs.length : Nat)) H
def bfQ (K : PySem.W.Frag) : Bf → List V → Hp → VK → Prop
  | .len => rLen K
  | .tuple => fun xs H Q => ∃ p ys, xs = [.ref p] ∧ ((SqL K H p ys ∧ ∀ l, H l = none → Q (.ref l) (upd H l (.tup ys))) ∨ (SqT K H p ys ∧ Q (.ref p) H))
  | .list => fun xs H Q => ∃ p ys, xs = [.ref p] ∧ (SqL K H p ys ∨ SqT K H p ys) ∧ ∀ l, H l = none → Q (.ref l) (upd H l (.lst ys))
  | .int => fun xs H Q => (∃ i, xs = [.int i] ∧ Q (.int i) H) ∨ ∃ k, xs = [.bl k] ∧ Q (.int (if k then 1 else 0)) H
  | .min => fun xs H Q => (∃ i j, xs = [.int i, .int j] ∧ Q (.int (if j < i then j else i)) H) ∨ rBest K minI xs H Q
  | .max => fun xs H Q => (∃ i j, xs = [.int i, .int j] ∧ Q (.int (if j > i then j else i)) H) ∨ rBest K maxI xs H Q
  | .all => rAll K
  | .any => rAny K
  | .abs => fun xs H Q => ∃ i, xs = [.int i] ∧ Q (.int (if i < 0 then -i else i)) H
  | .isinst => fun xs H Q => rIsi K xs H Q ∨ rIsiT K xs H Q
  | .sorted => fun xs H Q => rSortIA K xs H Q ∨ rSortedPO K xs H Q
  | _ => fun _ _ _ => False
def bfV : Bf → Option Value
  | .len => some (.builtin "len") | .tuple => some (.type "tuple") | .list => some (.type "list") | .int => some (.type "int") | .min => some (.builtin "min") | .max => some (.builtin "max") | .all => some (.builtin "all") | .any => some (.builtin "any") | .abs => some (.builtin "abs") | .isinst => some (.builtin "isinstance") | .sorted => some (.builtin "sorted")
  | _ => none
theorem bf_ok {X : Cx} (hc : X.calm = true) (hu : X.A.units + 65 < cLine) {f : Bf} {v : Value} (e : bfV f = some v) : CallR X v (bfQ X.K f) := by
  cases f <;> first | (cases e; done) | skip
  case len => cases e; exact call_len_seq.or call_lenD
  case tuple => cases e; exact call_tuple_of
  case list => cases e; exact call_list_of
  case int => cases e; exact call_int1
  case min => cases e; exact (call_min2 hc).or (cr_minA hc hu)
  case max => cases e; exact (call_max2 hc).or (cr_maxA hc hu)
  case all => cases e; exact cr_all hc
  case any => cases e; exact cr_any hc
  case abs => cases e; exact call_abs
  case isinst => cases e; exact call_isi.or call_isiT
  case sorted => cases e; exact cr_sortIA.or cr_sortedPO
section
variable {G : Gp} {W : WX} {σ : L2.St} {ρ : Rh} {H : Hp} {h : Hx} {Q : V → Hp → Prop} {K : PySem.W.Frag}
theorem seq_ref {n : Nat} {x : V} {xs : List Vl} (hr : HR ρ h H) (r : RV ρ H (.ref n) x) (e : seqOf (.ref n) h = some xs) : ∃ a ys, x = .ref a ∧ RVs ρ H xs ys ∧ SqL K H a ys := by
  unfold seqOf at e
  dsimp only at e
  split at e
  · rename_i g
    cases e
    obtain ⟨a, ys, rfl, _, ha, ra⟩ := lst_at hr r g
    exact ⟨a, ys, rfl, ra, SqL.of ha⟩
  · rename_i g
    cases e
    obtain ⟨a, o, ys, rfl, _, ha, ra⟩ := ro_at hr r g
    exact ⟨a, ys, rfl, ra, .inl (.inr ⟨o, ha⟩)⟩
  · cases e
theorem bf_s {f : Bf} {vs : List Vl} {xs : List V} (hr : HR ρ h H) (rv : RVs ρ H vs xs) (sp : Sp G W σ RV ρ H (bfE f vs h) Q) (hl : f ≠ .lenset) (hs : f ≠ .sortset) : bfQ K f xs H Q := by
  unfold bfE at sp
  split at sp
  -- len
  · rename_i v
    obtain ⟨x, rfl, r⟩ := rv.one_inv
    split at sp
    · rename_i ys
      obtain ⟨a, us, rfl, ha, ra⟩ := r.tup_inv
      rw [llen_eq, ra.length] at sp
      exact .inl ⟨a, us, rfl, .inr (SqT.of ha), sp_ok hr RV.int_of sp⟩
    · exact sp.elim
    · split at sp
      · rename_i g
        obtain ⟨a, us, rfl, _, ha, ra⟩ := lst_at hr r g
        rw [llen_eq, ra.length] at sp
        exact .inl ⟨a, us, rfl, .inl (SqL.of ha), sp_ok hr RV.int_of sp⟩
      · rename_i g
        obtain ⟨a, o, us, rfl, _, ha, ra⟩ := ro_at hr r g
        rw [llen_eq, ra.length] at sp
        exact .inl ⟨a, us, rfl, .inl (.inl (.inr ⟨o, ha⟩)), sp_ok hr RV.int_of sp⟩
      · rename_i g
        obtain ⟨a, us, rfl, _, ha, ra⟩ := dk_at hr r g
        rw [llen_eq, rk_length ra] at sp
        exact .inr ⟨a, us, rfl, ha, sp_ok hr RV.int_of sp⟩
      · exact sp.elim
    · exact sp.elim
  -- tuple
  · rename_i v
    obtain ⟨x, rfl, r⟩ := rv.one_inv
    split at sp
    · rename_i ys
      obtain ⟨a, us, rfl, ha, ra⟩ := r.tup_inv
      exact ⟨a, us, rfl, .inr ⟨SqT.of ha, sp_ok hr (RV.tup_of ha ra) sp⟩⟩
    · split at sp
      · rename_i g
        obtain ⟨a, us, rfl, _, ha, ra⟩ := lst_at hr r g
        exact ⟨a, us, rfl, .inl ⟨SqL.of ha, nt_s' hr ra sp⟩⟩
      · exact sp.elim
    · exact sp.elim
  -- list
  · rename_i v
    obtain ⟨x, rfl, r⟩ := rv.one_inv
    split at sp
    · rename_i ys e
      obtain ⟨a, us, rfl, ra, q⟩ := seq_at (K := K) hr r e
      exact ⟨a, us, rfl, q, (nl_s hr ra sp).2⟩
    · exact sp.elim
  -- int
  · rename_i v
    obtain ⟨x, rfl, r⟩ := rv.one_inv
    split at sp
    · rename_i i
      exact .inl ⟨i, by rw [r.int_inv], sp_ok hr RV.int_of sp⟩
    · exact sp.elim
  -- min, max of two
  · rename_i i j
    obtain ⟨x, y, rfl, r1, r2⟩ := rv.two_inv
    refine .inl ⟨i, j, by rw [r1.int_inv, r2.int_inv], ?_⟩
    have q := sp_ok hr RV.int_of sp
    rw [ilt_eq] at q
    by_cases c : j < i
    · rw [if_pos c]; rw [decide_eq_true c] at q; exact q
    · rw [if_neg c]; rw [decide_eq_false c] at q; exact q
  · rename_i i j
    obtain ⟨x, y, rfl, r1, r2⟩ := rv.two_inv
    refine .inl ⟨i, j, by rw [r1.int_inv, r2.int_inv], ?_⟩
    have q := sp_ok hr RV.int_of sp
    rw [ilt_eq] at q
    by_cases c : i < j
    · rw [if_pos c]; rw [decide_eq_true c] at q; exact q
    · rw [if_neg c]; rw [decide_eq_false c] at q; exact q
  -- max, min of a sequence
  · rename_i v
    obtain ⟨x, rfl, r⟩ := rv.one_inv
    split at sp
    · rename_i ys e
      obtain ⟨a, us, rfl, ra, q⟩ := seq_at (K := K) hr r e
      split at sp
      · rename_i i is e2
        rw [ints_rv e2 ra] at q
        exact .inr ⟨a, i, is, rfl, q, sp_ok hr RV.int_of sp⟩
      · exact sp.elim
    · exact sp.elim
  · rename_i v
    obtain ⟨x, rfl, r⟩ := rv.one_inv
    split at sp
    · rename_i ys e
      obtain ⟨a, us, rfl, ra, q⟩ := seq_at (K := K) hr r e
      split at sp
      · rename_i i is e2
        rw [ints_rv e2 ra] at q
        exact .inr ⟨a, i, is, rfl, q, sp_ok hr RV.int_of sp⟩
      · exact sp.elim
    · exact sp.elim
  -- all, any
  · rename_i n
    obtain ⟨x, rfl, r⟩ := rv.one_inv
    split at sp
    · rename_i ys g
      obtain ⟨a, us, rfl, _, ha, ra⟩ := lst_at hr r g
      split at sp
      · rename_i bs e
        rw [bools_rv e ra] at ha
        rw [allB_eq] at sp
        exact ⟨a, bs, rfl, SqL.of ha, sp_ok hr RV.bl_of sp⟩
      · exact sp.elim
    · exact sp.elim
  · rename_i n
    obtain ⟨x, rfl, r⟩ := rv.one_inv
    split at sp
    · rename_i ys g
      obtain ⟨a, us, rfl, _, ha, ra⟩ := lst_at hr r g
      split at sp
      · rename_i bs e
        rw [bools_rv e ra] at ha
        rw [anyB_eq] at sp
        exact ⟨a, bs, rfl, SqL.of ha, sp_ok hr RV.bl_of sp⟩
      · exact sp.elim
    · exact sp.elim
  -- isinstance
  · rename_i v c
    obtain ⟨x, y, rfl, r1, r2⟩ := rv.two_inv
    split at sp
    · rename_i t e
      have ty := type_s (K := K) hr r1 e
      split at sp
      · rename_i n
        rw [r2.ty_inv]
        exact .inl ⟨x, _, _, _, _, rfl, .ty _, ty, kit_ty (kit_bt t n), sp_ok hr RV.bl_of sp⟩
      · rename_i l
        obtain ⟨a, ys, rfl, ha, ra⟩ := r2.tup_inv
        split at sp
        · rename_i ns e2
          exact .inr ⟨x, a, ys, _, _, _, rfl, ha, tyList_s e2 ra, ty, isAny_s t ns, sp_ok hr RV.bl_of sp⟩
        · exact sp.elim
      · exact sp.elim
    · exact sp.elim
  -- sorted
  · rename_i v
    obtain ⟨x, rfl, r⟩ := rv.one_inv
    split at sp
    · rename_i ys e
      obtain ⟨a, us, ex, ra, q⟩ := seq_at (K := K) hr r e
      split at sp
      · rename_i is e2
        rw [ints_rv e2 ra] at q
        refine .inl ⟨a, is, by rw [ex], q, fun ns' p h1 h2 hp => ?_⟩
        rw [sortI_is h1 h2]
        exact (nl_s hr (ints_of_rv _) sp).2 p hp
      · split at sp
        · rename_i n ps e3
          obtain ⟨a, us, ex, ra, q'⟩ := seq_ref (K := K) hr r e
          obtain ⟨k1, k2, k3⟩ := pairs_rv e3 ra
          refine .inr ⟨a, us, pairAt H, by rw [ex], q', k3, fun zs p h1 h2 hp => ?_⟩
          have pm : (zs.map (pairAt H)).Perm ps := by rw [k1]; exact h2.perm.map _
          have so : (zs.map (pairAt H)).Pairwise pLe := List.pairwise_map.mpr h1
          have rz : RVs ρ H ((sortP ps).map ofP) zs := by
            rw [← sortP_is pm so]
            exact ofP_rv fun z hz => k2 z (h2.perm.mem_iff.mp hz)
          exact (nl_s hr rz sp).2 p hp
        · exact sp.elim
    · exact sp.elim
  · exact absurd rfl hl
  · exact absurd rfl hs
  -- abs
  · rename_i i
    obtain ⟨x, rfl, r⟩ := rv.one_inv
    refine ⟨i, by rw [r.int_inv], ?_⟩
    have q := sp_ok hr RV.int_of sp
    rw [ilt_eq] at q
    by_cases c : i < 0
    · rw [if_pos c]; rw [decide_eq_true c] at q; exact q
    · rw [if_neg c]; rw [decide_eq_false c] at q; exact q
  · exact sp.elim
end
end Mini
set_option Elab.async false
set_option linter.all false
/-! M11: subscripts, calls, methods, walks as terms. -/
namespace Mini
open PySem L2 PySem.Spec PyProof.Rows
section
variable {G : Gp} {c : Cc} {d : Nat} {W : WX} {X : Cx}
theorem XC.hu (x : XC G c d W X) : X.A.units + 65 < cLine := by have := x.room.un; omega
/-! ### o[i] -/
theorem ix_dget (hu : X.A.units + 1 < cLine) : IxR X (fun x y H Q => ∃ a v, x = .ref a ∧ DGet H a y (some v) ∧ Q v H) := by
  intro value slice pins s σ H x y v u Q I rx ry h hs
  obtain ⟨a, w, rfl, g, q⟩ := h
  obtain rfl : v = Value.ref a := rx
  exact tail_any (dict_typeIs I g) PySem.F.slot_dict_getitem.lookup (d_getItem hu I g ry fun w' s3 I3 rw' => ⟨w, H, I3, rw', q⟩) hs
theorem plain_ix {f : Nat} {b : Expr} {m : M} (h : cE f c b = some m) : PlainIx b := by
  cases f with
  | zero => unfold cE at h; cases h
  | succ f =>
    cases b <;> first | exact fun _ _ => rfl | (unfold cE at h; cases h)
theorem s_item {call : Fn} {r : Ev} (x : XC G c d W X) {f : Nat} {a i : Expr} {p : Pos} {ma mi : M} (hi : cE f c i = some mi) (ha : PE X a (tE G W (r.e ma))) (hb : PE X i (tE G W (r.e mi))) : PE X (.Subscript a i p) (tE G W ((step call r).e (.op .item ma mi))) :=
  s_op (fun ta tb h1 h2 => pe_ix (ix_seq.or (ix_dget (by have := x.hu; omega))) h1 h2 (plain_ix hi)) (fun x y H Q h => h) ha hb
/-! ### built-in functions -/
theorem bf_boot {n : Str} {f : Bf} (h : bfNames.lookup n = some f) : n ∈ bnames ∧ n ≠ "__name__" ∧ (n == ("__debug__" : Str)) = false ∧ ∃ v, bfV f = some v ∧ bootBuiltins n = some v := by
  unfold bfNames at h
  simp only [List.lookup] at h
  repeat' split at h
  all_goals first
    | (cases h; done)
    | (rename_i z; have z := eq_of_beq z; subst z; cases h; exact ⟨by decide +kernel, by decide +kernel, by decide +kernel, _, rfl, by decide +kernel⟩)
theorem bfV_kind {f : Bf} {v : Value} (h : bfV f = some v) : (∃ n, v = .builtin n) ∨ ∃ n, v = .type n := by
  cases f <;> cases h <;> first | exact .inl ⟨_, rfl⟩ | exact .inr ⟨_, rfl⟩
theorem s_bf {call : Fn} {r : Ev} (x : XC G c d W X) (hm : ∀ x ∈ bnames, G.mg x = none) {n : Str} {p pos : Pos} {e : Expr} {es : List Expr} {f : Bf} {ms : List M} (hf : bfNames.lookup n = some f) (hg : c.sc.names.lookup n = some .globalImplicit) (hs : ∀ y ∈ e :: es, NoStar y) (ha : PA X (e :: es) (tA G W (r.es ms))) :
    PE X (.Call (.Name n p) (e :: es) [] pos) (tE G W ((step call r).e (.bf f ms))) := by
  obtain ⟨k1, k2, k3, v, hv, hb⟩ := bf_boot hf
  have ok := bf_ok (X := X) x.calm x.hu hv
  have base : PE X (.Call (.Name n p) (e :: es) [] pos) (tCB (bfQ X.K f) (tA G W (r.es ms))) := by
    rcases bfV_kind hv with ⟨i, rfl⟩ | ⟨i, rfl⟩
    · exact pe_callB ok (Gl_of x hg) (by rw [x.mg]; exact hm n k1) hb ha k2 k3 (star_ne (hs e List.mem_cons_self)) (stars_ne fun y hy => hs y (List.mem_cons_of_mem _ hy))
    · exact pe_callTy ok (Gl_of x hg) (by rw [x.mg]; exact hm n k1) hb ha k2 k3 (star_ne (hs e List.mem_cons_self)) (stars_ne fun y hy => hs y (List.mem_cons_of_mem _ hy))
  refine PE.imp base fun σ H Q q => ?_
  obtain ⟨ρ, h, s, hr, rs, sp⟩ := q
  refine tR_bind hr rs sp fun vs ρ1 H1 xs h1 e1 hr1 rs1 rv1 sp1 => ?_
  exact bf_s hr1 rv1 sp1 (fun z => by subst z; cases hv) fun z => by subst z; cases hv
theorem s_lenset {call : Fn} {r : Ev} (x : XC G c d W X) (hm : ∀ x ∈ bnames, G.mg x = none) {p p2 q pos : Pos} {a : Expr} {m : M} (hg : c.sc.names.lookup ("len" : Str) = some .globalImplicit) (hg2 : c.sc.names.lookup ("set" : Str) = some .globalImplicit) (hn : NoStar a) (ha : PE X a (tE G W (r.e m))) :
    PE X (.Call (.Name "len" p) [.Call (.Name "set" p2) [a] [] q] [] pos) (tE G W ((step call r).e (.us .lenset m))) := by
  refine PE.imp (pe_ofSet (Gl_of x hg) (by rw [x.mg]; exact hm _ (by decide +kernel)) boot_len (by decide +kernel) (by decide +kernel) x.calm (Gl_of x hg2) (by rw [x.mg]; exact hm _ (by decide +kernel)) ha (star_ne hn) rs_len) fun σ H Q q => ?_
  obtain ⟨ρ, h, s, hr, rs, sp⟩ := q
  refine tR_bind hr rs sp fun v ρ1 H1 x1 h1 e1 hr1 rs1 rv1 sp1 => ?_
  unfold bfE at sp1
  dsimp only at sp1
  split at sp1
  · rename_i xs g
    obtain ⟨l, ys, rfl, ra, hq⟩ := seq_at (K := X.K) hr1 rv1 g
    split at sp1
    · rename_i is g2
      rw [ints_rv g2 ra] at hq
      cases c1 : Nat.blt (llen is) 4000 with
      | false => rw [c1] at sp1; exact sp1.elim
      | true =>
        rw [c1] at sp1
        have c2 : is.length < 4000 := by
          have := Nat.le_of_ble_eq_true c1
          rw [llen_eq] at this; exact this
        refine ⟨l, is, rfl, hq, c2, ?_⟩
        have q := sp_ok hr1 RV.int_of sp1
        rw [llen_eq] at q
        exact q
    · exact sp1.elim
  · exact sp1.elim
theorem rs_sort : ∀ (pins : List (Addr × Obj)) (σ : L2.St) (H : Hp) (s : Shared) (S : Addr) (ns : List Int) (Q : VK), Inv X pins σ H s → SetR X.w s.heap S (fun j => decide (j ∈ ns)) (sortU ns).length → ns.length < 4000 → (ns.length < 64 ∧ X.calm = true ∧ ∀ p, H p = none → Q (.ref p) (upd H p (.lst ((sortU ns).map V.int)))) → wpAny (model X.prog X.w) X.A (call (.builtin "sorted") [.ref S]) (EP X pins σ Q) X.xe s := fun pins σ H s S ns Q I R _ ⟨hl, hc, q⟩ => by
  have h64 : (sortU ns).length < 64 := Nat.lt_of_le_of_lt (sortU_le ns) hl
  refine sorted_set R (I.ok.hd hc) h64 fun s' p out c is k g o hp hg hi hs hm hl => ?_
  have e : is = sortU ns := sorted_same hs (sortU_lt ns) fun x => by rw [hm x, sortU_mem]; simp
  subst e
  have hlen : ((sortU ns).map V.int).length ≤ sizeLine := by rw [List.length_map, sizeLine_eq]; omega
  have hn : H p = none := I.hok.fresh hp
  have J : Inv X pins σ (upd H p (.lst ((sortU ns).map V.int))) { s with heap := s'.heap, gens := s'.gens, drawn := s'.drawn, toks := s'.toks } :=
    I.call (ch := []) (Un.laid k hp hn) (I.hok.laid k hp ⟨hlen, out.toList, c, vals_of_ints hi, hg⟩) (by rw [g]; exact I.bare) (fun _ z => nomatch z)
  have e : s' = { s with heap := s'.heap, gens := s'.gens, drawn := s'.drawn, toks := s'.toks } := by
    cases s'
    cases s
    cases o
    rfl
  rw [e]
  exact ⟨.ref p, _, J, rfl, q p hn⟩
theorem s_sortset {call : Fn} {r : Ev} (x : XC G c d W X) (hm : ∀ x ∈ bnames, G.mg x = none) {p p2 q pos : Pos} {a : Expr} {m : M} (hg : c.sc.names.lookup ("sorted" : Str) = some .globalImplicit) (hg2 : c.sc.names.lookup ("set" : Str) = some .globalImplicit) (hn : NoStar a) (ha : PE X a (tE G W (r.e m))) :
    PE X (.Call (.Name "sorted" p) [.Call (.Name "set" p2) [a] [] q] [] pos) (tE G W ((step call r).e (.us .sortset m))) := by
  refine PE.imp (pe_ofSet (Gl_of x hg) (by rw [x.mg]; exact hm _ (by decide +kernel)) boot_sorted (by decide +kernel) (by decide +kernel) x.calm (Gl_of x hg2) (by rw [x.mg]; exact hm _ (by decide +kernel)) ha (star_ne hn) rs_sort) fun σ H Q q => ?_
  obtain ⟨ρ, h, s, hr, rs, sp⟩ := q
  refine tR_bind hr rs sp fun v ρ1 H1 x1 h1 e1 hr1 rs1 rv1 sp1 => ?_
  unfold bfE at sp1
  dsimp only at sp1
  split at sp1
  · rename_i xs g
    obtain ⟨l, ys, rfl, ra, hq⟩ := seq_at (K := X.K) hr1 rv1 g
    split at sp1
    · rename_i is g2
      rw [ints_rv g2 ra] at hq
      cases c1 : Nat.blt (llen is) 64 with
      | false => rw [c1] at sp1; exact sp1.elim
      | true =>
        rw [c1] at sp1
        have c2 : is.length < 64 := by
          have := Nat.le_of_ble_eq_true c1
          rw [llen_eq] at this; exact this
        exact ⟨l, is, rfl, hq, by omega, c2, x.calm, (nl_s hr1 (ints_of_rv _) sp1).2⟩
    · exact sp1.elim
  · exact sp1.elim
/-! ### methods of lists -/
theorem not_base {o : Expr} {n : Str} {env : PySem.Env} {w : Sem Value} (h : notCall o = true) : attributeBase o n env w = w := by
  cases o <;> first | rfl | cases h
def mfQ (K : PySem.W.Frag) : Mf → V → List V → Hp → VK → Prop
  | .append => rAppend
  | .extend => rExtend
  | .pop => rPop
  | _ => fun _ _ _ _ => False
theorem few_ok {es : List Expr} {pos : Pos} {env : PySem.Env} (hs : ∀ y ∈ es, NoStar y) (hl : es.length < 29) : ((backTo pos (starEach es env)).all (fun x => !x.1) && (backToKw pos (keywordEach [] env)).all (fun x => x.1.isSome) && decide (es.length + ([] : List Keyword).length + (if ([] : List Keyword).isEmpty then 0 else 1) < 30)) = true := by
  rw [stars_all hs, Bool.true_and, Bool.and_eq_true]
  exact ⟨rfl, decide_eq_true (by show es.length + 0 + 0 < 30; omega)⟩
theorem pe_mf {o e : Expr} {es : List Expr} {n : Str} {f : Mf} {apos cpos : Pos} {to : TE} {t : TA} (hf : mfNames.lookup n = some f) (hl : (apos.endLine == cpos.line) = true) (h29 : (e :: es).length < 29) (hn : notCall o = true) (hs : ∀ y ∈ e :: es, NoStar y) (ho : PE X o to) (ha : PA X (e :: es) t) :
    PE X (.Call (.Attribute o n apos) (e :: es) [] cpos) (tBM X.K "list" (mfQ X.K f) to t) := by
  unfold mfNames at hf
  simp only [List.lookup] at hf
  have st := star_ne (env := X.env) (es := es) (hs e List.mem_cons_self)
  have sts := stars_ne (pos := cpos) (env := X.env) fun y hy => hs y (List.mem_cons_of_mem e hy)
  split at hf
  · rename_i z; have z := eq_of_beq z; subst z; cases hf
    exact pe_bm PySem.F.plainAttrs_list PySem.F.slot_list_append PySem.F.type_list_append mt_append ho ha (not_base hn) (few_ok hs h29) hl st sts
  split at hf
  · rename_i z; have z := eq_of_beq z; subst z; cases hf
    exact pe_bm PySem.F.plainAttrs_list PySem.F.slot_list_extend PySem.F.type_list_extend mt_extend ho ha (not_base hn) (few_ok hs h29) hl st sts
  split at hf
  · rename_i z; have z := eq_of_beq z; subst z; cases hf
    exact pe_bm PySem.F.plainAttrs_list PySem.F.slot_list_pop PySem.F.type_list_pop mt_pop ho ha (not_base hn) (few_ok hs h29) hl st sts
  cases hf
theorem pe_mf0 {o : Expr} {n : Str} {f : Mf} {apos cpos : Pos} {to : TE} (hf : mfNames.lookup n = some f) (hl : (apos.endLine == cpos.line) = true) (hn : notCall o = true) (ho : PE X o to) :
    PE X (.Call (.Attribute o n apos) [] [] cpos) (tBM0 X.K "list" (mfQ X.K f) to) := by
  unfold mfNames at hf
  simp only [List.lookup] at hf
  split at hf
  · rename_i z; have z := eq_of_beq z; subst z; cases hf
    exact pe_bm0 PySem.F.plainAttrs_list PySem.F.slot_list_append PySem.F.type_list_append mt_append ho (not_base hn) hl
  split at hf
  · rename_i z; have z := eq_of_beq z; subst z; cases hf
    exact pe_bm0 PySem.F.plainAttrs_list PySem.F.slot_list_extend PySem.F.type_list_extend mt_extend ho (not_base hn) hl
  split at hf
  · rename_i z; have z := eq_of_beq z; subst z; cases hf
    exact pe_bm0 PySem.F.plainAttrs_list PySem.F.slot_list_pop PySem.F.type_list_pop mt_pop ho (not_base hn) hl
  cases hf
theorem lst_is {ρ : Rh} {H : Hp} {h : Hx} {n : Nat} {x : V} {xs : List Vl} {K : PySem.W.Frag} (hr : HR ρ h H) (r : RV ρ H (.ref n) x) (g : lstAt h n = some xs) : ∃ a ys, x = .ref a ∧ RVs ρ H xs ys ∧ SqL K H a ys := by
  unfold lstAt at g
  split at g
  · rename_i g2; cases g
    obtain ⟨a, ys, rfl, _, ha, ra⟩ := lst_at hr r g2
    exact ⟨a, ys, rfl, ra, SqL.of ha⟩
  · rename_i g2; cases g
    obtain ⟨a, o, ys, rfl, _, ha, ra⟩ := ro_at hr r g2
    exact ⟨a, ys, rfl, ra, .inl (.inr ⟨o, ha⟩)⟩
  · cases g
theorem getLast_rv {ρ : Rh} {H : Hp} : ∀ {xs : List Vl} {ys : List V}, RVs ρ H xs ys → RVs ρ H xs.dropLast ys.dropLast
  | [], _, r => by rw [r.nil_inv]; exact RVs.nil
  | [v], _, r => by
    obtain ⟨y, r', rfl, a, t⟩ := r.cons_inv
    rw [t.nil_inv]; exact RVs.nil
  | v :: w :: xs, _, r => by
    obtain ⟨y, r', rfl, a, t⟩ := r.cons_inv
    obtain ⟨y2, r2, rfl, a2, t2⟩ := t.cons_inv
    exact RVs.cons a (getLast_rv t)
theorem mf_s {K : PySem.W.Frag} {f : Mf} {σ : L2.St} {ρ : Rh} {H : Hp} {h : Hx} {Q : V → Hp → Prop} {v : Vl} {x : V} {vs : List Vl} {xs : List V} (hr : HR ρ h H) (rx : RV ρ H v x) (rv : RVs ρ H vs xs) (sp : Sp G W σ RV ρ H (mfE f v vs h) Q) : mfQ K f x xs H Q := by
  unfold mfE at sp
  split at sp
  · rename_i n w
    obtain ⟨y, rfl, ry⟩ := rv.one_inv
    split at sp
    · rename_i us g
      obtain ⟨a, ys, rfl, ea, ha, ra⟩ := lst_at hr rx g
      cases e : okLen us with
      | false => rw [e] at sp; exact sp.elim
      | true =>
        rw [e] at sp
        have hl : ys.length < sizeLine := by
          rw [← ra.length, sizeLine_eq]; have := okLen_le e; omega
        refine ⟨a, ys, y, rfl, rfl, ha, hl, ?_⟩
        have ex : Ex ρ H ρ (upd H a (.lst (ys ++ [y]))) := Ex.put ha (fun _ z => nomatch z) fun _ z => nomatch z
        exact sp ρ _ _ ex (hr.put ea ha (fun _ z => nomatch z) (fun _ z => nomatch z) ⟨_, upd_same, RVs.mono ex _ _ (ra.append (RVs.cons ry RVs.nil))⟩) RV.non_of
    · exact sp.elim
  · rename_i n m
    obtain ⟨y, rfl, ry⟩ := rv.one_inv
    split at sp
    · rename_i us ws g g2
      obtain ⟨a, ys, rfl, ea, ha, ra⟩ := lst_at hr rx g
      obtain ⟨b, zs, rfl, eb, hb, rb⟩ := lst_at hr ry g2
      cases e : okLen us && okLen ws with
      | false => rw [e] at sp; exact sp.elim
      | true =>
        rw [e] at sp
        obtain ⟨e1, e2⟩ := Bool.and_eq_true_iff.mp e
        have hl : ys.length + zs.length ≤ sizeLine := by
          rw [← ra.length, ← rb.length, sizeLine_eq]; have := okLen_le e1; have := okLen_le e2; omega
        refine ⟨a, b, ys, zs, rfl, rfl, ha, hb, hl, ?_⟩
        have ex : Ex ρ H ρ (upd H a (.lst (ys ++ zs))) := Ex.put ha (fun _ z => nomatch z) fun _ z => nomatch z
        exact sp ρ _ _ ex (hr.put ea ha (fun _ z => nomatch z) (fun _ z => nomatch z) ⟨_, upd_same, RVs.mono ex _ _ (ra.append rb)⟩) RV.non_of
    · exact sp.elim
  · rename_i n
    have e0 := rv.nil_inv
    subst e0
    split at sp
    · rename_i us g
      obtain ⟨a, ys, rfl, ea, ha, ra⟩ := lst_at hr rx g
      split at sp
      · rename_i u gu
        rw [lget_eq, llen_eq] at gu
        obtain ⟨y, hy, ry⟩ := ra.get gu
        rw [ra.length] at hy
        refine ⟨a, ys, y, rfl, rfl, ha, hy, ?_⟩
        have ex : Ex ρ H ρ (upd H a (.lst ys.dropLast)) := Ex.put ha (fun _ z => nomatch z) fun _ z => nomatch z
        exact sp ρ _ _ ex (hr.put ea ha (fun _ z => nomatch z) (fun _ z => nomatch z) ⟨_, upd_same, RVs.mono ex _ _ (getLast_rv ra)⟩) (RV.mono ex _ _ ry)
      · exact sp.elim
    · exact sp.elim
  · exact sp.elim
theorem s_mf {call : Fn} {r : Ev} (x : XC G c d W X) {o e : Expr} {es : List Expr} {n : Str} {f : Mf} {apos cpos : Pos} {mo : M} {ms : List M} (hf : mfNames.lookup n = some f) (hl : (apos.endLine == cpos.line) = true) (h29 : (e :: es).length < 29) (hn : notCall o = true) (hs : ∀ y ∈ e :: es, NoStar y) (ho : PE X o (tE G W (r.e mo))) (ha : PA X (e :: es) (tA G W (r.es ms))) :
    PE X (.Call (.Attribute o n apos) (e :: es) [] cpos) (tE G W ((step call r).e (.mf f mo ms))) := by
  refine PE.imp (pe_mf hf hl h29 hn hs ho ha) fun σ H Q q => ?_
  obtain ⟨ρ, h, s, hr, rs, sp⟩ := q
  refine tR_bind hr rs sp fun v ρ1 H1 x1 h1 e1 hr1 rs1 rv1 sp1 => ?_
  split at sp1
  · rename_i k
    split at sp1
    · rename_i us g
      obtain ⟨a, ys, e2, ra, hq⟩ := lst_is (K := X.K) hr1 rv1 g
      refine ⟨?_, tR_bind hr1 rs1 sp1 fun vs ρ2 H2 xs h2 e3 hr2 rs2 rv2 sp2 => mf_s hr2 (RV.mono e3 _ _ rv1) rv2 sp2⟩
      rw [e2]
      exact .inl ⟨rfl, ys, hq⟩
    · exact sp1.elim
  · exact sp1.elim
theorem s_mf0 {call : Fn} {r : Ev} (x : XC G c d W X) {o : Expr} {n : Str} {f : Mf} {apos cpos : Pos} {mo : M} (hr0 : ∀ s h, r.es [] s h = .ok [] h ∨ r.es [] s h = .no) (hf : mfNames.lookup n = some f) (hl : (apos.endLine == cpos.line) = true) (hn : notCall o = true) (ho : PE X o (tE G W (r.e mo))) :
    PE X (.Call (.Attribute o n apos) [] [] cpos) (tE G W ((step call r).e (.mf f mo []))) := by
  refine PE.imp (pe_mf0 hf hl hn ho) fun σ H Q q => ?_
  obtain ⟨ρ, h, s, hr, rs, sp⟩ := q
  refine tR_bind hr rs sp fun v ρ1 H1 x1 h1 e1 hr1 rs1 rv1 sp1 => ?_
  split at sp1
  · rename_i k
    split at sp1
    · rename_i us g
      obtain ⟨a, ys, e2, ra, hq⟩ := lst_is (K := X.K) hr1 rv1 g
      rcases hr0 s h1 with z | z
      · rw [z] at sp1
        refine ⟨?_, mf_s hr1 rv1 RVs.nil sp1⟩
        rw [e2]
        exact .inl ⟨rfl, ys, hq⟩
      · rw [z] at sp1; exact sp1.elim
    · exact sp1.elim
  · exact sp1.elim
/-! ### walks -/
inductive RWk (K : PySem.W.Frag) (ρ : Rh) (H : Hp) : Wk → It → Prop where
  | lst {n : Nat} {a : Addr} (h : ρ[n]? = some a) : RWk K ρ H (.lst n) (Itl K a)
  | tup {xs : List Vl} {a : Addr} {ys : List V} (h : H a = some (.tup ys)) (r : RVs ρ H xs ys) : RWk K ρ H (.tup xs) (Itt K a)
  | rng {lo : Int} {n : Nat} : RWk K ρ H (.rng lo n) (Itr lo n)
  | enumL {n : Nat} {a : Addr} (h : ρ[n]? = some a) : RWk K ρ H (.enumL n) (Ite K a)
  | enumT {xs : List Vl} {a : Addr} {ys : List V} (h : H a = some (.tup ys)) (r : RVs ρ H xs ys) : RWk K ρ H (.enumT xs) (IteT K a)
  | zipL {n m : Nat} {a b : Addr} (h : ρ[n]? = some a) (g : ρ[m]? = some b) : RWk K ρ H (.zipL n m) (Itz K a b)
  | zipT {xs ys : List Vl} {a b : Addr} {us vs : List V} (h : H a = some (.tup us)) (r : RVs ρ H xs us) (g : H b = some (.tup vs)) (r2 : RVs ρ H ys vs) : RWk K ρ H (.zipT xs ys) (RZ.ItzT K a b)
theorem RWk.mono {K : PySem.W.Frag} {ρ ρ' : Rh} {H H' : Hp} (e : Ex ρ H ρ' H') {k : Wk} {J : It} (r : RWk K ρ H k J) : RWk K ρ' H' k J := by
  cases r with
  | lst h => exact .lst (e.at h)
  | tup h r => exact .tup (e.tup _ _ h) (RVs.mono e _ _ r)
  | rng => exact .rng
  | enumL h => exact .enumL (e.at h)
  | enumT h r => exact .enumT (e.tup _ _ h) (RVs.mono e _ _ r)
  | zipL h g => exact .zipL (e.at h) (e.at g)
  | zipT h r g r2 => exact .zipT (e.tup _ _ h) (RVs.mono e _ _ r) (e.tup _ _ g) (RVs.mono e _ _ r2)
abbrev tW (G : Gp) (K : PySem.W.Frag) (W : WX) (run : Env → Hx → R Wk) : TI := tR G W (RWk K) run
theorem PI.ext {X : Cx} {tg e : Expr} {t t' : TI} (h : PI X tg e t) (i : ∀ σ H Q, t' σ H Q → t σ H Q) : PI X tg e t' := ⟨fun pins s σ H Q I q => h.run pins s σ H Q I (i σ H Q q)⟩
theorem s_wseq {call : Fn} {r : Ev} {tg e : Expr} {m : M} (he : PE X e (tE G W (r.e m))) : PI X tg e (tW G X.K W ((step call r).w (.seq m))) := by
  refine PI.ext (pi_seq he) fun σ H Q q => ?_
  obtain ⟨ρ, h, s, hr, rs, sp⟩ := q
  refine tR_bind hr rs sp fun v ρ1 H1 x1 h1 e1 hr1 rs1 rv1 sp1 => ?_
  split at sp1
  · obtain ⟨a, ys, rfl, ha, ra⟩ := rv1.tup_inv
    exact ⟨a, rfl, .inr ⟨⟨ys, SqT.of ha⟩, sp1 ρ1 H1 _ (Ex.refl _ _) hr1 (.tup ha ra)⟩⟩
  · split at sp1
    · rename_i g
      obtain ⟨a, rfl, ea⟩ := rv1.ref_inv
      obtain ⟨a', ys, e2, ra, hq⟩ := lst_is (K := X.K) hr1 rv1 g
      cases e2
      exact ⟨a, rfl, .inl ⟨⟨ys, hq⟩, sp1 ρ1 H1 _ (Ex.refl _ _) hr1 (.lst ea)⟩⟩
    · exact sp1.elim
  · exact sp1.elim
theorem nblt_lt {a b : Nat} (h : Nat.blt a b = true) : a < b := Nat.le_of_ble_eq_true h
theorem s_rng1 {call : Fn} {r : Ev} (x : XC G c d W X) (hm : ∀ x ∈ bnames, G.mg x = none) {tg a : Expr} {m : M} {p pos : Pos} (hg : c.sc.names.lookup ("range" : Str) = some .globalImplicit) (hn : NoStar a) (ha : PA X [a] (tA G W (r.es [m]))) :
    PI X tg (.Call (.Name "range" p) [a] [] pos) (tW G X.K W ((step call r).w (.rng1 m))) := by
  refine PI.ext (pi_range1 (Gl_of x hg) (by rw [x.mg]; exact hm _ (by decide +kernel)) ha (star_ne hn)) fun σ H Q q => ?_
  obtain ⟨ρ, h, s, hr, rs, sp⟩ := q
  refine tR_bind hr rs sp fun vs ρ1 H1 xs h1 e1 hr1 rs1 rv1 sp1 => ?_
  split at sp1
  · rename_i j
    obtain ⟨y, rfl, ry⟩ := rv1.one_inv
    cases e : Nat.blt j.natAbs 1000000 with
    | false => rw [e] at sp1; exact sp1.elim
    | true =>
      rw [e] at sp1
      have := nblt_lt e
      exact ⟨j, by rw [ry.int_inv], by omega, by omega, sp1 ρ1 H1 _ (Ex.refl _ _) hr1 .rng⟩
  · exact sp1.elim
theorem s_rng2 {call : Fn} {r : Ev} (x : XC G c d W X) (hm : ∀ x ∈ bnames, G.mg x = none) {tg a b : Expr} {m m' : M} {p pos : Pos} (hg : c.sc.names.lookup ("range" : Str) = some .globalImplicit) (hn : NoStar a) (hn2 : NoStar b) (ha : PA X [a, b] (tA G W (r.es [m, m']))) :
    PI X tg (.Call (.Name "range" p) [a, b] [] pos) (tW G X.K W ((step call r).w (.rng2 m m'))) := by
  refine PI.ext (pi_range2 (Gl_of x hg) (by rw [x.mg]; exact hm _ (by decide +kernel)) ha (by rw [star_ne hn, star_ne hn2]; rfl) (star_ne hn2)) fun σ H Q q => ?_
  obtain ⟨ρ, h, s, hr, rs, sp⟩ := q
  refine tR_bind hr rs sp fun vs ρ1 H1 xs h1 e1 hr1 rs1 rv1 sp1 => ?_
  split at sp1
  · rename_i i j
    obtain ⟨y, z, rfl, ry, rz⟩ := rv1.two_inv
    cases e : Nat.blt i.natAbs 1000000 && Nat.blt j.natAbs 1000000 with
    | false => rw [e] at sp1; exact sp1.elim
    | true =>
      rw [e] at sp1
      obtain ⟨e1, e2⟩ := Bool.and_eq_true_iff.mp e
      have := nblt_lt e1
      have := nblt_lt e2
      exact ⟨i, j, by rw [ry.int_inv, rz.int_inv], ⟨by omega, by omega, by omega, by omega⟩, sp1 ρ1 H1 _ (Ex.refl _ _) hr1 .rng⟩
  · exact sp1.elim
theorem s_enum {call : Fn} {r : Ev} (x : XC G c d W X) (hm : ∀ x ∈ bnames, G.mg x = none) {a : Expr} {elts : List Expr} {kk : Nat} {tp : Pos} {m : M} {p pos : Pos} (hg : c.sc.names.lookup ("enumerate" : Str) = some .globalImplicit) (hn : NoStar a) (ha : PA X [a] (tA G W (r.es [m]))) :
    PI X (.Tuple elts kk tp) (.Call (.Name "enumerate" p) [a] [] pos) (tW G X.K W ((step call r).w (.enum m))) := by
  refine PI.ext (pi_enumA (Gl_of x hg) (by rw [x.mg]; exact hm _ (by decide +kernel)) ha (star_ne hn)) fun σ H Q q => ?_
  obtain ⟨ρ, h, s, hr, rs, sp⟩ := q
  refine tR_bind hr rs sp fun vs ρ1 H1 xs h1 e1 hr1 rs1 rv1 sp1 => ?_
  split at sp1
  · obtain ⟨y, rfl, ry⟩ := rv1.one_inv
    obtain ⟨a, ys, rfl, ha, ra⟩ := ry.tup_inv
    exact ⟨a, ys, rfl, .inr ⟨SqT.of ha, sp1 ρ1 H1 _ (Ex.refl _ _) hr1 (.enumT ha ra)⟩⟩
  · obtain ⟨y, rfl, ry⟩ := rv1.one_inv
    split at sp1
    · rename_i g
      obtain ⟨a, rfl, ea⟩ := ry.ref_inv
      obtain ⟨a', ys, e2, ra, hq⟩ := lst_is (K := X.K) hr1 ry g
      cases e2
      exact ⟨a, ys, rfl, .inl ⟨hq, sp1 ρ1 H1 _ (Ex.refl _ _) hr1 (.enumL ea)⟩⟩
    · exact sp1.elim
  · exact sp1.elim
theorem s_zip {call : Fn} {r : Ev} (x : XC G c d W X) (hm : ∀ x ∈ bnames, G.mg x = none) {a b : Expr} {elts : List Expr} {kk : Nat} {tp : Pos} {m m' : M} {p pos : Pos} (hg : c.sc.names.lookup ("zip" : Str) = some .globalImplicit) (hn : NoStar a) (hn2 : NoStar b) (ha : PA X [a, b] (tA G W (r.es [m, m']))) :
    PI X (.Tuple elts kk tp) (.Call (.Name "zip" p) [a, b] [] pos) (tW G X.K W ((step call r).w (.zip m m'))) := by
  refine PI.ext (RZ.pi_zipA (Gl_of x hg) (by rw [x.mg]; exact hm _ (by decide +kernel)) ha (star_ne hn) (stars_ne fun y hy => by rw [List.mem_singleton.mp hy]; exact hn2)) fun σ H Q q => ?_
  obtain ⟨ρ, h, s, hr, rs, sp⟩ := q
  refine tR_bind hr rs sp fun vs ρ1 H1 xs h1 e1 hr1 rs1 rv1 sp1 => ?_
  split at sp1
  · obtain ⟨y, z, rfl, ry, rz⟩ := rv1.two_inv
    obtain ⟨a, ys, rfl, ha, ra⟩ := ry.tup_inv
    obtain ⟨b, zs, rfl, hb, rb⟩ := rz.tup_inv
    exact ⟨a, b, ys, zs, rfl, .inr ⟨SqT.of ha, SqT.of hb, sp1 ρ1 H1 _ (Ex.refl _ _) hr1 (.zipT ha ra hb rb)⟩⟩
  · obtain ⟨y, z, rfl, ry, rz⟩ := rv1.two_inv
    split at sp1
    · rename_i g g2
      obtain ⟨a, rfl, ea⟩ := ry.ref_inv
      obtain ⟨b, rfl, eb⟩ := rz.ref_inv
      obtain ⟨a', ys, e2, ra, hq⟩ := lst_is (K := X.K) hr1 ry g
      obtain ⟨b', zs, e3, rb, hq2⟩ := lst_is (K := X.K) hr1 rz g2
      cases e2; cases e3
      exact ⟨a, b, ys, zs, rfl, .inl ⟨hq, hq2, sp1 ρ1 H1 _ (Ex.refl _ _) hr1 (.zipL ea eb)⟩⟩
    · exact sp1.elim
  · exact sp1.elim
end
end Mini
set_option Elab.async false
set_option linter.all false
/-! M12: targets, turns of a walk, comprehensions, calls. -/
namespace Mini
open PySem L2 PySem.Spec PyProof.Rows
/-! ### targets -/
mutual
def gR (K : PySem.W.Frag) : G → TG
  | .name i => gName i
  | .tup gs => gTup K gs.length (gsR K gs)
def gsR (K : PySem.W.Frag) : List G → TGs
  | [] => gNil
  | g :: gs => gCons (gR K g) (gsR K gs)
end
section
variable {ρ : Rh} {H : Hp} {K : PySem.W.Frag}
theorem RVs.of_len : ∀ {gs : List G} {vs : List Vl} {s s' : Env}, asgs gs vs s = some s' → gs.length = vs.length
  | [], [], _, _, _ => rfl
  | [], _ :: _, _, _, e => by unfold asgs at e; cases e
  | _ :: _, [], _, _, e => by unfold asgs at e; cases e
  | g :: gs, v :: vs, s, s', e => by
    unfold asgs at e
    split at e
    · rw [List.length_cons, List.length_cons, RVs.of_len e]
    · cases e
theorem wipe_set {σ : L2.St} {i : Nat} {o : Option V} : ∀ {own : List Nat}, i ∈ own → L2.wipe (σ.set i o) own = L2.wipe σ own
  | [], h => by cases h
  | v :: vs, h => by
    unfold L2.wipe
    by_cases hv : i ∈ vs
    · rw [wipe_set hv]
    · have e : i = v := by
        rcases List.mem_cons.mp h with e | e
        · exact e
        · exact absurd e hv
      subst e
      have : ∀ {ws : List Nat}, i ∉ ws → L2.wipe (σ.set i o) ws = (L2.wipe σ ws).set i o := by
        intro ws
        induction ws with
        | nil => intro _; rfl
        | cons w ws ih =>
          intro hn
          unfold L2.wipe
          rw [ih fun z => hn (List.mem_cons_of_mem _ z)]
          exact List.set_comm _ _ fun z => hn (by rw [z]; exact List.mem_cons_self)
      rw [this hv, List.set_set]
mutual
theorem asg_s (own : List Nat) : ∀ (g : G) {v : Vl} {x : V} {s s' : Env} {σ : L2.St} {Q : L2.St → Hp → Prop}, RV ρ H v x → RS ρ H s σ → asg g v s = some s' → (∀ σ', RS ρ H s' σ' → (gIn own g = true → L2.wipe σ' own = L2.wipe σ own) → Q σ' H) → gR K g x σ H Q
  | .name i, v, x, s, s', σ, Q, r, rs, e, q => by
    unfold asg at e
    cases e
    exact q _ (rs.put r) fun h => wipe_set (by unfold gIn at h; exact List.contains_iff_mem.mp h)
  | .tup gs, v, x, s, s', σ, Q, r, rs, e, q => by
    unfold asg at e
    split at e
    · rename_i xs
      obtain ⟨a, ys, rfl, ha, ra⟩ := r.tup_inv
      have hl := RVs.of_len e
      refine ⟨a, ys, rfl, SqT.of ha, by rw [← ra.length, hl], ?_⟩
      exact asgs_s own gs ra rs e fun σ' r' w => q σ' r' fun h => w (by unfold gIn at h; exact h)
    · cases e
theorem asgs_s (own : List Nat) : ∀ (gs : List G) {vs : List Vl} {xs : List V} {s s' : Env} {σ : L2.St} {Q : L2.St → Hp → Prop}, RVs ρ H vs xs → RS ρ H s σ → asgs gs vs s = some s' → (∀ σ', RS ρ H s' σ' → (gsIn own gs = true → L2.wipe σ' own = L2.wipe σ own) → Q σ' H) → gsR K gs xs σ H Q
  | [], vs, xs, s, s', σ, Q, r, rs, e, q => by
    cases vs with
    | nil => unfold asgs at e; cases e; rw [r.nil_inv]; exact ⟨rfl, q _ rs fun _ => rfl⟩
    | cons v vs => unfold asgs at e; cases e
  | g :: gs, vs, xs, s, s', σ, Q, r, rs, e, q => by
    cases vs with
    | nil => unfold asgs at e; cases e
    | cons v vs =>
      obtain ⟨y, ys, rfl, ry, t⟩ := r.cons_inv
      unfold asgs at e
      split at e
      · rename_i s1 e1
        refine ⟨y, ys, rfl, asg_s own g ry rs e1 fun σ1 r1 w1 => ?_⟩
        exact asgs_s own gs t r1 e fun σ2 r2 w2 => q σ2 r2 fun h => by
          unfold gsIn at h
          obtain ⟨h1, h2⟩ := Bool.and_eq_true_iff.mp h
          rw [w2 h2, w1 h1]
      · cases e
end
end
section
variable {G' : Gp} {c : Cc} {d : Nat} {W : WX} {X : Cx}
/-- a target's items, from the right -/
def cGs (f : Nat) (c : Cc) (es : List Expr) : Option (List Mini.G) := es.foldr (fun e r => match cG f c false e, r with | some g, some gs => some (g :: gs) | _, _ => none) (some [])
theorem cG_name {f : Nat} {x : Str} {p : Pos} {g : Mini.G} (h : cG (f + 1) c false (.Name x p) = some g) : ∃ i, g = .name i ∧ ixS c.N x = some i ∧ c.sc.names.lookup x = some .local := by
  unfold cG at h
  dsimp only at h
  split at h
  · rename_i q
    cases e : ixS c.N x with
    | none => rw [e] at h; cases h
    | some i => rw [e] at h; cases h; exact ⟨i, rfl, rfl, q⟩
  · rw [if_neg Bool.false_ne_true] at h; cases h
  · cases h
theorem cG_star {f : Nat} {e : Expr} {g : Mini.G} (h : cG f c false e = some g) : NoStar e := by
  intro x p z
  subst z
  cases f with
  | zero => unfold cG at h; cases h
  | succ f => unfold cG at h; cases h
theorem assignEach_ne {e : Expr} {es : List Expr} {env : PySem.Env} (h : NoStar e) : assignEach (e :: es) env = (false, assign e env) :: assignEach es env := by
  cases e <;> first | rfl | exact absurd rfl (h _ _)
mutual
theorem g_ok (x : XC G' c d W X) : ∀ (f : Nat) (e : Expr) {g : Mini.G}, cG f c false e = some g → PG X e (gR X.K g)
  | 0, e, g, h => by unfold cG at h; cases h
  | f + 1, e, g, h => by
    cases e with
    | Name y p =>
      obtain ⟨i, rfl, h1, h2⟩ := cG_name h
      exact pg_name x.nd (by rw [x.N]; exact ixS_at h1) (.inl (by rw [x.sc]; exact h2)) (.inr (by rw [x.sc]; exact h2))
    | Tuple es k p =>
      have h' : (cGs f c es).map Mini.G.tup = some g := h
      cases z : cGs f c es with
      | none => rw [z] at h'; cases h'
      | some gs =>
        rw [z] at h'; cases h'
        obtain ⟨hp, hl, hst⟩ := gs_ok x f es z
        exact pg_tup x.calm hp hl hst
    | _ => unfold cG at h; cases h
theorem gs_ok (x : XC G' c d W X) : ∀ (f : Nat) (es : List Expr) {gs : List Mini.G}, cGs f c es = some gs → PGs X es (gsR X.K gs) ∧ (assignEach es X.env).length = gs.length ∧ (assignEach es X.env).findIdx? (·.1) = none
  | f, [], gs, h => by
    unfold cGs at h; cases h
    exact ⟨pgs_nil, rfl, rfl⟩
  | f, e :: es, gs, h => by
    have h' : (match cG f c false e, cGs f c es with | some g, some gs => some (g :: gs) | _, _ => none) = some gs := h
    split at h'
    · rename_i g gs' e1 e2
      cases h'
      obtain ⟨hp, hl, hst⟩ := gs_ok x f es e2
      have ne := assignEach_ne (es := es) (env := X.env) (cG_star e1)
      refine ⟨pgs_cons (g_ok x f e e1) hp (by rw [ne]; rfl), by rw [ne]; show (assignEach es X.env).length + 1 = gs'.length + 1; rw [hl], ?_⟩
      rw [ne, List.findIdx?_cons]
      rw [hst]; rfl
    · cases h'
end
end
/-! ### the turns of a walk -/
section
variable {ρ : Rh} {H : Hp} {h : Hx} {K : PySem.W.Frag}
theorem two_some {a b : Option Vl} {o : Option Vl} (e : two a b = some o) : (∃ v w, a = some v ∧ b = some w ∧ o = some (.tup [v, w])) ∨ (o = none ∧ (a = none ∨ b = none)) := by
  cases a with
  | none => cases e; exact .inr ⟨rfl, .inl rfl⟩
  | some v => cases b with
    | none => cases e; exact .inr ⟨rfl, .inr rfl⟩
    | some w => cases e; exact .inl ⟨v, w, rfl, rfl, rfl⟩
theorem two_new {p : Addr} {v w : Vl} {x y : V} (hr : HR ρ h H) (hp : H p = none) (rv : RV ρ H v x) (rw_ : RV ρ H w y) : Ex ρ H ρ (upd H p (.tup [x, y])) ∧ HR ρ h (upd H p (.tup [x, y])) ∧ RV ρ (upd H p (.tup [x, y])) (.tup [v, w]) (.ref p) :=
  ⟨Ex.fresh hp, hr.fresh hp, RV.tup_of upd_same (RVs.cons (RV.mono (Ex.fresh hp) _ _ rv) (RVs.cons (RV.mono (Ex.fresh hp) _ _ rw_) RVs.nil))⟩
theorem rv_len {xs : List Vl} {ys : List V} {i : Nat} (r : RVs ρ H xs ys) (e : lget xs i = none) : ys.length ≤ i := by
  rw [lget_eq] at e
  rw [← r.length]
  exact List.getElem?_eq_none_iff.mp e
theorem rv_at {xs : List Vl} {ys : List V} {i : Nat} {v : Vl} (r : RVs ρ H xs ys) (e : lget xs i = some v) : ∃ x, ys[i]? = some x ∧ RV ρ H v x := by
  rw [lget_eq] at e
  exact r.get e
theorem wk_at {k : Wk} {J : It} {i : Nat} {o : Option Vl} (hr : HR ρ h H) (w : RWk K ρ H k J) (e : k.at i h = some o) :
    (o = none → J.stop i H) ∧ ∀ v, o = some v → J.go i H ∧ ∀ x H', J.yld i H x H' → Ex ρ H ρ H' ∧ HR ρ h H' ∧ RV ρ H' v x := by
  cases w with
  | @lst n a ha =>
    unfold Wk.at at e
    dsimp only at e
    split at e
    · rename_i xs g
      obtain ⟨a', ys, e2, ra, hq⟩ := lst_is (K := K) hr (RV.ref_of ha) g
      cases e2
      cases e
      refine ⟨fun z => ⟨ys, hq, rv_len ra z⟩, fun v z => ?_⟩
      obtain ⟨x, hx, rx⟩ := rv_at ra z
      refine ⟨⟨ys, x, hq, hx⟩, fun x' H' y => ?_⟩
      obtain ⟨rfl, y⟩ := y
      have := y ys hq
      rw [hx] at this; cases this
      exact ⟨Ex.refl _ _, hr, rx⟩
    · cases e
  | @tup xs a ys ha ra =>
    unfold Wk.at at e
    cases e
    refine ⟨fun z => ⟨ys, SqT.of ha, rv_len ra z⟩, fun v z => ?_⟩
    obtain ⟨x, hx, rx⟩ := rv_at ra z
    refine ⟨⟨ys, x, SqT.of ha, hx⟩, fun x' H' y => ?_⟩
    obtain ⟨rfl, y⟩ := y
    have := y ys (SqT.of ha)
    rw [hx] at this; cases this
    exact ⟨Ex.refl _ _, hr, rx⟩
  | @rng lo n =>
    unfold Wk.at at e
    dsimp only at e
    cases c : Nat.blt i n with
    | true =>
      rw [c] at e; cases e
      refine ⟨fun z => (nomatch z), fun v z => ?_⟩
      cases z
      refine ⟨nblt_lt c, fun x' H' y => ?_⟩
      obtain ⟨rfl, rfl⟩ := y
      exact ⟨Ex.refl _ _, hr, RV.int_of⟩
    | false =>
      rw [c] at e; cases e
      refine ⟨fun _ => ?_, fun v z => nomatch z⟩
      show n ≤ i
      have : ¬ i < n := fun hl => by
        have e2 : Nat.blt i n = true := Nat.ble_eq.mpr hl
        rw [c] at e2; cases e2
      omega
  | @enumL n a ha =>
    unfold Wk.at at e
    dsimp only at e
    split at e
    · rename_i xs g
      obtain ⟨a', ys, e2, ra, hq⟩ := lst_is (K := K) hr (RV.ref_of ha) g
      cases e2
      rcases two_some e with ⟨v, w, e1, e2, e3⟩ | ⟨e1, e2⟩
      · cases e1; subst e3
        refine ⟨fun z => (nomatch z), fun v' z => ?_⟩
        cases z
        obtain ⟨x, hx, rx⟩ := rv_at ra e2
        refine ⟨⟨ys, x, hq, hx⟩, fun x' H' y => ?_⟩
        obtain ⟨T, x2, rfl, hT, rfl, y⟩ := y
        have := y ys hq
        rw [hx] at this; cases this
        exact two_new hr hT RV.int_of rx
      · refine ⟨fun _ => ?_, fun v z => by rw [e1] at z; cases z⟩
        rcases e2 with e2 | e2
        · cases e2
        · exact ⟨ys, hq, rv_len ra e2⟩
    · cases e
  | @enumT xs a ys ha ra =>
    unfold Wk.at at e
    dsimp only at e
    have hq := SqT.of (K := K) ha
    rcases two_some e with ⟨v, w, e1, e2, e3⟩ | ⟨e1, e2⟩
    · cases e1; subst e3
      refine ⟨fun z => (nomatch z), fun v' z => ?_⟩
      cases z
      obtain ⟨x, hx, rx⟩ := rv_at ra e2
      refine ⟨⟨ys, x, hq, hx⟩, fun x' H' y => ?_⟩
      obtain ⟨T, x2, rfl, hT, rfl, y⟩ := y
      have := y ys hq
      rw [hx] at this; cases this
      exact two_new hr hT RV.int_of rx
    · refine ⟨fun _ => ?_, fun v z => by rw [e1] at z; cases z⟩
      rcases e2 with e2 | e2
      · cases e2
      · exact ⟨ys, hq, rv_len ra e2⟩
  | @zipL n m a b ha hb =>
    unfold Wk.at at e
    dsimp only at e
    split at e
    · rename_i xs us g g2
      obtain ⟨a', ys, e2, ra, hq⟩ := lst_is (K := K) hr (RV.ref_of ha) g
      cases e2
      obtain ⟨b', zs, e3, rb, hq2⟩ := lst_is (K := K) hr (RV.ref_of hb) g2
      cases e3
      rcases two_some e with ⟨v, w, e1, e2, e3⟩ | ⟨e1, e2⟩
      · subst e3
        refine ⟨fun z => (nomatch z), fun v' z => ?_⟩
        cases z
        obtain ⟨x, hx, rx⟩ := rv_at ra e1
        obtain ⟨x2, hx2, rx2⟩ := rv_at rb e2
        refine ⟨⟨ys, zs, x, x2, hq, hq2, hx, hx2⟩, fun x' H' y => ?_⟩
        obtain ⟨T, y1, y2, rfl, hT, rfl, k1, k2⟩ := y
        have := k1 ys hq
        rw [hx] at this; cases this
        have := k2 zs hq2
        rw [hx2] at this; cases this
        exact two_new hr hT rx rx2
      · refine ⟨fun _ => ⟨ys, zs, hq, hq2, ?_⟩, fun v z => by rw [e1] at z; cases z⟩
        rcases e2 with e2 | e2
        · exact .inl (rv_len ra e2)
        · exact .inr (rv_len rb e2)
    · cases e
  | @zipT xs us a b ys zs ha ra hb rb =>
    unfold Wk.at at e
    dsimp only at e
    have hq := SqT.of (K := K) ha
    have hq2 := SqT.of (K := K) hb
    rcases two_some e with ⟨v, w, e1, e2, e3⟩ | ⟨e1, e2⟩
    · subst e3
      refine ⟨fun z => (nomatch z), fun v' z => ?_⟩
      cases z
      obtain ⟨x, hx, rx⟩ := rv_at ra e1
      obtain ⟨x2, hx2, rx2⟩ := rv_at rb e2
      refine ⟨⟨ys, zs, x, x2, hq, hq2, hx, hx2⟩, fun x' H' y => ?_⟩
      obtain ⟨T, y1, y2, rfl, hT, rfl, k1, k2⟩ := y
      have := k1 ys hq
      rw [hx] at this; cases this
      have := k2 zs hq2
      rw [hx2] at this; cases this
      exact two_new hr hT rx rx2
    · refine ⟨fun _ => ⟨ys, zs, hq, hq2, ?_⟩, fun v z => by rw [e1] at z; cases z⟩
      rcases e2 with e2 | e2
      · exact .inl (rv_len ra e2)
      · exact .inr (rv_len rb e2)
end
end Mini
set_option Elab.async false
set_option linter.all false
/-! M13: comprehensions, calls of the program's functions. -/
namespace Mini
open PySem L2 PySem.Spec PyProof.Rows
theorem PE.ex {X : Cx} {e : Expr} {n : Nat} {t : Nat → TE} (h : ∀ m, m ≤ n → PE X e (t m)) : PE X e (fun σ H Q => ∃ m, m ≤ n ∧ t m σ H Q) := ⟨fun pins s σ H Q I q => by
  obtain ⟨m, hm, q⟩ := q
  exact (h m hm).run pins s σ H Q I q⟩
theorem PTs.ex {X : Cx} {e : List Expr} {n : Nat} {t : Nat → TT} (h : ∀ m, m ≤ n → PTs X e (t m)) : PTs X e (fun σ H Q => ∃ m, m ≤ n ∧ t m σ H Q) := ⟨fun pins s σ H Q I q => by
  obtain ⟨m, hm, q⟩ := q
  exact (h m hm).run pins s σ H Q I q⟩
theorem PSs.ex {X : Cx} {e : List Stmt} {n : Nat} {t : Nat → TS} (h : ∀ m, m ≤ n → PSs X e (t m)) : PSs X e (fun D σ H => ∃ m, m ≤ n ∧ t m D σ H) := ⟨fun pins s σ H D I q => by
  obtain ⟨m, hm, q⟩ := q
  exact (h m hm).run pins s σ H D I q⟩
theorem PT.ex {X : Cx} {e : Expr} {n : Nat} {t : Nat → TT} (h : ∀ m, m ≤ n → PT X e (t m)) : PT X e (fun σ H Q => ∃ m, m ≤ n ∧ t m σ H Q) := ⟨fun pins s σ H Q I q => by
  obtain ⟨m, hm, q⟩ := q
  exact (h m hm).run pins s σ H Q I q⟩
theorem wipe_in {σ : L2.St} {i : Nat} : ∀ {vs : List Nat}, i ∈ vs → (L2.wipe σ vs)[i]? = if i < σ.length then some none else none
  | [], h => by cases h
  | v :: vs, h => by
    unfold L2.wipe
    by_cases e : v = i
    · subst e
      by_cases hl : v < σ.length
      · rw [if_pos hl, List.getElem?_set_self (by rw [wipe_length]; exact hl)]
      · rw [if_neg hl, List.getElem?_eq_none (by rw [List.length_set, wipe_length]; omega)]
    · rw [List.getElem?_set_ne e]
      refine wipe_in ?_
      rcases List.mem_cons.mp h with q | q
      · exact absurd q.symm e
      · exact q
theorem wipe_idem {σ : L2.St} {vs : List Nat} : L2.wipe (L2.wipe σ vs) vs = L2.wipe σ vs := by
  refine List.ext_getElem? fun i => ?_
  by_cases h : i ∈ vs
  · rw [wipe_in h, wipe_in h, wipe_length]
  · rw [wipe_out h]
/-- nothing is let out of a block -/
abbrev W0 : WX := fun _ _ _ _ => False
def RD (D : Addr) (_ : Rh) (_ : Hp) (_ : Unit) (x : V) : Prop := x = .ref D
section
variable {G : Gp} {c : Cc} {d : Nat} {W : WX} {X : Cx}
theorem sure_end {σ : L2.St} {ρ ρ' : Rh} {H H' : Hp} {r : R Unit} {n : Nat} {D : Addr} {Q : V → Hp → Prop} (sp : Sp G W σ RV ρ H (r.sure.bind fun _ h' => .ok (.ref n) h') Q) (ex : Ex ρ H ρ' H') (hD : ρ'[n]? = some D) : Sp G W0 [] (RD D) ρ' H' r Q := by
  cases r with
  | ok u h =>
    intro ρ2 H2 x e2 hr2 rx
    have : x = .ref D := rx
    subst this
    exact sp ρ2 H2 _ (ex.trans e2) hr2 (RV.ref_of (e2.at hD))
  | ex c p h => exact sp.elim
  | no => exact sp.elim
theorem rd_lc {call : Fn} {n : Nat} {K : PySem.W.Frag} {own : List Nat} {w : Mini.W} {g : Mini.G} {ts : List T} {m : M} (hg : gIn own g = true) {σ : L2.St} {H : Hp} {Q : VK} (q : tE G W ((step call (evs call n)).e (.lc w g ts m own)) σ H Q) :
    tLc (tW G K W ((evs call n).w w)) (gR K g) (fun σ H Q => ∃ k, k ≤ n ∧ tT G W0 ((evs call k).ts ts) σ H Q) (fun σ H Q => ∃ k, k ≤ n ∧ tE G W0 ((evs call k).e m) σ H Q) own σ H Q := by
  obtain ⟨ρ, h, s, hr, rs, sp⟩ := q
  refine tR_bind hr rs sp fun k ρ1 H1 J h1 e1 hr1 rs1 rk sp1 => ?_
  intro D hD
  have ex1 : Ex ρ1 H1 (ρ1 ++ [D]) (upd H1 D (.lst [])) := Ex.alloc hD
  have hr2 : HR (ρ1 ++ [D]) (h1.new (.lst [])) (upd H1 D (.lst [])) := hr1.alloc hD ⟨[], upd_same, RVs.nil⟩
  have hD2 : (ρ1 ++ [D])[h1.n]? = some D := by rw [hr1.len]; exact getLast_at _ _
  have u0 := sure_end sp1 ex1 hD2
  have rw2 : RS (ρ1 ++ [D]) (upd H1 D (.lst [])) (wipeE s own) (L2.wipe σ own) := (rs1.mono ex1).wipe _
  refine ⟨fun i j H' => j ≤ n ∧ ∃ ρ' h', Ex (ρ1 ++ [D]) (upd H1 D (.lst [])) ρ' H' ∧ HR ρ' h' H' ∧ Sp G W0 [] (RD D) ρ' H' ((evs call j).lc k i g ts m h1.n (wipeE s own) h') Q, ⟨n, Nat.le_refl _, _, _, Ex.refl _ _, hr2, u0⟩, ?_⟩
  rintro i j H3 ⟨hj, ρ3, h3, ex3, hr3, sp3⟩
  cases j with
  | zero => exact sp3.elim
  | succ j =>
    rw [evs_succ] at sp3
    dsimp only [step] at sp3
    have rk3 := (rk.mono ex1).mono ex3
    have rs3 := rw2.mono ex3
    split at sp3
    · exact sp3.elim
    · rename_i e
      exact .inl ⟨(wk_at hr3 rk3 e).1 rfl, sp3 ρ3 H3 _ (Ex.refl _ _) hr3 rfl⟩
    · rename_i v e
      obtain ⟨go, yl⟩ := (wk_at hr3 rk3 e).2 v rfl
      split at sp3
      · exact sp3.elim
      · rename_i s1 ea
        refine .inr ⟨go, fun H' => ∃ ρ' h', Ex (ρ1 ++ [D]) (upd H1 D (.lst [])) ρ' H' ∧ HR ρ' h' H' ∧ Sp G W0 [] (RD D) ρ' H' ((evs call j).lc k (i + 1) g ts m h1.n (wipeE s own) h') Q, ?_, ?_⟩
        · rintro H' ⟨ρ', h', a1, a2, a3⟩
          exact ⟨j, Nat.lt_succ_self j, by omega, ρ', h', a1, a2, a3⟩
        · intro y H4 hy
          obtain ⟨ex4, hr4, ry⟩ := yl y H4 hy
          refine asg_s own g ry (rs3.mono ex4) ea fun σ' rs4 wp => ⟨by rw [wp hg, wipe_idem], ?_⟩
          have sp4 := Sp.mono (rv := RD D) ex4 sp3
          refine ⟨j, by omega, tR_bind (W := W0) (rv2 := RD D) hr4 rs4 sp4 fun b ρ5 H5 b' h5 e5 hr5 rs5 rb sp5 => ?_⟩
          have eb : b = b' := rb
          subst eb
          have ex5 := (ex3.trans ex4).trans e5
          cases b with
          | false =>
            rw [if_neg Bool.false_ne_true]
            exact ⟨ρ5, h5, ex5, hr5, sp5⟩
          | true =>
            rw [if_pos rfl]
            refine ⟨j, by omega, tR_bind (W := W0) (rv2 := RD D) hr5 rs5 sp5 fun z ρ6 H6 z' h6 e6 hr6 rs6 rz sp6 => ?_⟩
            have ex6 := ex5.trans e6
            split at sp6
            · rename_i acc ga
              obtain ⟨ys, ha, ra⟩ := hr6.ob (ex6.at hD2) ga
              cases eo : okLen acc with
              | false => rw [eo] at sp6; exact sp6.elim
              | true =>
                rw [eo] at sp6
                refine ⟨ys, ha, by rw [← ra.length, sizeLine_eq]; have := okLen_le eo; omega, ?_⟩
                have ex7 : Ex ρ6 H6 ρ6 (upd H6 D (.lst (ys ++ [z']))) := Ex.put ha (fun _ q => nomatch q) fun _ q => nomatch q
                exact ⟨ρ6, _, ex6.trans ex7, hr6.put (o' := Ob.lst (acc ++ [z])) (ex6.at hD2) ha (fun _ q => nomatch q) (fun _ q => nomatch q) ⟨_, upd_same, RVs.mono ex7 _ _ (ra.append (RVs.cons rz RVs.nil))⟩, Sp.mono (rv := RD D) ex7 sp6⟩
            · exact sp6.elim
theorem s_lc {call : Fn} {n : Nat} (x : XC G c d W X) {elt tg it : Expr} {ifs : List Expr} {scope : Scope} {own : List (Str × Nat)} {pos : Pos} {w : Mini.W} {g : Mini.G} {ts : List T} {m : M}
    (ok : BlkOk X.N X.env.scope scope own) (hg : gIn (own.map (·.2)) g = true) (hi : PI X tg it (tW G X.K W ((evs call n).w w)))
    (pg : ∀ (s : Shared) (H : Hp) (C : Addr) (cl : List (Str × Addr)) (fp : List Addr), PG (X.blk s H scope (compEnvC scope cl C X.env) fp) tg (gR X.K g))
    (pt : ∀ k, k ≤ n → ∀ (s : Shared) (H : Hp) (C : Addr) (cl : List (Str × Addr)) (fp : List Addr), PTs (X.blk s H scope (compEnvC scope cl C X.env) fp) ifs (tT G W0 ((evs call k).ts ts)))
    (pe : ∀ k, k ≤ n → ∀ (s : Shared) (H : Hp) (C : Addr) (cl : List (Str × Addr)) (fp : List Addr), PE (X.blk s H scope (compEnvC scope cl C X.env) fp) elt (tE G W0 ((evs call k).e m)))
    (hs : ∀ y, foldedSetIterable it X.env y = pure y) : PE X (.ListComp elt [⟨tg, it, ifs, 0⟩] scope pos) (tE G W ((step call (evs call n)).e (.lc w g ts m (own.map (·.2))))) :=
  PE.imp (pe_lc x.calm x.nd hi ok pg (fun s H C cl fp => PTs.ex (n := n) fun k hk => pt k hk s H C cl fp) (fun s H C cl fp => PE.ex (n := n) fun k hk => pe k hk s H C cl fp) hs) fun σ H Q q => rd_lc hg q
theorem rd_dc {call : Fn} {n : Nat} {K : PySem.W.Frag} {own : List Nat} {w : Mini.W} {g : Mini.G} {ts : List T} {mk m : M} (hg : gIn own g = true) {σ : L2.St} {H : Hp} {Q : VK} (q : tE G W ((step call (evs call n)).e (.dc w g ts mk m own)) σ H Q) :
    tDc (tW G K W ((evs call n).w w)) (gR K g) (fun σ H Q => ∃ k, k ≤ n ∧ tT G W0 ((evs call k).ts ts) σ H Q) (fun σ H Q => ∃ k, k ≤ n ∧ tE G W0 ((evs call k).e mk) σ H Q) (fun σ H Q => ∃ k, k ≤ n ∧ tE G W0 ((evs call k).e m) σ H Q) own σ H Q := by
  obtain ⟨ρ, h, s, hr, rs, sp⟩ := q
  refine tR_bind hr rs sp fun k ρ1 H1 J h1 e1 hr1 rs1 rk sp1 => ?_
  intro D hD
  have ex1 : Ex ρ1 H1 (ρ1 ++ [D]) (upd H1 D (.dK [])) := Ex.alloc hD
  have hr2 : HR (ρ1 ++ [D]) (h1.new (.dk [])) (upd H1 D (.dK [])) := hr1.alloc hD ⟨[], upd_same, rfl⟩
  have hD2 : (ρ1 ++ [D])[h1.n]? = some D := by rw [hr1.len]; exact getLast_at _ _
  have u0 := sure_end sp1 ex1 hD2
  have rw2 : RS (ρ1 ++ [D]) (upd H1 D (.dK [])) (wipeE s own) (L2.wipe σ own) := (rs1.mono ex1).wipe _
  refine ⟨fun i j H' => j ≤ n ∧ ∃ ρ' h', Ex (ρ1 ++ [D]) (upd H1 D (.dK [])) ρ' H' ∧ HR ρ' h' H' ∧ Sp G W0 [] (RD D) ρ' H' ((evs call j).dc k i g ts mk m h1.n (wipeE s own) h') Q, ⟨n, Nat.le_refl _, _, _, Ex.refl _ _, hr2, u0⟩, ?_⟩
  rintro i j H3 ⟨hj, ρ3, h3, ex3, hr3, sp3⟩
  cases j with
  | zero => exact sp3.elim
  | succ j =>
    rw [evs_succ] at sp3
    dsimp only [step] at sp3
    have rk3 := (rk.mono ex1).mono ex3
    have rs3 := rw2.mono ex3
    split at sp3
    · exact sp3.elim
    · rename_i e
      exact .inl ⟨(wk_at hr3 rk3 e).1 rfl, sp3 ρ3 H3 _ (Ex.refl _ _) hr3 rfl⟩
    · rename_i v e
      obtain ⟨go, yl⟩ := (wk_at hr3 rk3 e).2 v rfl
      split at sp3
      · exact sp3.elim
      · rename_i s1 ea
        refine .inr ⟨go, fun H' => ∃ ρ' h', Ex (ρ1 ++ [D]) (upd H1 D (.dK [])) ρ' H' ∧ HR ρ' h' H' ∧ Sp G W0 [] (RD D) ρ' H' ((evs call j).dc k (i + 1) g ts mk m h1.n (wipeE s own) h') Q, ?_, ?_⟩
        · rintro H' ⟨ρ', h', a1, a2, a3⟩
          exact ⟨j, Nat.lt_succ_self j, by omega, ρ', h', a1, a2, a3⟩
        · intro y H4 hy
          obtain ⟨ex4, hr4, ry⟩ := yl y H4 hy
          refine asg_s own g ry (rs3.mono ex4) ea fun σ' rs4 wp => ⟨by rw [wp hg, wipe_idem], ?_⟩
          have sp4 := Sp.mono (rv := RD D) ex4 sp3
          refine ⟨j, by omega, tR_bind (W := W0) (rv2 := RD D) hr4 rs4 sp4 fun b ρ5 H5 b' h5 e5 hr5 rs5 rb sp5 => ?_⟩
          have eb : b = b' := rb
          subst eb
          have ex5 := (ex3.trans ex4).trans e5
          cases b with
          | false =>
            rw [if_neg Bool.false_ne_true]
            exact ⟨ρ5, h5, ex5, hr5, sp5⟩
          | true =>
            rw [if_pos rfl]
            refine ⟨j, by omega, tR_bind (W := W0) (rv2 := RD D) hr5 rs5 sp5 fun kv ρ6 H6 kv' h6 e6 hr6 rs6 rkv sp6 => ?_⟩
            refine ⟨j, by omega, tR_bind (W := W0) (rv2 := RD D) hr6 rs6 sp6 fun z ρ7 H7 z' h7 e7 hr7 rs7 rz sp7 => ?_⟩
            have ex7 := (ex5.trans e6).trans e7
            split at sp7
            · rename_i q ek
              split at sp7
              · rename_i acc ga
                obtain ⟨ys, ha, ra⟩ := hr7.ob (ex7.at hD2) ga
                cases eo : okLen acc with
                | false => rw [eo] at sp7; exact sp7.elim
                | true =>
                  rw [eo] at sp7
                  refine ⟨ys, q, vkey_kV (RV.mono e7 _ _ rkv) ek, ha, by rw [← rk_len ra, sizeLine_eq]; have := okLen_le eo; omega, ?_⟩
                  have ex8 : Ex ρ7 H7 ρ7 (upd H7 D (.dK (putK ys q z'))) := Ex.put ha (fun _ q => nomatch q) fun _ q => nomatch q
                  exact ⟨ρ7, _, ex7.trans ex8, hr7.put (o' := Ob.dk (store keq q z acc)) (ex7.at hD2) ha (fun _ q => nomatch q) (fun _ q => nomatch q) ⟨_, upd_same, RK.mono ex8 (store_rv keq_eq q rz ra)⟩, Sp.mono (rv := RD D) ex8 sp7⟩
              · exact sp7.elim
            · exact sp7.elim
theorem s_dc {call : Fn} {n : Nat} (x : XC G c d W X) {kx elt tg it : Expr} {ifs : List Expr} {scope : Scope} {own : List (Str × Nat)} {pos : Pos} {w : Mini.W} {g : Mini.G} {ts : List T} {mk m : M}
    (ok : BlkOk X.N X.env.scope scope own) (hg : gIn (own.map (·.2)) g = true) (hi : PI X tg it (tW G X.K W ((evs call n).w w)))
    (pg : ∀ (s : Shared) (H : Hp) (C : Addr) (cl : List (Str × Addr)) (fp : List Addr), PG (X.blk s H scope (compEnvC scope cl C X.env) fp) tg (gR X.K g))
    (pt : ∀ k, k ≤ n → ∀ (s : Shared) (H : Hp) (C : Addr) (cl : List (Str × Addr)) (fp : List Addr), PTs (X.blk s H scope (compEnvC scope cl C X.env) fp) ifs (tT G W0 ((evs call k).ts ts)))
    (pk : ∀ k, k ≤ n → ∀ (s : Shared) (H : Hp) (C : Addr) (cl : List (Str × Addr)) (fp : List Addr), PE (X.blk s H scope (compEnvC scope cl C X.env) fp) kx (tE G W0 ((evs call k).e mk)))
    (pe : ∀ k, k ≤ n → ∀ (s : Shared) (H : Hp) (C : Addr) (cl : List (Str × Addr)) (fp : List Addr), PE (X.blk s H scope (compEnvC scope cl C X.env) fp) elt (tE G W0 ((evs call k).e m)))
    (hs : ∀ y, foldedSetIterable it X.env y = pure y) : PE X (.DictComp kx elt [⟨tg, it, ifs, 0⟩] scope pos) (tE G W ((step call (evs call n)).e (.dc w g ts mk m (own.map (·.2))))) :=
  PE.imp (pe_dc x.calm x.nd hi ok pg (fun s H C cl fp => PTs.ex (n := n) fun k hk => pt k hk s H C cl fp) (fun s H C cl fp => PE.ex (n := n) fun k hk => pk k hk s H C cl fp) (fun s H C cl fp => PE.ex (n := n) fun k hk => pe k hk s H C cl fp) hs) fun σ H Q q => rd_dc hg q
end
end Mini
set_option Elab.async false
set_option linter.all false
/-! M14: calls of the program's functions. -/
namespace Mini
open PySem L2 PySem.Spec PyProof.Rows
section
variable {G : Gp} {c : Cc} {d : Nat} {W : WX} {X : Cx} {tab : Nat → Option Fd}
theorem fn_at (x : XC G c d W X) (gf : GFn G tab c.fns c.kwt c.exs d) {k : Nat} {n : Str} (h : ixS c.fns n = some k) : ∃ a fd ps, X.mg n = some (.ref a) ∧ PySem.W.keepIn X.K (.ref a) = true ∧ Binds X.K fd ps [] ∧ FnOk X.prog X.w X.K X.mg X.base (L2.CX X.prog X.w) (d + 2) a fd ps (spF G tab d k) ∧ ∀ ks perm, (k, ks, perm) ∈ c.kwt → KBinds X.K fd ps ks (gOf perm) (gOfV perm) := by
  obtain ⟨a, fd, ps, h1, h2, h3, h4, h5⟩ := gf.fn k n (ixS_at h)
  refine ⟨a, fd, ps, ?_⟩
  rw [x.mg, x.K, x.prog, x.w, x.base]
  exact ⟨h1, h2, h3, h4, h5⟩
theorem s_call {r : Ev} (x : XC G c d W X) (gf : GFn G tab c.fns c.kwt c.exs d) {n : Str} {k : Nat} {p pos : Pos} {e : Expr} {es : List Expr} {m : M} {ms : List M} (hk : ixS c.fns n = some k) (hb : blt c n = true) (hs : ∀ y ∈ e :: es, NoStar y) (ha : PA X (e :: es) (tA G W (r.es (m :: ms)))) :
    PE X (.Call (.Name n p) (e :: es) [] pos) (tE G W ((step (callD tab d) r).e (.call k (m :: ms)))) := by
  obtain ⟨a, fd, ps, h1, h2, h3, h4, _⟩ := fn_at x gf hk
  unfold blt at hb
  obtain ⟨hb1, hb2⟩ := Bool.and_eq_true_iff.mp hb
  have gl := Gl_of x (of_decide_eq_true hb1)
  obtain ⟨k1, _, _⟩ := okName_is hb2
  refine PE.imp (pe_callS h4 x.room gl h1 h2 h3 (fun σ => passAt x.takes σ) ha k1 (star_ne (hs e List.mem_cons_self)) (stars_ne fun y hy => hs y (List.mem_cons_of_mem _ hy))) fun σ H Q q => ?_
  obtain ⟨ρ, h, s, hr, rs, sp⟩ := q
  refine tR_bind hr rs sp fun vs ρ1 H1 xs h1 e1 hr1 rs1 rv1 sp1 => ?_
  refine ⟨ρ1, h1, vs, hr1, rv1, ?_⟩
  revert sp1
  dsimp only
  cases callD tab d k vs h1 <;> exact id
theorem s_call0 {r : Ev} (x : XC G c d W X) (gf : GFn G tab c.fns c.kwt c.exs d) {n : Str} {k : Nat} {p pos : Pos} (hr0 : ∀ s h, r.es [] s h = .ok [] h ∨ r.es [] s h = .no) (hk : ixS c.fns n = some k) (hb : blt c n = true) :
    PE X (.Call (.Name n p) [] [] pos) (tE G W ((step (callD tab d) r).e (.call k []))) := by
  obtain ⟨a, fd, ps, h1, h2, h3, h4, _⟩ := fn_at x gf hk
  unfold blt at hb
  obtain ⟨hb1, hb2⟩ := Bool.and_eq_true_iff.mp hb
  have gl := Gl_of x (of_decide_eq_true hb1)
  obtain ⟨k1, _, _⟩ := okName_is hb2
  refine PE.imp (pe_call0 h4 x.room gl h1 h2 h3 .nil passL k1) fun σ H Q q => ?_
  obtain ⟨ρ, h, s, hr, rs, sp⟩ := q
  change Sp G W σ RV ρ H ((r.es [] s h).bind fun vs h => (callD tab d k vs h).sure) Q at sp
  rcases hr0 s h with z | z
  · rw [z] at sp
    refine ⟨ρ, h, [], hr, RVs.nil, ?_⟩
    change Sp G W σ RV ρ H (callD tab d k [] h).sure Q at sp
    revert sp
    cases callD tab d k [] h with
    | ok v h => exact id
    | ex c p h => exact fun q => q.elim
    | no => exact id
  · rw [z] at sp; exact sp.elim
theorem pe_callK0 {CX : CXT} {k : Nat} {f : Addr} {fd : FuncData} {ps ks : List Str} {sp : L2.Sp} {E : XK} {n : Str} {p pos : Pos} {kws : List Keyword} {tk : TA} {g : List Value → List Value → List Value} {gV : List V → List V → List V}
    (F : FnOk X.prog X.w X.K X.mg X.base CX k f fd ps sp) (hr : Room k X.A) (hg : Gl X n) (hm : X.mg n = some (.ref f)) (hk : PySem.W.keepIn X.K (.ref f) = true) (hb : KBinds X.K fd ps ks g gV) (hx : Passes CX X E)
    (hkw : PK X kws tk) (hall : (backToKw pos (keywordEach kws X.env)).all (·.1.isSome) = true) (hks : (backToKw pos (keywordEach kws X.env)).filterMap (·.1) = ks)
    (hdb : (n == ("__debug__" : Str)) = false) (hpl : ((backTo pos (starEach [] X.env)).any (·.1) || (backToKw pos (keywordEach kws X.env)).any (·.1.isNone)) = false) :
    PE X (.Call (.Name n p) [] kws pos) (fun σ H Q => tk σ H fun zs H2 => sp (gV [] zs) H2 Q E) := by
  refine ⟨fun pins s σ H Q I h => ?_⟩
  refine wpAny_Call_Name_kw (ld_glob I hg hm ?_ hdb)
  refine PySem.W.callWith_KW0 (h₀ := X.base) I.ok.mod.kin hk hall (thn (hkw.run pos pins s σ H _ I h) fun ws s2 ⟨zs, H2, I2, rz, q2⟩ => ⟨I2.kIn, ?_⟩) hpl
  rw [hks]
  exact run_fnk F hr hb hx I2 .nil rz q2
theorem PK.imp {kws : List Keyword} {t t' : TA} (h : PK X kws t) (i : ∀ σ H Q, t' σ H Q → t σ H Q) : PK X kws t' := ⟨fun pos pins s σ H Q I q => h.run pos pins s σ H Q I (i σ H Q q)⟩
theorem s_knil {call : Fn} {r : Ev} : PK X [] (tA G W ((step call r).es [])) := PK.imp pk_nil fun σ H Q q => by
  obtain ⟨ρ, h, s, hr, rs, sp⟩ := q
  exact sp ρ H [] (Ex.refl _ _) hr RVs.nil
theorem s_kcons {call : Fn} {r : Ev} {kw : Keyword} {kws : List Keyword} {m : M} {ms : List M} (he : PE X kw.value (tE G W (r.e m))) (hs : PK X kws (tA G W (r.es ms))) : PK X (kw :: kws) (tA G W ((step call r).es (m :: ms))) := by
  obtain ⟨nm, e, kp⟩ := kw
  refine PK.imp (pk_cons he hs) fun σ H Q q => ?_
  obtain ⟨ρ, h, s, hr, rs, sp⟩ := q
  refine tR_bind hr rs sp fun v ρ1 H1 x h1 e1 hr1 rs1 rv1 sp1 => ?_
  refine tR_bind hr1 rs1 sp1 fun vs ρ2 H2 xs h2 e2 hr2 rs2 rv2 sp2 => ?_
  exact sp2 ρ2 H2 _ (Ex.refl _ _) hr2 (RVs.cons (RV.mono e2 _ _ rv1) rv2)
theorem kw_facts {pos : Pos} {env : PySem.Env} : ∀ {kws : List Keyword} {ks : List Str}, kwNames kws = some ks → (backToKw pos (keywordEach kws env)).all (·.1.isSome) = true ∧ (backToKw pos (keywordEach kws env)).filterMap (·.1) = ks ∧ (backToKw pos (keywordEach kws env)).any (·.1.isNone) = false
  | [], ks, h => by cases h; exact ⟨rfl, rfl, rfl⟩
  | ⟨nm, e, kp⟩ :: r, ks, h => by
    cases nm with
    | none => unfold kwNames at h; cases h
    | some n =>
      cases q : kwNames r with
      | none => unfold kwNames at h; dsimp only at h; rw [q] at h; cases h
      | some l =>
        unfold kwNames at h; dsimp only at h; rw [q] at h; cases h
        obtain ⟨a1, a2, a3⟩ := kw_facts (pos := pos) (env := env) q
        refine ⟨?_, ?_, ?_⟩
        · show (true && (backToKw pos (keywordEach r env)).all (·.1.isSome)) = true
          rw [a1]; rfl
        · show n :: (backToKw pos (keywordEach r env)).filterMap (·.1) = n :: l
          rw [a2]
        · show (false || (backToKw pos (keywordEach r env)).any (·.1.isNone)) = false
          rw [a3]; rfl
theorem reorder_rv {ρ : Rh} {H : Hp} {vs : List Vl} {xs : List V} (r : RVs ρ H vs xs) : ∀ {perm : List Nat} {us : List Vl}, reorder vs perm = some us → RVs ρ H us (perm.map fun i => xs.getD i .non)
  | [], us, e => by cases e; exact RVs.nil
  | i :: perm, us, e => by
    unfold reorder at e
    split at e
    · cases e
    · rename_i v ev
      cases q : reorder vs perm with
      | none => rw [q] at e; cases e
      | some l =>
        rw [q] at e; cases e
        rw [lget_eq] at ev
        obtain ⟨x, hx, rx⟩ := r.get ev
        refine RVs.cons ?_ (reorder_rv r q)
        show RV ρ H v (xs.getD i .non)
        rw [List.getD_eq_getElem?_getD, hx]; exact rx
theorem s_callk {r : Ev} (x : XC G c d W X) (gf : GFn G tab c.fns c.kwt c.exs d) {n : Str} {k : Nat} {p pos : Pos} {kws : List Keyword} {ks : List Str} {ms : List M} {perm : List Nat} (hk : ixS c.fns n = some k) (hb : blt c n = true) (hn : kwNames kws = some ks) (hp : permOf c.kwt k ks = some perm) (ha : PK X kws (tA G W (r.es ms))) :
    PE X (.Call (.Name n p) [] kws pos) (tE G W ((step (callD tab d) r).e (.callk k ms perm))) := by
  obtain ⟨a, fd, ps, h1, h2, h3, h4, h5⟩ := fn_at x gf hk
  unfold blt at hb
  obtain ⟨hb1, hb2⟩ := Bool.and_eq_true_iff.mp hb
  have gl := Gl_of x (of_decide_eq_true hb1)
  obtain ⟨k1, _, _⟩ := okName_is hb2
  obtain ⟨a1, a2, a3⟩ := kw_facts (pos := pos) (env := X.env) hn
  refine PE.imp (pe_callK0 h4 x.room gl h1 h2 (h5 ks perm (permOf_mem hp)) passL ha a1 a2 k1 (by rw [a3]; rfl)) fun σ H Q q => ?_
  obtain ⟨ρ, h, s, hr, rs, sp⟩ := q
  refine tR_bind hr rs sp fun vs ρ1 H1 xs h1 e1 hr1 rs1 rv1 sp1 => ?_
  cases e : Nat.beq (llen vs) (llen perm) with
  | false => rw [e] at sp1; exact sp1.elim
  | true =>
    rw [e] at sp1
    rw [nbeq, llen_eq, llen_eq] at e
    have e := of_decide_eq_true e
    change Sp G W σ RV ρ1 H1 (match reorder vs perm with | some us => (callD tab d k us h1).sure | none => .no) Q at sp1
    split at sp1
    · rename_i us eu
      refine ⟨ρ1, h1, us, hr1, ?_, ?_⟩
      · unfold gOfV
        rw [if_pos ⟨rfl, by rw [← rv1.length]; exact e⟩]
        exact reorder_rv rv1 eu
      · revert sp1
        cases callD tab d k us h1 with
        | ok v h => exact id
        | ex c p h => exact fun q => q.elim
        | no => exact id
    · exact sp1.elim
end
end Mini
set_option Elab.async false
set_option linter.all false
/-! M15: statements. -/
namespace Mini
open PySem L2 PySem.Spec PyProof.Rows
structure XS (X : Cx) : Prop where
  pas : PassesOwn (model X.prog X.w) X.A X.env X.xe
  kd : X.env.scope.kind = .function
  stk : X.stack = X.env :: X.outer
  frm : X.env.frame = some X.env.locals
  fn : ∀ y, X.fn y = true
def notComp : Expr → Bool
  | .ListComp _ _ _ _ => false
  | .SetComp _ _ _ _ => false
  | .DictComp _ _ _ _ _ => false
  | _ => true
def notTuple : Expr → Bool
  | .Tuple _ _ _ => false
  | _ => true
theorem sw_no {e : Expr} {t : Option Expr} {l : Nat} {env : PySem.Env} (h : notComp e = true) : swapsWith e t l env = pure false := by
  cases e <;> first | rfl | cases h
theorem sws_no {e : Expr} {t : List Expr} {l : Nat} {env : PySem.Env} (h : notComp e = true) : swapsWithSole t e l env = pure false := by
  match t with
  | [] => rfl
  | [t] => exact sw_no h
  | _ :: _ :: _ => rfl
theorem st_no {e : Expr} {t : List Expr} {env : PySem.Env} (h : notTuple e = true) : swappedStores t e env = pure none := by
  match t with
  | [] => rfl
  | [t] => cases t <;> first | rfl | (cases e <;> first | rfl | cases h)
  | t :: _ :: _ => cases t <;> first | rfl | (cases e <;> first | rfl | cases h)
/-- a, b = x, y: stored one by one from the right, or as a tuple -/
def swpC (sc : Scope) (ts vs : List Expr) : Option (Option (List Str)) :=
  if (!(ts.length == 2 || ts.length == 3) || vs.length != ts.length) = true then some none
  else if (vs.any fun | .Starred .. => true | _ => false) = true then some none
  else
    let line := (ts.head?.map (·.pos.line)).getD 0
    let names := ts.filterMap fun
      | .Name id pos => if sc.names.lookup id == some .local && pos.line == line then some id else none
      | _ => none
    if (names.length != ts.length || names.eraseDups.length != names.length) = true then some none
    else if vs.all (foldedForSure 8) = true then some none
    else if vs.all (constantsAlone 8) = true then none
    else some (some names)
theorem swp_is {sc : Scope} {ts vs : List Expr} {k k2 : Nat} {p p2 : Pos} {env : PySem.Env} {o : Option (List Str)} (hs : env.scope = sc) (hk : env.scope.kind = .function) (h : swpC sc ts vs = some o) : swappedStores [.Tuple ts k p] (.Tuple vs k2 p2) env = pure o := by
  have hb : (env.blockKind != .function) = false := by unfold Env.blockKind; rw [hk]; rfl
  subst hs
  unfold swpC at h
  show (if (!(ts.length == 2 || ts.length == 3) || vs.length != ts.length || env.blockKind != .function) = true then pure none else _) = pure o
  rw [hb, Bool.or_false]
  split at h
  · rename_i c1; cases h; rw [if_pos c1]
  rename_i c1
  rw [if_neg c1]
  split at h
  · rename_i c2; cases h; exact if_pos c2
  rename_i c2
  refine (if_neg c2).trans ?_
  dsimp only at h ⊢
  split at h
  · rename_i c3; cases h; exact if_pos c3
  rename_i c3
  refine (if_neg c3).trans ?_
  split at h
  · rename_i c4; cases h; rw [if_pos c4]
  rename_i c4
  rw [if_neg c4]
  split at h
  · cases h
  rename_i c5
  cases h
  rw [if_neg c5]
  rfl
section
variable {G : Gp} {c : Cc} {d : Nat} {W : WX} {X : Cx}
theorem rd_asg {call : Fn} {r : Ev} {g : Mini.G} {m : M} {K : PySem.W.Frag} {D : Ends} {σ : L2.St} {H : Hp} (q : tS G W ((step call r).s (.asg g m)) D σ H) : tAsg (tE G W (r.e m)) (gR K g) D σ H := by
  obtain ⟨ρ, h, s, hr, rs, sp⟩ := q
  refine tR_sg hr rs sp fun v ρ1 H1 x h1 e1 hr1 rs1 rv1 sp1 => ?_
  split at sp1
  · rename_i s' ea
    exact asg_s [] g rv1 rs1 ea fun σ' r' _ => sp1 ρ1 H1 σ' (Ex.refl _ _) hr1 r'
  · exact sp1.elim
theorem s_asg {call : Fn} {r : Ev} (x : XC G c d W X) {y : Str} {p pos : Pos} {e : Expr} {i : Nat} {m : M} (hi : ixS c.N y = some i) (hl : c.sc.names.lookup y = some .local) (hn : notComp e = true) (he : PE X e (tE G W (r.e m))) : PS X (.Assign [.Name y p] e pos) (tS G W ((step call r).s (.asg (.name i) m))) :=
  PS.imp (ps_set x.nd (by rw [x.N]; exact ixS_at hi) (.inl (by rw [x.sc]; exact hl)) he (sw_no hn) (.inr (by rw [x.sc]; exact hl))) fun D σ H q => rd_asg (K := X.K) q
theorem s_asgC {call : Fn} {r : Ev} (x : XC G c d W X) (z : XS X) {y : Str} {p pos : Pos} {e : Expr} {i : Nat} {m : M} (hi : ixS c.N y = some i) (hl : c.sc.names.lookup y = some .cell) (hn : notComp e = true) (he : PE X e (tE G W (r.e m))) : PS X (.Assign [.Name y p] e pos) (tS G W ((step call r).s (.asg (.name i) m))) :=
  PS.imp (ps_set x.nd (by rw [x.N]; exact ixS_at hi) (.inr (by rw [x.sc]; exact hl)) he (sw_no hn) (.inl (z.fn y))) fun D σ H q => rd_asg (K := X.K) q
/-- a target's items, cells among them, from the right -/
def cGsC (f : Nat) (c : Cc) (es : List Expr) : Option (List Mini.G) := es.foldr (fun e r => match cG f c true e, r with | some g, some gs => some (g :: gs) | _, _ => none) (some [])
theorem cG_nameC {f : Nat} {x : Str} {p : Pos} {g : Mini.G} (h : cG (f + 1) c true (.Name x p) = some g) : ∃ i, g = .name i ∧ ixS c.N x = some i ∧ (c.sc.names.lookup x = some .local ∨ c.sc.names.lookup x = some .cell) := by
  unfold cG at h
  dsimp only at h
  split at h
  · rename_i q
    cases e : ixS c.N x with
    | none => rw [e] at h; cases h
    | some i => rw [e] at h; cases h; exact ⟨i, rfl, rfl, .inl q⟩
  · rename_i q
    rw [if_pos rfl] at h
    cases e : ixS c.N x with
    | none => rw [e] at h; cases h
    | some i => rw [e] at h; cases h; exact ⟨i, rfl, rfl, .inr q⟩
  · cases h
theorem cG_starC {f : Nat} {b : Bool} {e : Expr} {g : Mini.G} (h : cG f c b e = some g) : NoStar e := by
  intro x p z
  subst z
  cases f with
  | zero => unfold cG at h; cases h
  | succ f => unfold cG at h; cases h
mutual
theorem g_okC (x : XC G c d W X) (z : XS X) : ∀ (f : Nat) (e : Expr) {g : Mini.G}, cG f c true e = some g → PG X e (gR X.K g)
  | 0, e, g, h => by unfold cG at h; cases h
  | f + 1, e, g, h => by
    cases e with
    | Name y p =>
      obtain ⟨i, rfl, h1, h2⟩ := cG_nameC h
      exact pg_name x.nd (by rw [x.N]; exact ixS_at h1) (h2.elim (fun q => .inl (by rw [x.sc]; exact q)) fun q => .inr (by rw [x.sc]; exact q)) (.inl (z.fn y))
    | Tuple es k p =>
      have h' : (cGsC f c es).map Mini.G.tup = some g := h
      cases q : cGsC f c es with
      | none => rw [q] at h'; cases h'
      | some gs =>
        rw [q] at h'; cases h'
        obtain ⟨hp, hl, hst⟩ := gs_okC x z f es q
        exact pg_tup x.calm hp hl hst
    | _ => unfold cG at h; cases h
theorem gs_okC (x : XC G c d W X) (z : XS X) : ∀ (f : Nat) (es : List Expr) {gs : List Mini.G}, cGsC f c es = some gs → PGs X es (gsR X.K gs) ∧ (assignEach es X.env).length = gs.length ∧ (assignEach es X.env).findIdx? (·.1) = none
  | f, [], gs, h => by
    unfold cGsC at h; cases h
    exact ⟨pgs_nil, rfl, rfl⟩
  | f, e :: es, gs, h => by
    have h' : (match cG f c true e, cGsC f c es with | some g, some gs => some (g :: gs) | _, _ => none) = some gs := h
    split at h'
    · rename_i g gs' e1 e2
      cases h'
      obtain ⟨hp, hl, hst⟩ := gs_okC x z f es e2
      have ne := assignEach_ne (es := es) (env := X.env) (cG_starC e1)
      refine ⟨pgs_cons (g_okC x z f e e1) hp (by rw [ne]; rfl), by rw [ne]; show (assignEach es X.env).length + 1 = gs'.length + 1; rw [hl], ?_⟩
      rw [ne, List.findIdx?_cons]
      rw [hst]; rfl
    · cases h'
end
theorem s_asgT {call : Fn} {r : Ev} (x : XC G c d W X) (z : XS X) {f : Nat} {ts : List Expr} {k : Nat} {p pos : Pos} {e : Expr} {g : Mini.G} {m : M} (hg : cG f c true (.Tuple ts k p) = some g) (hn : notComp e = true) (hw : swappedStores [.Tuple ts k p] e X.env = pure none) (he : PE X e (tE G W (r.e m))) : PS X (.Assign [.Tuple ts k p] e pos) (tS G W ((step call r).s (.asg g m))) :=
  PS.imp (ps_asg he (g_okC x z f _ hg) (sws_no hn) hw rfl) fun D σ H q => rd_asg (K := X.K) q
theorem PSet.or {t u : TSet} (h : PSet X t) (g : PSet X u) : PSet X (fun o i v H Q => t o i v H Q ∨ u o i v H Q) := by
  intro pins s σ H o i v ov iv w Q I ro ri rv q
  rcases q with q | q
  · exact h pins s σ H o i v ov iv w Q I ro ri rv q
  · exact g pins s σ H o i v ov iv w Q I ro ri rv q
theorem set_dict (hu : X.A.units + 1 < cLine) : PSet X (fun o i v H Q => ∃ a H', o = .ref a ∧ DPut H a i v H' ∧ Q H') := by
  intro pins s σ H o i v ov iv w Q I ro ri rv q
  obtain ⟨a, H', rfl, g, q⟩ := q
  obtain rfl : ov = Value.ref a := ro
  exact d_setItem hu I g ri rv fun s4 I4 => ⟨H', I4, q⟩
theorem plain_set {f : Nat} {o b : Expr} {m : M} {p : Pos} {env : PySem.Env} (h : cE f c b = some m) : ∀ v, assign (.Subscript o b p) env v = (do
      let ov ← holding [v] (eval o env)
      let iv ← holding [v, ov] (eval b env)
      standAt p
      holding [v, ov, iv] (setItem ov iv v)
      release [v, ov, iv] []) := by
  intro v
  cases f with
  | zero => unfold cE at h; cases h
  | succ f => cases b <;> first | rfl | (unfold cE at h; cases h)
theorem s_sub {call : Fn} {r : Ev} (x : XC G c d W X) {f : Nat} {o i e : Expr} {p pos : Pos} {mo mi m : M} (hi : cE f c i = some mi) (hn : notComp e = true) (ho : PE X o (tE G W (r.e mo))) (hb : PE X i (tE G W (r.e mi))) (he : PE X e (tE G W (r.e m))) : PS X (.Assign [.Subscript o i p] e pos) (tS G W ((step call r).s (.sub mo mi m))) := by
  refine PS.imp (ps_asg he (pg_sub ho hb (PSet.or set_list (set_dict (by have := x.hu; omega))) (plain_set hi)) (sws_no hn) rfl rfl) fun D σ H q => ?_
  obtain ⟨ρ, h, s, hr, rs, sp⟩ := q
  refine tR_sg hr rs sp fun v ρ1 H1 xv h1 e1 hr1 rs1 rv1 sp1 => ?_
  refine tR_sg hr1 rs1 sp1 fun o ρ2 H2 xo h2 e2 hr2 rs2 rv2 sp2 => ?_
  refine tR_sg hr2 rs2 sp2 fun k ρ3 H3 xk h3 e3 hr3 rs3 rv3 sp3 => ?_
  have rv1' := RV.mono (e2.trans e3) _ _ rv1
  have rv2' := RV.mono e3 _ _ rv2
  split at sp3
  · rename_i n
    split at sp3
    · rename_i xs g
      obtain ⟨a, ys, rfl, ea, ha, ra⟩ := lst_at hr3 rv2' g
      split at sp3
      · rename_i j
        split at sp3
        · rename_i q eq
          rw [llen_eq, ra.length, ixn_eq] at eq
          refine .inl ⟨a, ys, j, q, rfl, rv3.int_inv, ha, eq, ?_⟩
          have ex : Ex ρ3 H3 ρ3 (upd H3 a (.lst (ys.set q xv))) := Ex.put ha (fun _ z => nomatch z) fun _ z => nomatch z
          refine sp3 ρ3 _ σ ex (hr3.put ea ha (fun _ z => nomatch z) (fun _ z => nomatch z) ⟨_, upd_same, ?_⟩) (rs3.mono ex)
          rw [lset_eq]
          exact RVs.mono ex _ _ (RVs.set rv1' q ra)
        · exact sp3.elim
      · exact sp3.elim
    · rename_i kvs g
      obtain ⟨a, ks, rfl, ea, ha, ra⟩ := dk_at hr3 rv2' g
      split at sp3
      · rename_i q eq
        cases eo : okLen kvs with
        | false => rw [eo] at sp3; exact sp3.elim
        | true =>
          rw [eo] at sp3
          have hl : ks.length < sizeLine := by rw [← rk_len ra, sizeLine_eq]; have := okLen_le eo; omega
          refine .inr ⟨a, _, rfl, .inl ⟨ks, q, ha, vkey_kV rv3 eq, hl, rfl⟩, ?_⟩
          have ex : Ex ρ3 H3 ρ3 (upd H3 a (.dK (putK ks q xv))) := Ex.put ha (fun _ z => nomatch z) fun _ z => nomatch z
          exact sp3 ρ3 _ σ ex (hr3.put ea ha (fun _ z => nomatch z) (fun _ z => nomatch z) ⟨_, upd_same, RK.mono ex (store_rv keq_eq q rv1' ra)⟩) (rs3.mono ex)
      · exact sp3.elim
    · rename_i kvs g
      obtain ⟨a, ks, rfl, ea, ha, ra⟩ := dt_at hr3 rv2' g
      split at sp3
      · rename_i kk
        obtain ⟨b, us, rfl, hb', rb⟩ := rv3.tup_inv
        split at sp3
        · rename_i q eq
          cases eo : okLen kvs with
          | false => rw [eo] at sp3; exact sp3.elim
          | true =>
            rw [eo] at sp3
            have hl : ks.length < sizeLine := by rw [← rk_len ra, sizeLine_eq]; have := okLen_le eo; omega
            rw [vkeys_kV rb eq] at hb'
            refine .inr ⟨a, _, rfl, .inr ⟨ks, q, b, ha, rfl, hb', hl, rfl⟩, ?_⟩
            have ex : Ex ρ3 H3 ρ3 (upd H3 a (.dT (putK ks q xv))) := Ex.put ha (fun _ z => nomatch z) fun _ z => nomatch z
            exact sp3 ρ3 _ σ ex (hr3.put ea ha (fun _ z => nomatch z) (fun _ z => nomatch z) ⟨_, upd_same, RK.mono ex (store_rv kseq_eq q rv1' ra)⟩) (rs3.mono ex)
        · exact sp3.elim
      · exact sp3.elim
    · exact sp3.elim
  · exact sp3.elim
/-! ### simple statements -/
theorem s_expr {call : Fn} {r : Ev} {e : Expr} {pos : Pos} {m : M} (hn : notComp e = true) (he : PE X e (tE G W (r.e m))) : PS X (.Expr e pos) (tS G W ((step call r).s (.expr m))) := by
  refine PS.imp (ps_expr he (sw_no hn)) fun D σ H q => ?_
  obtain ⟨ρ, h, s, hr, rs, sp⟩ := q
  exact tR_sg hr rs sp fun v ρ1 H1 xv h1 e1 hr1 rs1 rv1 sp1 => sp1 ρ1 H1 σ (Ex.refl _ _) hr1 rs1
theorem s_ret {call : Fn} {r : Ev} {e : Expr} {pos : Pos} {m : M} (he : PE X e (tE G W (r.e m))) : PS X (.Return (some e) pos) (tS G W ((step call r).s (.ret m))) := by
  refine PS.imp (ps_ret he) fun D σ H q => ?_
  obtain ⟨ρ, h, s, hr, rs, sp⟩ := q
  exact tR_sg hr rs sp fun v ρ1 H1 xv h1 e1 hr1 rs1 rv1 sp1 => sp1 ρ1 H1 xv (Ex.refl _ _) hr1 rv1
theorem s_retN {call : Fn} {r : Ev} {pos : Pos} : PS X (.Return none pos) (tS G W ((step call r).s .retN)) := PS.imp ps_retN fun D σ H q => by
  obtain ⟨ρ, h, s, hr, rs, sp⟩ := q
  exact sp ρ H .non (Ex.refl _ _) hr RV.non_of
theorem s_skip {call : Fn} {r : Ev} {y : Str} {j : Nat} {p pos : Pos} : PS X (.Expr (.Constant (.str y) j p) pos) (tS G W ((step call r).s .skip)) := PS.imp ps_doc fun D σ H q => by
  obtain ⟨ρ, h, s, hr, rs, sp⟩ := q
  exact sp ρ H σ (Ex.refl _ _) hr rs
theorem s_pass {call : Fn} {r : Ev} {pos : Pos} : PS X (.Pass pos) (tS G W ((step call r).s .pass)) := PS.imp ps_pass fun D σ H q => by
  obtain ⟨ρ, h, s, hr, rs, sp⟩ := q
  exact sp ρ H σ (Ex.refl _ _) hr rs
theorem s_brk {call : Fn} {r : Ev} {pos : Pos} : PS X (.Break pos) (tS G W ((step call r).s .brk)) := PS.imp ps_break fun D σ H q => by
  obtain ⟨ρ, h, s, hr, rs, sp⟩ := q
  exact sp ρ H σ (Ex.refl _ _) hr rs
theorem s_cont {call : Fn} {r : Ev} {pos : Pos} : PS X (.Continue pos) (tS G W ((step call r).s .cont)) := PS.imp ps_continue fun D σ H q => by
  obtain ⟨ρ, h, s, hr, rs, sp⟩ := q
  exact sp ρ H σ (Ex.refl _ _) hr rs
theorem s_ssnil {call : Fn} {r : Ev} : PSs X [] (tS G W ((step call r).ss [])) := PSs.imp pss_nil fun D σ H q => by
  obtain ⟨ρ, h, s, hr, rs, sp⟩ := q
  exact sp ρ H σ (Ex.refl _ _) hr rs
theorem s_sscons {call : Fn} {r : Ev} {st : Stmt} {rest : List Stmt} {a : S} {as : List S} (h1 : PS X st (tS G W (r.s a))) (h2 : PSs X rest (tS G W (r.ss as))) : PSs X (st :: rest) (tS G W ((step call r).ss (a :: as))) := by
  refine PSs.imp (pss_cons h1 h2) fun D σ H q => ?_
  obtain ⟨ρ, h, s, hr, rs, sp⟩ := q
  refine ⟨ρ, h, s, hr, rs, ?_⟩
  change SpS G W ρ H ((r.s a s h).seq fun s h => r.ss as s h) D at sp
  cases e : r.s a s h with
  | nx s1 h1 =>
    rw [e] at sp
    exact fun ρ1 H1 σ1 ex hr1 rs1 => ⟨ρ1, h1, s1, hr1, rs1, SpS.mono ex sp⟩
  | rt v h1 => rw [e] at sp; exact sp
  | bk s1 h1 => rw [e] at sp; exact sp
  | ct s1 h1 => rw [e] at sp; exact sp
  | ex c p s1 h1 => rw [e] at sp; exact sp
  | no => rw [e] at sp; exact sp
theorem s_if {call : Fn} {r : Ev} {t : Expr} {a b : List Stmt} {pos : Pos} {mt : T} {ma mb : List S} (ht : PT X t (tT G W (r.t mt))) (ha : PSs X a (tS G W (r.ss ma))) (hb : PSs X b (tS G W (r.ss mb))) : PS X (.If t a b pos) (tS G W ((step call r).s (.iff mt ma mb))) := by
  refine PS.imp (ps_if ht ha hb) fun D σ H q => ?_
  obtain ⟨ρ, h, s, hr, rs, sp⟩ := q
  refine tR_sg hr rs sp fun v ρ1 H1 xv h1 e1 hr1 rs1 rv1 sp1 => ?_
  have e : v = xv := rv1
  subst e
  cases v with
  | true => rw [if_pos rfl]; exact ⟨ρ1, h1, s, hr1, rs1, sp1⟩
  | false => rw [if_neg Bool.false_ne_true]; exact ⟨ρ1, h1, s, hr1, rs1, sp1⟩
/-! ### loops -/
theorem s_for {call : Fn} {n : Nat} (x : XC G c d W X) (y : XS X) {tg it : Expr} {body : List Stmt} {pos : Pos} {w : Mini.W} {g : Mini.G} {b : List S} (hi : PI X tg it (tW G X.K W ((evs call n).w w))) (hg : PG X tg (gR X.K g))
    (hb : ∀ k, k ≤ n → PSs X body (tS G W ((evs call k).ss b))) (hs : ∀ z, foldedSetIterable it X.env z = pure z) : PS X (.For tg it body [] pos) (tS G W ((step call (evs call n)).s (.loop w g b))) := by
  refine PS.imp (ps_for y.pas x.calm hi hg (PSs.ex (n := n) hb) hs) fun D σ H q => ?_
  obtain ⟨ρ, h, s, hr, rs, sp⟩ := q
  refine tR_sg hr rs sp fun k ρ1 H1 J h1 e1 hr1 rs1 rk sp1 => ?_
  refine ⟨fun i j σ' H' => j ≤ n ∧ ∃ ρ' h' s', Ex ρ1 H1 ρ' H' ∧ HR ρ' h' H' ∧ RS ρ' H' s' σ' ∧ SpS G W ρ' H' ((evs call j).lp k i g b s' h') D, ⟨n, Nat.le_refl _, _, _, _, Ex.refl _ _, hr1, rs1, sp1⟩, ?_⟩
  rintro i j σ3 H3 ⟨hj, ρ3, h3, s3, ex3, hr3, rs3, sp3⟩
  cases j with
  | zero => exact sp3.elim
  | succ j =>
    rw [evs_succ] at sp3
    dsimp only [step] at sp3
    have rk3 := rk.mono ex3
    split at sp3
    · exact sp3.elim
    · rename_i e
      exact .inl ⟨(wk_at hr3 rk3 e).1 rfl, sp3 ρ3 H3 σ3 (Ex.refl _ _) hr3 rs3⟩
    · rename_i v e
      obtain ⟨go, yl⟩ := (wk_at hr3 rk3 e).2 v rfl
      split at sp3
      · exact sp3.elim
      · rename_i s1 ea
        refine .inr ⟨go, fun σ' H' => ∃ ρ' h' s', Ex ρ1 H1 ρ' H' ∧ HR ρ' h' H' ∧ RS ρ' H' s' σ' ∧ SpS G W ρ' H' ((evs call j).lp k (i + 1) g b s' h') D, ?_, ?_⟩
        · rintro σ' H' ⟨ρ', h', s', a1, a2, a3, a4⟩
          exact ⟨j, Nat.lt_succ_self j, by omega, ρ', h', s', a1, a2, a3, a4⟩
        · intro z H4 hz
          obtain ⟨ex4, hr4, rz⟩ := yl z H4 hz
          refine asg_s [] g rz (rs3.mono ex4) ea fun σ' rs4 _ => ?_
          refine ⟨j, by omega, ρ3, h3, s1, hr4, rs4, ?_⟩
          have ex34 := ex3.trans ex4
          cases eb : (evs call j).ss b s1 h3 with
          | nx s5 h5 => rw [eb] at sp3; exact fun ρ5 H5 σ5 ex hr5 rs5 => ⟨ρ5, h5, s5, ex34.trans ex, hr5, rs5, SpS.mono (ex4.trans ex) sp3⟩
          | ct s5 h5 => rw [eb] at sp3; exact fun ρ5 H5 σ5 ex hr5 rs5 => ⟨ρ5, h5, s5, ex34.trans ex, hr5, rs5, SpS.mono (ex4.trans ex) sp3⟩
          | bk s5 h5 => rw [eb] at sp3; exact fun ρ5 H5 σ5 ex hr5 rs5 => sp3 ρ5 H5 σ5 (ex4.trans ex) hr5 rs5
          | rt v5 h5 => rw [eb] at sp3; exact fun ρ5 H5 x5 ex hr5 rs5 => sp3 ρ5 H5 x5 (ex4.trans ex) hr5 rs5
          | ex c5 p5 s5 h5 => rw [eb] at sp3; exact fun ρ5 H5 σ5 cls dd ex hr5 rs5 rx => sp3 ρ5 H5 σ5 cls dd (ex4.trans ex) hr5 rs5 rx
          | no => rw [eb] at sp3; exact sp3
theorem s_while {call : Fn} {n : Nat} (x : XC G c d W X) (y : XS X) {t : Expr} {body : List Stmt} {pos : Pos} {mt : T} {b : List S} (ht : ∀ k, k ≤ n → PT X t (tT G W ((evs call k).t mt)))
    (hb : ∀ k, k ≤ n → PSs X body (tS G W ((evs call k).ss b))) : PS X (.While t body [] pos) (tS G W ((step call (evs call n)).s (.while mt b))) := by
  refine PS.imp (ps_while y.pas (PT.ex (n := n) ht) (PSs.ex (n := n) hb)) fun D σ H q => ?_
  obtain ⟨ρ, h, s, hr, rs, sp⟩ := q
  change SpS G W ρ H ((evs call n).wh mt b s h) D at sp
  refine ⟨fun j σ' H' => j ≤ n ∧ ∃ ρ' h' s', HR ρ' h' H' ∧ RS ρ' H' s' σ' ∧ SpS G W ρ' H' ((evs call j).wh mt b s' h') D, ⟨n, Nat.le_refl _, _, _, _, hr, rs, sp⟩, ?_⟩
  rintro j σ3 H3 ⟨hj, ρ3, h3, s3, hr3, rs3, sp3⟩
  cases j with
  | zero => exact sp3.elim
  | succ j =>
    rw [evs_succ] at sp3
    dsimp only [step] at sp3
    refine ⟨j, by omega, tR_sg hr3 rs3 sp3 fun v ρ4 H4 xv h4 e4 hr4 rs4 rv4 sp4 => ?_⟩
    have e : v = xv := rv4
    subst e
    cases v with
    | false => rw [if_neg Bool.false_ne_true]; exact sp4 ρ4 H4 σ3 (Ex.refl _ _) hr4 rs4
    | true =>
      rw [if_pos rfl]
      refine ⟨fun σ' H' => ∃ ρ' h' s', HR ρ' h' H' ∧ RS ρ' H' s' σ' ∧ SpS G W ρ' H' ((evs call j).wh mt b s' h') D, ?_, ?_⟩
      · rintro σ' H' ⟨ρ', h', s', a2, a3, a4⟩
        exact ⟨j, Nat.lt_succ_self j, by omega, ρ', h', s', a2, a3, a4⟩
      · refine ⟨j, by omega, ρ4, h4, s3, hr4, rs4, ?_⟩
        dsimp only at sp4
        cases eb : (evs call j).ss b s3 h4 with
        | nx s5 h5 => rw [eb] at sp4; exact fun ρ5 H5 σ5 ex hr5 rs5 => ⟨ρ5, h5, s5, hr5, rs5, SpS.mono ex sp4⟩
        | ct s5 h5 => rw [eb] at sp4; exact fun ρ5 H5 σ5 ex hr5 rs5 => ⟨ρ5, h5, s5, hr5, rs5, SpS.mono ex sp4⟩
        | bk s5 h5 => rw [eb] at sp4; exact sp4
        | rt v5 h5 => rw [eb] at sp4; exact sp4
        | ex c5 p5 s5 h5 => rw [eb] at sp4; exact sp4
        | no => rw [eb] at sp4; exact sp4
end
end Mini
set_option Elab.async false
set_option linter.all false
/-! M16: names set by comprehensions; names set together. -/
namespace Mini
open PySem L2 PySem.Spec PyProof.Rows
section
variable {X : Cx}
theorem sw_trueD {k v : Expr} {gs : List Comprehension} {scope : Scope} {pos py : Pos} {y : Str} {l : Nat} {env : PySem.Env} (hk : env.scope.kind = .function) (hy : env.scope.names.lookup y = some .local) (hl : (py.line == pos.line) = true)
    (ha : (scope.names.any fun (n, k) => n == y && (k == .local || k == .cell)) = false) : swapsWith (.DictComp k v gs scope pos) (some (.Name y py)) l env = pure true := by
  have ky : env.kindOf y = some .local := hy
  have hb : env.blockKind = .function := by unfold Env.blockKind; rw [hk]; rfl
  unfold swapsWith
  simp only [hb, ky, ha, Expr.pos, hl]
  rfl
/-- name = {..} on one line, the name a local -/
theorem ps_setDc {i : Nat} {y : Str} {py : Pos} {kx vx tg iter : Expr} {ifs : List Expr} {scope : Scope} {own : List (Str × Nat)} {pos spos : Pos} {wi : TI} {g : TG} {tt : TT} {tk te : TE} (hc : X.calm = true) (hN : X.N.Nodup) (hy : X.N[i]? = some y) (hyl : X.env.scope.names.lookup y = some .local)
    (hsw : swapsWith (.DictComp kx vx [⟨tg, iter, ifs, 0⟩] scope pos) (some (.Name y py)) spos.line X.env = pure true) (hi : PI X tg iter wi) (ok : BlkOk X.N X.env.scope scope own)
    (hg : ∀ (s : Shared) (H : Hp) (C : Addr) (cl : List (Str × Addr)) (fp : List Addr), PG (X.blk s H scope (compEnvC scope cl C X.env) fp) tg g) (ht : ∀ (s : Shared) (H : Hp) (C : Addr) (cl : List (Str × Addr)) (fp : List Addr), PTs (X.blk s H scope (compEnvC scope cl C X.env) fp) ifs tt)
    (hk : ∀ (s : Shared) (H : Hp) (C : Addr) (cl : List (Str × Addr)) (fp : List Addr), PE (X.blk s H scope (compEnvC scope cl C X.env) fp) kx tk)
    (he : ∀ (s : Shared) (H : Hp) (C : Addr) (cl : List (Str × Addr)) (fp : List Addr), PE (X.blk s H scope (compEnvC scope cl C X.env) fp) vx te) (hs : ∀ x, foldedSetIterable iter X.env x = pure x) :
    PS X (.Assign [.Name y py] (.DictComp kx vx [⟨tg, iter, ifs, 0⟩] scope pos) spos) (tAsg (tDc wi g tt tk te (own.map (·.2))) (gName i)) := by
  refine ⟨fun pins s σ H D I h => ?_⟩
  rw [exec_Assign_Name_used _ _ _ _ hsw]
  refine wpAny_bind (wpAny_standAt (wpAny_bind ?_))
  show wpAny _ X.A (do let _ ← comprehension (.DictComp kx vx [⟨tg, iter, ifs, 0⟩] scope pos) scope X.env (firstIterPos [⟨tg, iter, ifs, 0⟩] pos) newDict false (eval iter X.env) (some (assign (.Name y py) X.env))) _ _ s
  have h : tDc wi g tt tk te (own.map (·.2)) σ H (fun x H1 => gName i x σ H1 D.nx) := h
  refine wpAny_bind (thn (dc_core (Qf := fun _ s' => SP X pins D .next s') hc hN I hi ok hg ht hk he hs h fun L C s' m H' I' q hn f => ?_) fun _ s' hq => wpAny_pure (wpAny_pure hq))
  show wpAny _ _ (assign (.Name y py) X.env (.ref L)) _ _ _
  refine wpAny_assign_Name (store_ok2 (v := V.ref L) I' hN hy (.inl hyl) rfl (fun s2 I2 ⟨a, sb, ha⟩ => ?_) (.inr hyl))
  obtain ⟨f0, f1, f2, f3, f4, f5⟩ := f
  have haC : C ≠ a := by
    rcases ha with z | z
    · rw [z]; exact f1
    · exact fun e => f4 y a z e.symm
  refine ⟨m, hn.sameBut sb haC, fun h3 sb3 => ?_⟩
  exact ⟨_, H', I2.turned (t' := s2.toks) (fun b o hb e => (sb3.2 b hb).trans e) f0 f1 f3 f4 f5, q⟩
end
section
variable {G : Gp} {c : Cc} {d : Nat} {W : WX} {X : Cx}
theorem tR_mono {α : Type} {σ : L2.St} {H : Hp} {Q Q' : VK} {run : Env → Hx → R Vl} (h : tE G W run σ H Q) (i : ∀ x H, Q x H → Q' x H) : tE G W run σ H Q' := by
  obtain ⟨ρ, h', s, hr, rs, sp⟩ := h
  refine ⟨ρ, h', s, hr, rs, ?_⟩
  cases e : run s h' with
  | ok a hx => rw [e] at sp; exact fun ρ1 H1 x ex hr1 r => i _ _ (sp ρ1 H1 x ex hr1 r)
  | ex c p hx => rw [e] at sp; exact sp
  | no => rw [e] at sp; exact sp
theorem s_setLc {call : Fn} {n : Nat} (x : XC G c d W X) (z : XS X) {y : Str} {py spos : Pos} {j : Nat} (hj : ixS c.N y = some j) (hy : c.sc.names.lookup y = some .local) {elt tg it : Expr} {ifs : List Expr} {scope : Scope} {own : List (Str × Nat)} {pos : Pos} {w : Mini.W} {g : Mini.G} {ts : List T} {m : M}
    (hl : (py.line == pos.line) = true) (hsa : (scope.names.any fun (n, k) => n == y && (k == .local || k == .cell)) = false)
    (ok : BlkOk X.N X.env.scope scope own) (hg : gIn (own.map (·.2)) g = true) (hi : PI X tg it (tW G X.K W ((evs call n).w w)))
    (pg : ∀ (s : Shared) (H : Hp) (C : Addr) (cl : List (Str × Addr)) (fp : List Addr), PG (X.blk s H scope (compEnvC scope cl C X.env) fp) tg (gR X.K g))
    (pt : ∀ k, k ≤ n → ∀ (s : Shared) (H : Hp) (C : Addr) (cl : List (Str × Addr)) (fp : List Addr), PTs (X.blk s H scope (compEnvC scope cl C X.env) fp) ifs (tT G W0 ((evs call k).ts ts)))
    (pe : ∀ k, k ≤ n → ∀ (s : Shared) (H : Hp) (C : Addr) (cl : List (Str × Addr)) (fp : List Addr), PE (X.blk s H scope (compEnvC scope cl C X.env) fp) elt (tE G W0 ((evs call k).e m)))
    (hs : ∀ y, foldedSetIterable it X.env y = pure y) : PS X (.Assign [.Name y py] (.ListComp elt [⟨tg, it, ifs, 0⟩] scope pos) spos) (tS G W ((step call (evs call (n + 1))).s (.asg (.name j) (.lc w g ts m (own.map (·.2)))))) := by
  have hyl : X.env.scope.names.lookup y = some .local := by rw [x.sc]; exact hy
  refine PS.imp (ps_setLc x.calm x.nd (by rw [x.N]; exact ixS_at hj) hyl (sw_true z.kd hyl hl hsa) hi ok pg (fun s H C cl fp => PTs.ex (n := n) fun k hk => pt k hk s H C cl fp) (fun s H C cl fp => PE.ex (n := n) fun k hk => pe k hk s H C cl fp) hs) fun D σ H q => ?_
  exact rd_lc hg (rd_asg (K := X.K) q)
theorem s_setDc {call : Fn} {n : Nat} (x : XC G c d W X) (z : XS X) {y : Str} {py spos : Pos} {j : Nat} (hj : ixS c.N y = some j) (hy : c.sc.names.lookup y = some .local) {kx elt tg it : Expr} {ifs : List Expr} {scope : Scope} {own : List (Str × Nat)} {pos : Pos} {w : Mini.W} {g : Mini.G} {ts : List T} {mk m : M}
    (hl : (py.line == pos.line) = true) (hsa : (scope.names.any fun (n, k) => n == y && (k == .local || k == .cell)) = false)
    (ok : BlkOk X.N X.env.scope scope own) (hg : gIn (own.map (·.2)) g = true) (hi : PI X tg it (tW G X.K W ((evs call n).w w)))
    (pg : ∀ (s : Shared) (H : Hp) (C : Addr) (cl : List (Str × Addr)) (fp : List Addr), PG (X.blk s H scope (compEnvC scope cl C X.env) fp) tg (gR X.K g))
    (pt : ∀ k, k ≤ n → ∀ (s : Shared) (H : Hp) (C : Addr) (cl : List (Str × Addr)) (fp : List Addr), PTs (X.blk s H scope (compEnvC scope cl C X.env) fp) ifs (tT G W0 ((evs call k).ts ts)))
    (pk : ∀ k, k ≤ n → ∀ (s : Shared) (H : Hp) (C : Addr) (cl : List (Str × Addr)) (fp : List Addr), PE (X.blk s H scope (compEnvC scope cl C X.env) fp) kx (tE G W0 ((evs call k).e mk)))
    (pe : ∀ k, k ≤ n → ∀ (s : Shared) (H : Hp) (C : Addr) (cl : List (Str × Addr)) (fp : List Addr), PE (X.blk s H scope (compEnvC scope cl C X.env) fp) elt (tE G W0 ((evs call k).e m)))
    (hs : ∀ y, foldedSetIterable it X.env y = pure y) : PS X (.Assign [.Name y py] (.DictComp kx elt [⟨tg, it, ifs, 0⟩] scope pos) spos) (tS G W ((step call (evs call (n + 1))).s (.asg (.name j) (.dc w g ts mk m (own.map (·.2)))))) := by
  have hyl : X.env.scope.names.lookup y = some .local := by rw [x.sc]; exact hy
  refine PS.imp (ps_setDc x.calm x.nd (by rw [x.N]; exact ixS_at hj) hyl (sw_trueD z.kd hyl hl hsa) hi ok pg (fun s H C cl fp => PTs.ex (n := n) fun k hk => pt k hk s H C cl fp) (fun s H C cl fp => PE.ex (n := n) fun k hk => pk k hk s H C cl fp) (fun s H C cl fp => PE.ex (n := n) fun k hk => pe k hk s H C cl fp) hs) fun D σ H q => ?_
  exact rd_dc hg (rd_asg (K := X.K) q)
theorem s_par {call : Fn} {r : Ev} (x : XC G c d W X) {i j k k2 : Nat} {y z : Str} {a b : Expr} {py pz pt p2 pos : Pos} {ms : List M} (hi : ixS c.N y = some i) (hj : ixS c.N z = some j) (hij : i ≠ j) (hy : c.sc.names.lookup y = some .local) (hz : c.sc.names.lookup z = some .local)
    (hw : swappedStores [.Tuple [.Name y py, .Name z pz] k pt] (.Tuple [a, b] k2 p2) X.env = pure (some [y, z])) (ha : PA X [a, b] (tA G W (r.es ms))) :
    PS X (.Assign [.Tuple [.Name y py, .Name z pz] k pt] (.Tuple [a, b] k2 p2) pos) (tS G W ((step call r).s (.par [i, j] ms))) := by
  refine PS.imp (ps_par x.calm x.nd (by rw [x.N]; exact ixS_at hi) (by rw [x.N]; exact ixS_at hj) hij (by rw [x.sc]; exact hy) (by rw [x.sc]; exact hz) ha hw) fun D σ H q => ?_
  obtain ⟨ρ, h, s, hr, rs, sp⟩ := q
  refine tR_sg hr rs sp fun vs ρ1 H1 xs h1 e1 hr1 rs1 rv1 sp1 => ?_
  split at sp1
  · rename_i s' ea
    match vs, ea with
    | [v, w], ea =>
      obtain ⟨u1, u2, rfl, r1, r2⟩ := rv1.two_inv
      unfold List.map asgs asg List.map asgs asg List.map asgs at ea
      cases ea
      exact ⟨u1, u2, rfl, sp1 ρ1 H1 _ (Ex.refl _ _) hr1 ((rs1.put r1).put r2)⟩
    | [], ea => cases ea
    | [v], ea => unfold List.map asgs asg List.map asgs at ea; cases ea
    | _ :: _ :: _ :: _, ea => unfold List.map asgs asg List.map asgs asg List.map asgs at ea; cases ea
  · exact sp1.elim
theorem RVs.three_inv {ρ : Rh} {H : Hp} {u v w : Vl} {xs : List V} (r : RVs ρ H [u, v, w] xs) : ∃ x y z, xs = [x, y, z] ∧ RV ρ H u x ∧ RV ρ H v y ∧ RV ρ H w z := by
  obtain ⟨x, r', rfl, rx, t⟩ := r.cons_inv
  obtain ⟨y, z, rfl, ry, rz⟩ := t.two_inv
  exact ⟨x, y, z, rfl, rx, ry, rz⟩
theorem s_par3 {call : Fn} {r : Ev} (x : XC G c d W X) {i j l k k2 : Nat} {y z q : Str} {a b e : Expr} {py pz pq pt p2 pos : Pos} {ms : List M} (hi : ixS c.N y = some i) (hj : ixS c.N z = some j) (hl : ixS c.N q = some l) (hij : i ≠ j) (hil : i ≠ l) (hjl : j ≠ l) (hy : c.sc.names.lookup y = some .local) (hz : c.sc.names.lookup z = some .local) (hq : c.sc.names.lookup q = some .local)
    (hw : swappedStores [.Tuple [.Name y py, .Name z pz, .Name q pq] k pt] (.Tuple [a, b, e] k2 p2) X.env = pure (some [y, z, q])) (ha : PA X [a, b, e] (tA G W (r.es ms))) :
    PS X (.Assign [.Tuple [.Name y py, .Name z pz, .Name q pq] k pt] (.Tuple [a, b, e] k2 p2) pos) (tS G W ((step call r).s (.par [i, j, l] ms))) := by
  refine PS.imp (ps_par3 x.calm x.nd (by rw [x.N]; exact ixS_at hi) (by rw [x.N]; exact ixS_at hj) (by rw [x.N]; exact ixS_at hl) hij hil hjl (by rw [x.sc]; exact hy) (by rw [x.sc]; exact hz) (by rw [x.sc]; exact hq) ha hw) fun D σ H q => ?_
  obtain ⟨ρ, h, s, hr, rs, sp⟩ := q
  refine tR_sg hr rs sp fun vs ρ1 H1 xs h1 e1 hr1 rs1 rv1 sp1 => ?_
  split at sp1
  · rename_i s' ea
    match vs, ea with
    | [v, w, u], ea =>
      obtain ⟨u1, u2, u3, rfl, r1, r2, r3⟩ := rv1.three_inv
      unfold List.map asgs asg List.map asgs asg List.map asgs asg List.map asgs at ea
      cases ea
      exact ⟨u1, u2, u3, rfl, sp1 ρ1 H1 _ (Ex.refl _ _) hr1 (((rs1.put r1).put r2).put r3)⟩
    | [], ea => cases ea
    | [v], ea => unfold List.map asgs asg List.map asgs at ea; cases ea
    | [v, w], ea => unfold List.map asgs asg List.map asgs asg List.map asgs at ea; cases ea
    | _ :: _ :: _ :: _ :: _, ea => unfold List.map asgs asg List.map asgs asg List.map asgs asg List.map asgs at ea; cases ea
  · exact sp1.elim
end
end Mini
set_option Elab.async false
set_option linter.all false
/-! M18: raise, try. -/
namespace Mini
open PySem L2 PySem.Spec PyProof.Rows
section
variable {G : Gp} {c : Cc} {d : Nat} {W : WX} {X : Cx} {tab : Nat → Option Fd}
def ixE : List (Str × Str) → Str → Option (Nat × Str)
  | [], _ => none
  | (x, f) :: r, y => if x = y then some (0, f) else (ixE r y).map fun p => (p.1 + 1, p.2)
theorem ixE_at : ∀ {l : List (Str × Str)} {y f : Str} {i : Nat}, ixE l y = some (i, f) → l[i]? = some (y, f)
  | [], _, _, _, e => by cases e
  | (x, g) :: r, y, f, i, e => by
    unfold ixE at e
    split at e
    · rename_i h; cases e; rw [h]; rfl
    · cases q : ixE r y with
      | none => rw [q] at e; cases e
      | some p =>
        obtain ⟨j, g'⟩ := p
        rw [q] at e; cases e
        show r[j]? = _
        exact ixE_at q
theorem s_raise {call : Fn} {r : Ev} (x : XC G c d W X) (gf : GFn G tab c.fns c.kwt c.exs d) {n f : Str} {k : Nat} {p p2 pos : Pos} {e : Expr} {m : M} (hk : ixE c.exs n = some (k, f)) (hb : blt c n = true) (hn : NoStar e) (ha : PA X [e] (tA G W (r.es [m]))) :
    PS X (.Raise (some (.Call (.Name n p) [e] [] p2)) none pos) (tS G W ((step call r).s (.raise k m))) := by
  obtain ⟨C, hc, E⟩ := gf.exc k n f (ixE_at hk)
  obtain ⟨fI, fd, ps, h1, h2, h3, h4⟩ := E.ini
  unfold blt at hb
  obtain ⟨hb1, hb2⟩ := Bool.and_eq_true_iff.mp hb
  have gl := Gl_of x (of_decide_eq_true hb1)
  obtain ⟨k1, _, _⟩ := okName_is hb2
  have pm := pmk_L (X := X) (x := n) (p := p) (pos := p2) (by rw [x.K]; exact E.T) (by rw [x.K]; exact E.no) (by rw [x.K]; exact h1) (by rw [x.K]; exact h2) (by rw [x.prog, x.w, x.K, x.mg, x.base]; exact h4) (x.room.mono (by omega)) (by rw [x.K]; exact h3) gl (by rw [x.mg]; exact E.mg) ha k1 (star_ne hn)
  refine PS.imp (ps_raise x.calm x.takes pm) fun D σ H q => ?_
  obtain ⟨ρ, h, s, hr, rs, sp⟩ := q
  refine tR_sg hr rs sp fun vs ρ1 H1 xs h1 e1 hr1 rs1 rv1 sp1 => ?_
  split at sp1
  · rename_i v
    obtain ⟨y, rfl, ry⟩ := rv1.one_inv
    refine ⟨y, rfl, fun dd hd => ?_⟩
    have ex : Ex ρ1 H1 ρ1 (upd H1 dd (.xd [(f, y)])) := Ex.fresh hd
    exact sp1 ρ1 _ σ _ _ ex (hr1.fresh hd) (rs1.mono ex) (.with hc upd_same (RV.mono ex _ _ ry))
  · exact sp1.elim
theorem s_tryN {call : Fn} {r : Ev} {body : List Stmt} {h₀ : ExceptHandler} {hs : List ExceptHandler} {pos : Pos} {b : List S} (hb : PSs X.nox body (tS G W0 (r.ss b))) : PS X (.Try body (h₀ :: hs) [] [] pos) (tS G W ((step call r).s (.tryN b))) := by
  refine PS.imp (ps_try_thru0 hb) fun D σ H q => ?_
  obtain ⟨ρ, h, s, hr, rs, sp⟩ := q
  refine ⟨ρ, h, s, hr, rs, ?_⟩
  change SpS G W ρ H (match r.ss b s h with | .ex _ _ _ _ => .no | q => q) D at sp
  revert sp
  cases r.ss b s h with
  | ex c p s h => exact fun q => q.elim
  | nx s h => exact id
  | rt s h => exact id
  | bk s h => exact id
  | ct s h => exact id
  | no => exact id
theorem s_tryA {call : Fn} {r : Ev} (x : XC G c d W X) (y : XS X) (gf : GFn G tab c.fns c.kwt c.exs d) {n nm to f : Str} {k i j : Nat} {np pos pos' p1 p2 p3 p4 : Pos} {body : List Stmt} {b : List S} (hk : ixE c.exs n = some (k, f)) (hbn : blt c n = true)
    (hi : ixS c.N nm = some i) (hil : c.sc.names.lookup nm = some .local) (hj : ixS c.N to = some j) (hjl : c.sc.names.lookup to = some .local) (hnm : okName nm = true)
    (hb : ∀ (W' : WX) (X' : Cx), XC G c d W' X' → XS X' → PSs X' body (tS G W' (r.ss b))) :
    PS X (.Try body [.ExceptHandler (some (.Name n np)) (some nm) [.Assign [.Name to p1] (.Attribute (.Name nm p2) f p3) p4] pos'] [] [] pos) (tS G W ((step call r).s (.tryA b k i j))) := by
  obtain ⟨C, hc, E⟩ := gf.exc k n f (ixE_at hk)
  unfold blt at hbn
  obtain ⟨hb1, hb2⟩ := Bool.and_eq_true_iff.mp hbn
  have gl := Gl_of x (of_decide_eq_true hb1)
  obtain ⟨k1, _, _⟩ := okName_is hb2
  obtain ⟨n1, n2, _⟩ := okName_is hnm
  have hNi : X.N[i]? = some nm := by rw [x.N]; exact ixS_at hi
  have hNj : X.N[j]? = some to := by rw [x.N]; exact ixS_at hj
  have hl : X.env.scope.names.lookup nm = some .local := by rw [x.sc]; exact hil
  have hlj : X.env.scope.names.lookup to = some .local := by rw [x.sc]; exact hjl
  have suite : ∀ (a : Addr) (oe : Obj) (cls : Value) (dd : Option Addr) (pn : List (Addr × Obj)), Zc cls dd oe → (∃ vs, oe.data = .fields vs) → PSs (X.suite a ((a, oe) :: pn)) [.Assign [.Name to p1] (.Attribute (.Name nm p2) f p3) p4] (tAsg (tXf a cls dd C f (tVar i)) (gName j)) := fun a oe cls dd pn hz hf =>
    pss_one (ps_set x.nd hNj (.inl hlj) (pe_xf (by rw [x.K]; exact E.xf) (by rw [x.K]; exact E.no) hz hf (pe_var hNi (.inl hl) n1 n2)) rfl (.inr hlj))
  refine PS.imp (ps_try_as y.stk y.frm x.nd hNi hl ⟨gl, k1, .inl (by rw [x.mg]; exact E.mg)⟩ x.takes (tb := fun W' => tS G W' (r.ss b)) (fun W' pn xe tk pa => hb W' (X.tr pn xe) ⟨x.prog, x.w, x.K, x.mg, x.base, x.N, x.nd, x.sc, x.room, x.calm, tk⟩ ⟨pa, y.kd, y.stk, y.frm, y.fn⟩) suite) fun D σ H q => ?_
  obtain ⟨ρ, h, s, hr, rs, sp⟩ := q
  refine ⟨ρ, h, s, hr, rs, ?_⟩
  change SpS G W ρ H (match r.ss b s h with | .ex c' p s' h' => cond (Nat.beq c' k && Nat.blt i (llen s')) (.nx (lset (putE (lset s' i none) j p) i none) h') .no | q => q) D at sp
  revert sp
  cases r.ss b s h with
  | ex c' p s' h' =>
    intro sp ρ1 H1 σ1 cls dd ex hr1 rs1 rx
    dsimp only at sp
    cases e : (Nat.beq c' k && Nat.blt i (llen s')) with
    | false => rw [e] at sp; exact sp.elim
    | true =>
      rw [e] at sp
      obtain ⟨e, el⟩ := Bool.and_eq_true_iff.mp e
      rw [nbeq] at e
      have e := of_decide_eq_true e
      subst e
      have el := nblt_lt el
      rw [llen_eq, rs1.len] at el
      cases rx with
      | bare hz => rw [hc] at hz; cases hz
      | «with» hz hd ry =>
        rename_i C' d' f' x'
        rw [hc] at hz
        cases hz
        refine ⟨true, by rw [x.K]; exact E.ex, fun _ a ha => ?_, fun z => by cases z⟩
        refine ⟨V.ref a, ?_, rfl, rfl, d', [(f, x')], x', rfl, hd, by simp [List.lookup], ?_⟩
        · exact List.getElem?_set_self el
        · exact sp ρ1 H1 _ ex hr1 (((rs1.del i _).put ry).del i none)
  | nx s h => exact id
  | rt s h => exact id
  | bk s h => exact id
  | ct s h => exact id
  | no => exact id
end
end Mini
set_option Elab.async false
set_option linter.all false
/-! M19: every compiled term reads as the text's: expressions. -/
namespace Mini
open PySem L2 PySem.Spec PyProof.Rows
section
variable {G : Gp} {c : Cc} {d : Nat} {W : WX} {X : Cx} {tab : Nat → Option Fd}
theorem bin_back {b : Operator} {o : Op} (h : cBin b = some o) : binOf o = some b := by
  cases b <;> first | (cases h; rfl) | cases h
theorem cmp_back {b : CmpOp} {o : Op} (h : cCmp b = some o) : cmpOf o = some b := by
  cases b <;> (cases h; rfl)
/-- readings that nothing meets -/
theorem PE.no {e : Expr} {t : TE} (h : ∀ σ H Q, ¬ t σ H Q) : PE X e t := ⟨fun _ _ σ H Q _ q => absurd q (h σ H Q)⟩
theorem PA.no {e : List Expr} {t : TA} (h : ∀ σ H Q, ¬ t σ H Q) : PA X e t := ⟨fun _ _ _ σ H Q _ q => absurd q (h σ H Q)⟩
theorem PK.no {e : List Keyword} {t : TA} (h : ∀ σ H Q, ¬ t σ H Q) : PK X e t := ⟨fun _ _ _ σ H Q _ q => absurd q (h σ H Q)⟩
theorem PT.no {e : Expr} {t : TT} (h : ∀ σ H Q, ¬ t σ H Q) : PT X e t := ⟨fun _ _ σ H Q _ q => absurd q (h σ H Q)⟩
theorem PW.no {e : Expr} {t : TT} (h : ∀ σ H Q, ¬ t σ H Q) : PW X e t := ⟨fun _ _ _ σ H Q _ q => absurd q (h σ H Q)⟩
theorem PTs.no {e : List Expr} {t : TT} (h : ∀ σ H Q, ¬ t σ H Q) : PTs X e t := ⟨fun _ _ σ H Q _ q => absurd q (h σ H Q)⟩
theorem PI.no {tg e : Expr} {t : TI} (h : ∀ σ H Q, ¬ t σ H Q) : PI X tg e t := ⟨fun _ _ σ H Q _ q => absurd q (h σ H Q)⟩
theorem PS.no {e : Stmt} {t : TS} (h : ∀ D σ H, ¬ t D σ H) : PS X e t := ⟨fun _ _ σ H D _ q => absurd q (h D σ H)⟩
theorem PSs.no {e : List Stmt} {t : TS} (h : ∀ D σ H, ¬ t D σ H) : PSs X e t := ⟨fun _ _ σ H D _ q => absurd q (h D σ H)⟩
theorem tR_no {α β : Type} {rv : Rh → Hp → α → β → Prop} {σ : L2.St} {H : Hp} {Q : β → Hp → Prop} : ¬ tR G W rv (fun _ _ => R.no) σ H Q := fun ⟨_, _, _, _, _, q⟩ => q
theorem tS_no {D : Ends} {σ : L2.St} {H : Hp} : ¬ tS G W (fun _ _ => Sg.no) D σ H := fun ⟨_, _, _, _, _, q⟩ => q
theorem PTs.imp {e : List Expr} {t t' : TT} (h : PTs X e t) (i : ∀ σ H Q, t' σ H Q → t σ H Q) : PTs X e t' := ⟨fun pins s σ H Q I q => h.run pins s σ H Q I (i σ H Q q)⟩
/-- all expressions, at one fuel -/
structure SndE (G : Gp) (tab : Nat → Option Fd) (d n : Nat) : Prop where
  e : ∀ {c : Cc} {W : WX} {X : Cx} {f : Nat} {e : Expr} {m : M}, XC G c d W X → GFn G tab c.fns c.kwt c.exs d → cE f c e = some m → PE X e (tE G W ((evs (callD tab d) n).e m))
  es : ∀ {c : Cc} {W : WX} {X : Cx} {f : Nat} {es : List Expr} {ms : List M}, XC G c d W X → GFn G tab c.fns c.kwt c.exs d → cEs f c es = some ms → PA X es (tA G W ((evs (callD tab d) n).es ms))
  ks : ∀ {c : Cc} {W : WX} {X : Cx} {f : Nat} {es : List Keyword} {ms : List M}, XC G c d W X → GFn G tab c.fns c.kwt c.exs d → cKs f c es = some ms → PK X es (tA G W ((evs (callD tab d) n).es ms))
  t : ∀ {c : Cc} {W : WX} {X : Cx} {f : Nat} {e : Expr} {m : T}, XC G c d W X → GFn G tab c.fns c.kwt c.exs d → cT f c e = some m → PT X e (tT G W ((evs (callD tab d) n).t m))
  pw : ∀ {c : Cc} {W : WX} {X : Cx} {f : Nat} {o : BoolOp} {vs : List Expr} {p : Pos} {m : T}, XC G c d W X → GFn G tab c.fns c.kwt c.exs d → cT f c (.BoolOp o vs p) = some m → PW X (.BoolOp o vs p) (tT G W ((evs (callD tab d) n).t m))
  ts : ∀ {c : Cc} {W : WX} {X : Cx} {f : Nat} {es : List Expr} {ms : List T}, XC G c d W X → GFn G tab c.fns c.kwt c.exs d → cTs f c es = some ms → ms.length < 2 → PTs X es (tT G W ((evs (callD tab d) n).ts ms))
  w : ∀ {c : Cc} {W : WX} {X : Cx} {f : Nat} {tg e : Expr} {m : Mini.W}, XC G c d W X → GFn G tab c.fns c.kwt c.exs d → cW f c tg e = some m → PI X tg e (tW G X.K W ((evs (callD tab d) n).w m)) ∧ ∀ z, foldedSetIterable e X.env z = pure z
theorem cEs_len : ∀ {es : List Expr} {f : Nat} {ms : List M}, cEs f c es = some ms → es.length = ms.length
  | [], f, ms, h => by
    cases f with
    | zero => unfold cEs at h; cases h
    | succ f => unfold cEs at h; cases h; rfl
  | e :: es, f, ms, h => by
    cases f with
    | zero => unfold cEs at h; cases h
    | succ f =>
      unfold cEs at h
      dsimp only at h
      split at h
      · rename_i m ms' h1 h2
        cases h
        rw [List.length_cons, List.length_cons, cEs_len h2]
      · cases h
theorem es_nil (call : Fn) : ∀ n s h, (evs call n).es [] s h = .ok [] h ∨ (evs call n).es [] s h = .no
  | 0, _, _ => .inr rfl
  | n + 1, _, _ => .inl rfl
/-- the block of a comprehension is such a context -/
theorem XC.blk (x : XC G c d W X) {s : Shared} {H : Hp} {scope : Scope} {C : Addr} {cl : List (Str × Addr)} {fp : List Addr} : XC G { c with sc := relS scope c.sc } d W0 (X.blk s H scope (compEnvC scope cl C X.env) fp) := by
  refine ⟨x.prog, x.w, x.K, x.mg, x.base, x.N, x.nd, ?_, x.room, x.calm, takes0⟩
  show relabel scope X.env = relS scope c.sc
  rw [← x.sc]
  rfl
theorem sndE0 : SndE G tab d 0 where
  e := fun _ _ _ => PE.no fun _ _ _ => tR_no
  es := fun _ _ _ => PA.no fun _ _ _ => tR_no
  ks := fun _ _ _ => PK.no fun _ _ _ => tR_no
  t := fun _ _ _ => PT.no fun _ _ _ => tR_no
  pw := fun _ _ _ => PW.no fun _ _ _ => tR_no
  ts := fun _ _ _ _ => PTs.no fun _ _ _ => tR_no
  w := fun {c W X f tg e m} x gf h => ⟨PI.no fun _ _ _ => tR_no, by
    intro z
    cases f with
    | zero => unfold cW at h; cases h
    | succ f => cases e <;> first | rfl | (unfold cW at h; cases h)⟩
theorem blt_gl {y : Str} (h : blt c y = true) : c.sc.names.lookup y = some .globalImplicit := by
  unfold blt at h
  exact of_decide_eq_true (Bool.and_eq_true_iff.mp h).1
theorem bf_len {y : Str} (h : bfNames.lookup y = some .len) : y = "len" := by
  unfold bfNames at h
  simp only [List.lookup] at h
  repeat' split at h
  all_goals first
    | (cases h; done)
    | (rename_i z; exact eq_of_beq z)
theorem bf_srt {y : Str} (h : bfNames.lookup y = some .sorted) : y = "sorted" := by
  unfold bfNames at h
  simp only [List.lookup] at h
  repeat' split at h
  all_goals first
    | (cases h; done)
    | (rename_i z; exact eq_of_beq z)
theorem snd_bf {n : Nat} (I : SndE G tab d n) {f : Nat} {y : Str} {p pos : Pos} {e : Expr} {es : List Expr} {b : Bf} {m : M} (x : XC G c d W X) (gf : GFn G tab c.fns c.kwt c.exs d) (hb : blt c y = true) (hf : bfNames.lookup y = some b) (h : (cEs f c (e :: es)).map (fun ms => M.bf b ms) = some m) :
    PE X (.Call (.Name y p) (e :: es) [] pos) (tE G W ((step (callD tab d) (evs (callD tab d) n)).e m)) := by
  cases q : cEs f c (e :: es) with
  | none => rw [q] at h; cases h
  | some ms => rw [q] at h; cases h; exact s_bf x gf.blt hf (blt_gl hb) (cEs_star q) (I.es x gf q)
theorem snd_e {n : Nat} (ih : ∀ k, k ≤ n → SndE G tab d k) {f : Nat} {e : Expr} {m : M} (x : XC G c d W X) (gf : GFn G tab c.fns c.kwt c.exs d) (h : cE f c e = some m) : PE X e (tE G W ((evs (callD tab d) (n + 1)).e m)) := by
  have I := ih n (Nat.le_refl n)
  rw [evs_succ]
  cases f with
  | zero => unfold cE at h; cases h
  | succ f =>
    cases e with
    | Name y p => unfold cE at h; exact s_name _ x gf.blt h
    | Constant k j p =>
      unfold cE at h
      dsimp only at h
      cases q : cConst k with
      | none => rw [q] at h; cases h
      | some v => rw [q] at h; cases h; exact s_const _ q
    | BinOp a o b p =>
      unfold cE at h
      dsimp only at h
      split at h
      · rename_i ma o' mb h1 h2 h3
        cases h
        exact s_op (fun ta tb p1 p2 => pe_op (bin_ok (bin_back h2)) p1 p2) (fun _ _ _ _ q => q) (I.e x gf h1) (I.e x gf h3)
      · cases h
    | UnaryOp o a p =>
      unfold cE at h
      dsimp only at h
      split at h
      · rename_i ma h1; cases h; exact s_not (I.e x gf h1)
      · rename_i ma h1; cases h; exact s_neg (I.e x gf h1)
      · rename_i ma h1; cases h; exact s_inv (I.e x gf h1)
      · cases h
    | BoolOp o vs p =>
      unfold cE at h
      dsimp only at h
      split at h
      · cases h
      · rename_i a
        cases q : cE f c a with
        | none => rw [q] at h; cases h
        | some ma => rw [q] at h; cases h; exact PE.imp (pe_one (I.e x gf q)) fun σ H Q q => q
      · rename_i a b r
        split at h
        · rename_i ma mb h1 h2; cases h; exact s_and (I.e x gf h1) (I.e x gf h2)
        · rename_i ma mb h1 h2; cases h; exact s_or (I.e x gf h1) (I.e x gf h2)
        · cases h
    | Compare a os bs p =>
      unfold cE at h
      dsimp only at h
      split at h
      · rename_i o b
        split at h
        · cases h
        · rename_i hm
          split at h
          · rename_i ma o' mb h1 h2 h3
            cases h
            exact s_op (fun ta tb p1 p2 => pe_cmpR (cmp_ok x.hu (cmp_back h2)) p1 p2 (by simpa using hm)) (fun _ _ _ _ q => q) (I.e x gf h1) (I.e x gf h3)
          · cases h
      · rename_i o1 o2 b dd
        split at h
        · cases h
        · rename_i hm
          split at h
          · rename_i ma o1' mb o2' md h1 h2 h3 h4 h5
            cases h
            exact s_chain (fun ta tb tc p1 p2 p3 => pe_chain (cmp_ok x.hu (cmp_back h2)) (cmp_ok x.hu (cmp_back h4)) p1 p2 p3 (by simpa using hm)) (I.e x gf h1) (I.e x gf h3) (I.e x gf h5)
          · cases h
      · cases h
    | IfExp t a b p =>
      unfold cE at h
      dsimp only at h
      split at h
      · rename_i mt ma mb h1 h2 h3; cases h; exact s_ite (I.t x gf h1) (I.e x gf h2) (I.e x gf h3)
      · cases h
    | Tuple es k p =>
      unfold cE at h
      dsimp only at h
      cases q : cEs f c es with
      | none => rw [q] at h; cases h
      | some ms => rw [q] at h; cases h; exact s_tup (I.es x gf q)
    | List es p =>
      unfold cE at h
      dsimp only at h
      cases q : cEs f c es with
      | none => rw [q] at h; cases h
      | some ms => rw [q] at h; cases h; exact s_lst (I.es x gf q)
    | Subscript a i p =>
      unfold cE at h
      dsimp only at h
      split at h
      · rename_i lo hi p2
        split at h
        · rename_i ma ml mh h1 h2 h3
          cases h
          exact s_slice (I.e x gf h1) (s_opt h2 fun e m f q => I.e x gf q) (s_opt h3 fun e m f q => I.e x gf q)
        · cases h
      · split at h
        · rename_i ma mi h1 h2; cases h; exact s_item x h2 (I.e x gf h1) (I.e x gf h2)
        · cases h
    | ListComp elt gens scope pos =>
      unfold cE at h
      split at h
      all_goals first
        | (cases h; done)
        | (rename_i heq; cases heq; done)
        | skip
      · rename_i elt' tg it ifs scope' p' heq
        cases heq
        dsimp only at h
        split at h
        · rename_i hb
          split at h
          · rename_i w g ts e' h1 h2 h3 h4
            split at h
            · rename_i hg
              cases h
              obtain ⟨hi, hs⟩ := I.w x gf h1
              exact s_lc x (blkOk_by (by rw [x.N, x.sc]; exact hb)) hg.1 hi (fun s H C cl fp => g_ok x.blk _ _ h2) (fun k hk s H C cl fp => (ih k hk).ts x.blk gf h3 hg.2) (fun k hk s H C cl fp => (ih k hk).e x.blk gf h4) hs
            · cases h
          · cases h
        · cases h
    | DictComp kx vx gens scope pos =>
      unfold cE at h
      split at h
      all_goals first
        | (cases h; done)
        | (rename_i heq; cases heq; done)
        | skip
      · rename_i kx' vx' tg it ifs scope' p' heq
        cases heq
        dsimp only at h
        split at h
        · rename_i hb
          split at h
          · rename_i w g ts k' e' h1 h2 h3 h4 h5
            split at h
            · rename_i hg
              cases h
              obtain ⟨hi, hs⟩ := I.w x gf h1
              exact s_dc x (blkOk_by (by rw [x.N, x.sc]; exact hb)) hg.1 hi (fun s H C cl fp => g_ok x.blk _ _ h2) (fun k hk s H C cl fp => (ih k hk).ts x.blk gf h3 hg.2) (fun k hk s H C cl fp => (ih k hk).e x.blk gf h4) (fun k hk s H C cl fp => (ih k hk).e x.blk gf h5) hs
            · cases h
          · cases h
        · cases h
    | Call fe es kws pos =>
      cases fe with
      | Name y p =>
        unfold cE at h
        dsimp only at h
        split at h
        · rename_i hb
          split at h
          · rename_i k hk
            cases kws with
            | nil =>
              dsimp only at h
              cases q : cEs f c es with
              | none => rw [q] at h; cases h
              | some ms =>
                rw [q] at h
                cases h
                cases es with
                | nil =>
                  have e0 := cEs_len q
                  cases ms with
                  | nil => exact s_call0 x gf (es_nil _ n) hk hb
                  | cons m ms => cases e0
                | cons e es =>
                  have e0 := cEs_len q
                  cases ms with
                  | nil => cases e0
                  | cons m ms => exact s_call x gf hk hb (cEs_star q) (I.es x gf q)
            | cons kw kws =>
              dsimp only at h
              split at h
              · rename_i ks ns h1 h2
                cases q : permOf c.kwt k ks with
                | none => rw [q] at h; cases h
                | some pm => rw [q] at h; cases h; exact s_callk x gf hk hb h1 q (I.ks x gf h2)
              · cases h
          · rename_i hk
            split at h
            · rename_i b e es' hf
              split at h
              · rename_i y' p' a p2
                split at h
                · rename_i hc
                  obtain ⟨c1, c2, c3⟩ := hc
                  subst c3
                  split at h
                  · rename_i m' hq
                    cases h
                    have e := bf_len hf
                    subst e
                    exact s_lenset x gf.blt (blt_gl hb) (blt_gl c1) (cE_star hq) (I.e x gf hq)
                  · rename_i m' hq
                    cases h
                    have e := bf_srt hf
                    subst e
                    exact s_sortset x gf.blt (blt_gl hb) (blt_gl c1) (cE_star hq) (I.e x gf hq)
                  · cases h
                · exact snd_bf I x gf hb hf h
              · exact snd_bf I x gf hb hf h
            · cases h
        · cases h
      | Attribute o nm ap =>
        unfold cE at h
        dsimp only at h
        split at h
        · rename_i b o' ms h1 h2 h3
          split at h
          · rename_i hc
            obtain ⟨c1, c2, c3⟩ := hc
            cases h
            cases es with
            | nil =>
              have e0 := cEs_len h3
              cases ms with
              | nil => exact s_mf0 x (es_nil _ n) h1 c1 c3 (I.e x gf h2)
              | cons m ms => cases e0
            | cons e es => exact s_mf x h1 c1 c2 c3 (cEs_star h3) (I.e x gf h2) (I.es x gf h3)
          · cases h
        · cases h
      | _ => unfold cE at h; cases h
    | _ => unfold cE at h; cases h
end
end Mini
set_option Elab.async false
set_option linter.all false
/-! M20: arguments, tests, walks. -/
namespace Mini
open PySem L2 PySem.Spec PyProof.Rows
section
variable {G : Gp} {c : Cc} {d : Nat} {W : WX} {X : Cx} {tab : Nat → Option Fd}
theorem snd_es {n : Nat} (I : SndE G tab d n) {f : Nat} {es : List Expr} {ms : List M} (x : XC G c d W X) (gf : GFn G tab c.fns c.kwt c.exs d) (h : cEs f c es = some ms) : PA X es (tA G W ((evs (callD tab d) (n + 1)).es ms)) := by
  rw [evs_succ]
  cases f with
  | zero => unfold cEs at h; cases h
  | succ f =>
    cases es with
    | nil => unfold cEs at h; cases h; exact s_esnil
    | cons e es =>
      have st := cEs_star h e List.mem_cons_self
      unfold cEs at h
      dsimp only at h
      split at h
      · rename_i m ms' h1 h2
        cases h
        exact s_escons st (I.e x gf h1) (I.es x gf h2)
      · cases h
theorem snd_ks {n : Nat} (I : SndE G tab d n) {f : Nat} {es : List Keyword} {ms : List M} (x : XC G c d W X) (gf : GFn G tab c.fns c.kwt c.exs d) (h : cKs f c es = some ms) : PK X es (tA G W ((evs (callD tab d) (n + 1)).es ms)) := by
  rw [evs_succ]
  cases f with
  | zero => unfold cKs at h; cases h
  | succ f =>
    cases es with
    | nil => unfold cKs at h; cases h; exact s_knil
    | cons e es =>
      unfold cKs at h
      dsimp only at h
      split at h
      · rename_i m ms' h1 h2
        cases h
        exact s_kcons (I.e x gf h1) (I.ks x gf h2)
      · cases h
theorem snd_pw {n : Nat} (I : SndE G tab d n) {f : Nat} {o : BoolOp} {vs : List Expr} {p : Pos} {m : T} (x : XC G c d W X) (gf : GFn G tab c.fns c.kwt c.exs d) (h : cT f c (.BoolOp o vs p) = some m) : PW X (.BoolOp o vs p) (tT G W ((evs (callD tab d) (n + 1)).t m)) := by
  rw [evs_succ]
  cases f with
  | zero => unfold cT at h; cases h
  | succ f =>
    unfold cT at h
    dsimp only at h
    split at h
    · cases h
    · rename_i a
      cases q : cT f c a with
      | none => rw [q] at h; cases h
      | some ma =>
        rw [q] at h; cases h
        cases o with
        | And => exact s_tand1 (I.t x gf q)
        | Or => exact s_tor1 (I.t x gf q)
    · rename_i a b r
      split at h
      · rename_i ma mb h1 h2; cases h; exact s_tand (I.t x gf h1) (I.pw x gf h2)
      · rename_i ma mb h1 h2; cases h; exact s_tor (I.t x gf h1) (I.pw x gf h2)
      · cases h
theorem snd_val {n : Nat} (I : SndE G tab d n) {f : Nat} {e : Expr} {m : T} (x : XC G c d W X) (gf : GFn G tab c.fns c.kwt c.exs d) (h : (cE f c e).map T.val = some m) (he : ∀ whole, isTrue e X.env whole = (do let v ← whole; standAt e.pos; holding [v] (truthy v))) : PT X e (tT G W ((step (callD tab d) (evs (callD tab d) n)).t m)) := by
  cases q : cE f c e with
  | none => rw [q] at h; cases h
  | some mm => rw [q] at h; cases h; exact s_tval (I.e x gf q) he
theorem snd_t {n : Nat} (I : SndE G tab d n) {f : Nat} {e : Expr} {m : T} (x : XC G c d W X) (gf : GFn G tab c.fns c.kwt c.exs d) (h : cT f c e = some m) : PT X e (tT G W ((evs (callD tab d) (n + 1)).t m)) := by
  have hb : ∀ {o vs p}, e = .BoolOp o vs p → PT X e (tT G W ((evs (callD tab d) (n + 1)).t m)) := fun {o vs p} q => by
    subst q
    exact (snd_pw I x gf h).pt
  rw [evs_succ] at hb ⊢
  cases f with
  | zero => unfold cT at h; cases h
  | succ f =>
    cases e with
    | BoolOp o vs p => exact hb rfl
    | UnaryOp o a p =>
      cases o with
      | Not =>
        unfold cT at h
        dsimp only at h
        cases q : cT f c a with
        | none => rw [q] at h; cases h
        | some ma => rw [q] at h; cases h; exact s_tnot (I.t x gf q)
      | _ => unfold cT at h; exact snd_val I x gf h fun _ => rfl
    | Compare a os bs p =>
      unfold cT at h
      dsimp only at h
      split at h
      · rename_i o b
        split at h
        · cases h
        · rename_i hm
          split at h
          · rename_i ma o' mb h1 h2 h3
            cases h
            exact s_tcmp x.hu (cmp_back h2) (by simpa using hm) (I.e x gf h1) (I.e x gf h3)
          · cases h
      · rename_i o1 o2 b dd
        split at h
        · cases h
        · rename_i hm
          split at h
          · rename_i ma o1' mb o2' md h1 h2 h3 h4 h5
            cases h
            exact s_tchain (fun ta tb tc p1 p2 p3 => pt_chain (cmp_ok x.hu (cmp_back h2)) (cmp_ok x.hu (cmp_back h4)) p1 p2 p3 (by simpa using hm)) (I.e x gf h1) (I.e x gf h3) (I.e x gf h5)
          · cases h
      · cases h
    | IfExp t a b p => unfold cT at h; cases h
    | _ =>
      unfold cT at h
      first
        | exact snd_val I x gf h fun _ => rfl
        | (exfalso; cases f <;> (unfold cE at h; cases h))
theorem snd_ts {n : Nat} (I : SndE G tab d n) {f : Nat} {es : List Expr} {ms : List T} (x : XC G c d W X) (gf : GFn G tab c.fns c.kwt c.exs d) (h : cTs f c es = some ms) (hl : ms.length < 2) : PTs X es (tT G W ((evs (callD tab d) (n + 1)).ts ms)) := by
  rw [evs_succ]
  cases f with
  | zero => unfold cTs at h; cases h
  | succ f =>
    cases es with
    | nil =>
      unfold cTs at h; cases h
      exact PTs.imp pts_nil fun σ H Q q => by
        obtain ⟨ρ, h, s, hr, rs, sp⟩ := q
        exact sp ρ H true (Ex.refl _ _) hr rfl
    | cons e es =>
      unfold cTs at h
      dsimp only at h
      split at h
      · rename_i m ms' h1 h2
        cases h
        cases ms' with
        | nil =>
          cases es with
          | nil => exact PTs.imp (pts_one (I.t x gf h1)) fun σ H Q q => q
          | cons e2 es =>
            cases f with
            | zero => unfold cTs at h2; cases h2
            | succ f =>
              unfold cTs at h2
              dsimp only at h2
              split at h2 <;> cases h2
        | cons m2 ms => simp at hl; omega
      · cases h
theorem snd_seq {n : Nat} (I : SndE G tab d n) {f : Nat} {tg e : Expr} {m : Mini.W} (x : XC G c d W X) (gf : GFn G tab c.fns c.kwt c.exs d) (h : (cE f c e).map Mini.W.seq = some m) : PI X tg e (tW G X.K W ((step (callD tab d) (evs (callD tab d) n)).w m)) := by
  cases q : cE f c e with
  | none => rw [q] at h; cases h
  | some mm => rw [q] at h; cases h; exact s_wseq (I.e x gf q)
theorem snd_w {n : Nat} (I : SndE G tab d n) {f : Nat} {tg e : Expr} {m : Mini.W} (x : XC G c d W X) (gf : GFn G tab c.fns c.kwt c.exs d) (h : cW f c tg e = some m) : PI X tg e (tW G X.K W ((evs (callD tab d) (n + 1)).w m)) ∧ ∀ z, foldedSetIterable e X.env z = pure z := by
  rw [evs_succ]
  cases f with
  | zero => unfold cW at h; cases h
  | succ f =>
    cases e with
    | Set a b c => unfold cW at h; cases h
    | Call fe es kws pos =>
      refine ⟨?_, fun z => rfl⟩
      unfold cW at h
      split at h
      all_goals first
        | (cases h; done)
        | skip
      · rename_i y p es' pos' heq
        cases heq
        split at h
        · rename_i hb
          obtain ⟨hb1, hb2⟩ := hb
          split at h
          · rename_i e1
            subst e1
            split at h
            · rename_i a
              split at h
              · rename_i ma h1; cases h; exact s_rng1 x gf.blt (blt_gl hb1) (cEs_star h1 a List.mem_cons_self) (I.es x gf h1)
              · cases h
            · rename_i a b
              split at h
              · rename_i ma mb h1; cases h; exact s_rng2 x gf.blt (blt_gl hb1) (cEs_star h1 a List.mem_cons_self) (cEs_star h1 b (List.mem_cons_of_mem _ List.mem_cons_self)) (I.es x gf h1)
              · cases h
            · cases h
          · split at h
            · rename_i e1
              subst e1
              split at h
              · rename_i a b' c' a1 a2 h1; cases h; exact s_enum x gf.blt (blt_gl hb1) (cEs_star h1 _ List.mem_cons_self) (I.es x gf h1)
              · cases h
            · split at h
              · rename_i e1
                subst e1
                split at h
                · rename_i h1; cases h; exact s_zip x gf.blt (blt_gl hb1) (cEs_star h1 _ List.mem_cons_self) (cEs_star h1 _ (List.mem_cons_of_mem _ List.mem_cons_self)) (I.es x gf h1)
                · cases h
              · exact snd_seq I x gf h
        · exact snd_seq I x gf h
      · exact snd_seq I x gf h
    | _ => unfold cW at h; exact ⟨snd_seq I x gf h, fun z => rfl⟩
theorem sndE : ∀ n, SndE G tab d n := by
  intro n
  induction n using Nat.strongRecOn with
  | ind n ih =>
    cases n with
    | zero => exact sndE0
    | succ n =>
      have ih' : ∀ k, k ≤ n → SndE G tab d k := fun k hk => ih k (Nat.lt_succ_of_le hk)
      have I := ih' n (Nat.le_refl n)
      exact ⟨fun x gf h => snd_e ih' x gf h, fun x gf h => snd_es I x gf h, fun x gf h => snd_ks I x gf h, fun x gf h => snd_t I x gf h, fun x gf h => snd_pw I x gf h, fun x gf h hl => snd_ts I x gf h hl, fun x gf h => snd_w I x gf h⟩
end
end Mini
set_option Elab.async false
set_option linter.all false
/-! M21: statements compiled, sound. -/
namespace Mini
open PySem L2 PySem.Spec PyProof.Rows
def locIx (c : Cc) (y : Str) : Option Nat := if c.sc.names.lookup y = some .local then ixS c.N y else none
theorem locIx_ok {c : Cc} {y : Str} {i : Nat} (h : locIx c y = some i) : ixS c.N y = some i ∧ c.sc.names.lookup y = some .local := by
  unfold locIx at h
  split at h
  · rename_i q; exact ⟨h, q⟩
  · cases h
def swOk (y : Str) (scope : Scope) : Bool := !(scope.names.any fun (n, k) => n == y && (k == .local || k == .cell))
def celIx (c : Cc) (y : Str) : Option Nat := if c.sc.names.lookup y = some .cell then ixS c.N y else none
theorem celIx_ok {c : Cc} {y : Str} {i : Nat} (h : celIx c y = some i) : ixS c.N y = some i ∧ c.sc.names.lookup y = some .cell := by
  unfold celIx at h
  split at h
  · rename_i q; exact ⟨h, q⟩
  · cases h
/-- name = value -/
def cSet (f : Nat) (c : Cc) (y : Str) (py : Pos) (e : Expr) : Option S := match locIx c y, cE f c e with
  | some i, some m => match e with
    | .ListComp _ [_] scope pos => if (py.line == pos.line) = true ∧ swOk y scope = true then some (.asg (.name i) m) else none
    | .DictComp _ _ [_] scope pos => if (py.line == pos.line) = true ∧ swOk y scope = true then some (.asg (.name i) m) else none
    | e => if notComp e = true then some (.asg (.name i) m) else none
  | none, some m => match celIx c y with
    | some i => if notComp e = true then some (.asg (.name i) m) else none
    | none => none
  | _, _ => none
/-- a, b = value -/
def cTup (f : Nat) (c : Cc) (ts : List Expr) (k : Nat) (p : Pos) (e : Expr) : Option S :=
  let plain : Option S := match cG f c true (.Tuple ts k p), cE f c e with
    | some g, some m => if notComp e = true then some (.asg g m) else none
    | _, _ => none
  match e with
  | .Tuple vs _ _ => match swpC c.sc ts vs with
    | some none => plain
    | some (some ns) => match ts, vs, ns, cEs f c vs with
      | [.Name y _, .Name z _], [_, _], [y', z'], some ms => match locIx c y, locIx c z with
        | some i, some j => if i ≠ j ∧ y' = y ∧ z' = z then some (.par [i, j] ms) else none
        | _, _ => none
      | [.Name y _, .Name z _, .Name q _], [_, _, _], [y', z', q'], some ms => match locIx c y, locIx c z, locIx c q with
        | some i, some j, some l => if i ≠ j ∧ i ≠ l ∧ j ≠ l ∧ y' = y ∧ z' = z ∧ q' = q then some (.par [i, j, l] ms) else none
        | _, _, _ => none
      | _, _, _, _ => none
    | none => none
  | _ => plain
mutual
def cS (f : Nat) (c : Cc) (st : Stmt) : Option S := match f with
  | 0 => none
  | f + 1 => match st with
    | .Expr e _ => match e with
      | .Constant (.str _) _ _ => some .skip
      | e => if notComp e = true then (cE f c e).map S.expr else none
    | .Return o _ => match o with
      | some e => (cE f c e).map S.ret
      | none => some .retN
    | .Pass _ => some .pass
    | .Break _ => some .brk
    | .Continue _ => some .cont
    | .If t a b _ => match cT f c t, cSs f c a, cSs f c b with
      | some t, some a, some b => some (.iff t a b)
      | _, _, _ => none
    | .While t b [] _ => match cT f c t, cSs f c b with
      | some t, some b => some (.while t b)
      | _, _ => none
    | .For tg it b [] _ => match cW f c tg it, cG f c true tg, cSs f c b with
      | some w, some g, some b => some (.loop w g b)
      | _, _, _ => none
    | .Raise (some (.Call (.Name n _) [e] [] _)) none _ => if blt c n = true then
        match ixE c.exs n, cEs f c [e] with
        | some (k, _), some [m] => some (.raise k m)
        | _, _ => none
      else none
    | .Try b (h :: hs) [] [] _ => match cSs f c b with
      | some b => match h, hs with
        | .ExceptHandler (some (.Name n _)) (some nm) [.Assign [.Name to _] (.Attribute (.Name nm' _) fl _) _] _, [] => match ixE c.exs n, locIx c nm, locIx c to with
          | some (k, fl'), some i, some j => if blt c n = true ∧ okName nm = true ∧ nm' = nm ∧ fl' = fl then some (.tryA b k i j) else none
          | _, _, _ => none
        | _, _ => some (.tryN b)
      | none => none
    | .Assign [.Name y py] e _ => cSet f c y py e
    | .Assign [.Tuple ts k p] e _ => cTup f c ts k p e
    | .Assign [.Subscript o i _] e _ => match cE f c o, cE f c i, cE f c e with
      | some mo, some mi, some m => if notComp e = true then some (.sub mo mi m) else none
      | _, _, _ => none
    | _ => none
def cSs (f : Nat) (c : Cc) (st : List Stmt) : Option (List S) := match f with
  | 0 => none
  | f + 1 => match st with
    | [] => some []
    | s :: r => match cS f c s, cSs f c r with
      | some a, some as => some (a :: as)
      | _, _ => none
end
section
variable {G : Gp} {c : Cc} {d : Nat} {W : WX} {X : Cx} {tab : Nat → Option Fd}
structure SndS (G : Gp) (tab : Nat → Option Fd) (d n : Nat) : Prop where
  s : ∀ {c : Cc} {W : WX} {X : Cx} {f : Nat} {e : Stmt} {m : S}, XC G c d W X → XS X → GFn G tab c.fns c.kwt c.exs d → cS f c e = some m → PS X e (tS G W ((evs (callD tab d) n).s m))
  ss : ∀ {c : Cc} {W : WX} {X : Cx} {f : Nat} {e : List Stmt} {m : List S}, XC G c d W X → XS X → GFn G tab c.fns c.kwt c.exs d → cSs f c e = some m → PSs X e (tS G W ((evs (callD tab d) n).ss m))
theorem sndS0 : SndS G tab d 0 where
  s := fun _ _ _ _ => PS.no fun _ _ _ => tS_no
  ss := fun _ _ _ _ => PSs.no fun _ _ _ => tS_no
theorem snd_ss {n : Nat} (I : SndS G tab d n) {f : Nat} {e : List Stmt} {m : List S} (x : XC G c d W X) (y : XS X) (gf : GFn G tab c.fns c.kwt c.exs d) (h : cSs f c e = some m) : PSs X e (tS G W ((evs (callD tab d) (n + 1)).ss m)) := by
  rw [evs_succ]
  cases f with
  | zero => unfold cSs at h; cases h
  | succ f =>
    cases e with
    | nil => unfold cSs at h; cases h; exact s_ssnil
    | cons e es =>
      unfold cSs at h
      dsimp only at h
      split at h
      · rename_i m ms' h1 h2
        cases h
        exact s_sscons (I.s x y gf h1) (I.ss x y gf h2)
      · cases h
theorem swOk_is {y : Str} {scope : Scope} (h : swOk y scope = true) : (scope.names.any fun (n, k) => n == y && (k == .local || k == .cell)) = false := by
  unfold swOk at h
  simpa using h
/-- name = [..] -/
theorem snd_setL {n : Nat} {f : Nat} {y : Str} {py spos : Pos} {elt : Expr} {g : Comprehension} {scope : Scope} {pos : Pos} {i : Nat} {m : M} (x : XC G c d W X) (z : XS X) (gf : GFn G tab c.fns c.kwt c.exs d) (hi : locIx c y = some i) (hm : cE f c (.ListComp elt [g] scope pos) = some m) (hl : (py.line == pos.line) = true) (hsw : swOk y scope = true) :
    PS X (.Assign [.Name y py] (.ListComp elt [g] scope pos) spos) (tS G W ((step (callD tab d) (evs (callD tab d) n)).s (.asg (.name i) m))) := by
  cases n with
  | zero => exact PS.no fun D σ H ⟨_, _, _, _, _, q⟩ => q
  | succ n =>
    obtain ⟨j1, j2⟩ := locIx_ok hi
    cases f with
    | zero => unfold cE at hm; cases hm
    | succ f =>
      unfold cE at hm
      split at hm
      all_goals first
        | (cases hm; done)
        | (rename_i heq; cases heq; done)
        | skip
      · rename_i elt' tg it ifs scope' p' heq
        cases heq
        dsimp only at hm
        split at hm
        · rename_i hb
          split at hm
          · rename_i w g ts e' h1 h2 h3 h4
            split at hm
            · rename_i hg
              cases hm
              obtain ⟨hi', hs⟩ := (sndE n).w x gf h1
              exact s_setLc x z j1 j2 hl (swOk_is hsw) (blkOk_by (by rw [x.N, x.sc]; exact hb)) hg.1 hi' (fun s H C cl fp => g_ok x.blk _ _ h2) (fun k hk s H C cl fp => (sndE k).ts x.blk gf h3 hg.2) (fun k hk s H C cl fp => (sndE k).e x.blk gf h4) hs
            · cases hm
          · cases hm
        · cases hm
theorem snd_setD {n : Nat} {f : Nat} {y : Str} {py spos : Pos} {kx vx : Expr} {g : Comprehension} {scope : Scope} {pos : Pos} {i : Nat} {m : M} (x : XC G c d W X) (z : XS X) (gf : GFn G tab c.fns c.kwt c.exs d) (hi : locIx c y = some i) (hm : cE f c (.DictComp kx vx [g] scope pos) = some m) (hl : (py.line == pos.line) = true) (hsw : swOk y scope = true) :
    PS X (.Assign [.Name y py] (.DictComp kx vx [g] scope pos) spos) (tS G W ((step (callD tab d) (evs (callD tab d) n)).s (.asg (.name i) m))) := by
  cases n with
  | zero => exact PS.no fun D σ H ⟨_, _, _, _, _, q⟩ => q
  | succ n =>
    obtain ⟨j1, j2⟩ := locIx_ok hi
    cases f with
    | zero => unfold cE at hm; cases hm
    | succ f =>
      unfold cE at hm
      split at hm
      all_goals first
        | (cases hm; done)
        | (rename_i heq; cases heq; done)
        | skip
      · rename_i kx' vx' tg it ifs scope' p' heq
        cases heq
        dsimp only at hm
        split at hm
        · rename_i hb
          split at hm
          · rename_i w g ts k' e' h1 h2 h3 h4 h5
            split at hm
            · rename_i hg
              cases hm
              obtain ⟨hi', hs⟩ := (sndE n).w x gf h1
              exact s_setDc x z j1 j2 hl (swOk_is hsw) (blkOk_by (by rw [x.N, x.sc]; exact hb)) hg.1 hi' (fun s H C cl fp => g_ok x.blk _ _ h2) (fun k hk s H C cl fp => (sndE k).ts x.blk gf h3 hg.2) (fun k hk s H C cl fp => (sndE k).e x.blk gf h4) (fun k hk s H C cl fp => (sndE k).e x.blk gf h5) hs
            · cases hm
          · cases hm
        · cases hm
theorem snd_set {n : Nat} {f : Nat} {y : Str} {py spos : Pos} {e : Expr} {a : S} (x : XC G c d W X) (z : XS X) (gf : GFn G tab c.fns c.kwt c.exs d) (h : cSet f c y py e = some a) :
    PS X (.Assign [.Name y py] e spos) (tS G W ((step (callD tab d) (evs (callD tab d) n)).s a)) := by
  unfold cSet at h
  split at h
  · rename_i i m h1 h2
    split at h
    · split at h
      · rename_i hc; cases h; exact snd_setL x z gf h1 h2 hc.1 hc.2
      · cases h
    · split at h
      · rename_i hc; cases h; exact snd_setD x z gf h1 h2 hc.1 hc.2
      · cases h
    · split at h
      · rename_i hc; cases h
        obtain ⟨j1, j2⟩ := locIx_ok h1
        exact s_asg x j1 j2 hc ((sndE n).e x gf h2)
      · cases h
  · rename_i m h1 h2
    split at h
    · rename_i i h3
      split at h
      · rename_i hc; cases h
        obtain ⟨j1, j2⟩ := celIx_ok h3
        exact s_asgC x z j1 j2 hc ((sndE n).e x gf h2)
      · cases h
    · cases h
  · cases h
theorem snd_plain {n : Nat} {f : Nat} {ts : List Expr} {k : Nat} {p spos : Pos} {e : Expr} {a : S} (x : XC G c d W X) (z : XS X) (gf : GFn G tab c.fns c.kwt c.exs d) (hw : swappedStores [.Tuple ts k p] e X.env = pure none)
    (h : (match cG f c true (.Tuple ts k p), cE f c e with | some g, some m => if notComp e = true then some (S.asg g m) else none | _, _ => none) = some a) : PS X (.Assign [.Tuple ts k p] e spos) (tS G W ((step (callD tab d) (evs (callD tab d) n)).s a)) := by
  split at h
  · rename_i g m h1 h2
    split at h
    · rename_i hc; cases h; exact s_asgT x z h1 hc hw ((sndE n).e x gf h2)
    · cases h
  · cases h
theorem snd_tup {n : Nat} {f : Nat} {ts : List Expr} {k : Nat} {p spos : Pos} {e : Expr} {a : S} (x : XC G c d W X) (z : XS X) (gf : GFn G tab c.fns c.kwt c.exs d) (h : cTup f c ts k p e = some a) :
    PS X (.Assign [.Tuple ts k p] e spos) (tS G W ((step (callD tab d) (evs (callD tab d) n)).s a)) := by
  unfold cTup at h
  dsimp only at h
  split at h
  · rename_i vs k2 p2
    have hk : X.env.scope.kind = .function := z.kd
    split at h
    · rename_i hs
      exact snd_plain x z gf (swp_is x.sc hk hs) h
    · rename_i ns hs
      have hw := swp_is (k := k) (k2 := k2) (p := p) (p2 := p2) x.sc hk hs
      split at h
      · rename_i y py zz pz u1 u2 y' z' ms hq
        split at h
        · rename_i i j h1 h2
          split at h
          · rename_i hc
            obtain ⟨c1, rfl, rfl⟩ := hc
            cases h
            obtain ⟨a1, a2⟩ := locIx_ok h1
            obtain ⟨b1, b2⟩ := locIx_ok h2
            exact s_par x a1 b1 c1 a2 b2 hw ((sndE n).es x gf hq)
          · cases h
        · cases h
      · rename_i y py zz pz qq pq u1 u2 u3 y' z' q' ms hq
        split at h
        · rename_i i j l h1 h2 h3
          split at h
          · rename_i hc
            obtain ⟨c1, c2, c3, rfl, rfl, rfl⟩ := hc
            cases h
            obtain ⟨a1, a2⟩ := locIx_ok h1
            obtain ⟨b1, b2⟩ := locIx_ok h2
            obtain ⟨d1, d2⟩ := locIx_ok h3
            exact s_par3 x a1 b1 d1 c1 c2 c3 a2 b2 d2 hw ((sndE n).es x gf hq)
          · cases h
        · cases h
      · cases h
    · cases h
  · rename_i hne
    refine snd_plain x z gf (st_no ?_) h
    cases e <;> first | rfl | exact absurd rfl (hne _ _ _)
end
end Mini
set_option Elab.async false
set_option linter.all false
/-! M22: all statements, defs. -/
namespace Mini
open PySem L2 PySem.Spec PyProof.Rows
section
variable {G : Gp} {c : Cc} {d : Nat} {W : WX} {X : Cx} {tab : Nat → Option Fd}
theorem XC.nox (x : XC G c d W X) : XC G c d W0 X.nox := ⟨x.prog, x.w, x.K, x.mg, x.base, x.N, x.nd, x.sc, x.room, x.calm, takes0⟩
theorem XS.nox (y : XS X) : XS X.nox := ⟨PassesOwn.never, y.kd, y.stk, y.frm, y.fn⟩
theorem snd_s {n : Nat} (ih : ∀ k, k ≤ n → SndS G tab d k) {f : Nat} {e : Stmt} {m : S} (x : XC G c d W X) (y : XS X) (gf : GFn G tab c.fns c.kwt c.exs d) (h : cS f c e = some m) : PS X e (tS G W ((evs (callD tab d) (n + 1)).s m)) := by
  have I := ih n (Nat.le_refl n)
  have E := sndE (G := G) (tab := tab) (d := d) n
  rw [evs_succ]
  cases f with
  | zero => unfold cS at h; cases h
  | succ f =>
    cases e with
    | Expr e p =>
      unfold cS at h
      dsimp only at h
      split at h
      · cases h; exact s_skip
      · split at h
        · rename_i hn
          cases q : cE f c e with
          | none => rw [q] at h; cases h
          | some mm => rw [q] at h; cases h; exact s_expr hn (E.e x gf q)
        · cases h
    | Return o p =>
      cases o with
      | none => unfold cS at h; cases h; exact s_retN
      | some e =>
        unfold cS at h
        dsimp only at h
        cases q : cE f c e with
        | none => rw [q] at h; cases h
        | some mm => rw [q] at h; cases h; exact s_ret (E.e x gf q)
    | Pass p => unfold cS at h; cases h; exact s_pass
    | Break p => unfold cS at h; cases h; exact s_brk
    | Continue p => unfold cS at h; cases h; exact s_cont
    | If t a b p =>
      unfold cS at h
      dsimp only at h
      split at h
      · rename_i h1 h2 h3; cases h; exact s_if (E.t x gf h1) (I.ss x y gf h2) (I.ss x y gf h3)
      · cases h
    | While t b o p =>
      cases o with
      | cons _ _ => unfold cS at h; cases h
      | nil =>
        unfold cS at h
        dsimp only at h
        split at h
        · rename_i h1 h2; cases h; exact s_while x y (fun k hk => (sndE k).t x gf h1) (fun k hk => (ih k hk).ss x y gf h2)
        · cases h
    | For tg it b o p =>
      cases o with
      | cons _ _ => unfold cS at h; cases h
      | nil =>
        unfold cS at h
        dsimp only at h
        split at h
        · rename_i h1 h2 h3
          cases h
          obtain ⟨hi, hs⟩ := E.w x gf h1
          exact s_for x y hi (g_okC x y _ _ h2) (fun k hk => (ih k hk).ss x y gf h3) hs
        · cases h
    | Raise o q p =>
      unfold cS at h
      split at h
      all_goals first
        | (cases h; done)
        | (rename_i heq; cases heq; done)
        | skip
      · rename_i nn np e p2 p3 heq
        cases heq
        split at h
        · rename_i hb
          split at h
          · rename_i k fl mm h1 h2; cases h; exact s_raise x gf h1 hb (cEs_star h2 e List.mem_cons_self) (E.es x gf h2)
          · cases h
        · cases h
    | Try b hs o fb p =>
      unfold cS at h
      split at h
      all_goals first
        | (cases h; done)
        | (rename_i heq; cases heq; done)
        | skip
      · rename_i b' h0 hs' p' heq
        cases heq
        split at h
        · rename_i mb hb
          split at h
          · rename_i nn np nm to p1 nm' p2 fl p3 p4 p5
            split at h
            · rename_i k fl' i j h1 h2 h3
              split at h
              · rename_i hc
                obtain ⟨c1, c2, rfl, rfl⟩ := hc
                cases h
                obtain ⟨a1, a2⟩ := locIx_ok h2
                obtain ⟨b1, b2⟩ := locIx_ok h3
                exact s_tryA x y gf h1 c1 a1 a2 b1 b2 c2 fun W' X' x' y' => I.ss x' y' gf hb
              · cases h
            · cases h
          · cases h
            exact s_tryN (I.ss x.nox y.nox gf hb)
        · cases h
    | Assign ts e p =>
      unfold cS at h
      split at h
      all_goals first
        | (cases h; done)
        | (rename_i heq; cases heq; done)
        | skip
      · rename_i yy py e' p' heq
        cases heq
        exact snd_set x y gf h
      · rename_i tt k pp e' p' heq
        cases heq
        exact snd_tup x y gf h
      · rename_i o i pp e' p' heq
        cases heq
        split at h
        · rename_i mo mi mm h1 h2 h3
          split at h
          · rename_i hn; cases h; exact s_sub x h2 hn (E.e x gf h1) (E.e x gf h2) (E.e x gf h3)
          · cases h
        · cases h
    | _ => unfold cS at h; cases h
theorem sndS : ∀ n, SndS G tab d n := by
  intro n
  induction n using Nat.strongRecOn with
  | ind n ih =>
    cases n with
    | zero => exact sndS0
    | succ n =>
      have ih' : ∀ k, k ≤ n → SndS G tab d k := fun k hk => ih k (Nat.lt_succ_of_le hk)
      exact ⟨fun x y gf h => snd_s ih' x y gf h, fun x y gf h => snd_ss (ih' n (Nat.le_refl n)) x y gf h⟩
/-! ### defs -/
/-- a def that was compiled -/
structure DefOk (c0 : Cc) (st : Stmt) (F : Fd) (N ps : List Str) : Prop where
  S : FnScope N ps (defScope st)
  np : F.np = ps.length
  ns : F.ns = N.length
  body : ∃ f, cSs f { c0 with sc := defScope st, N := N } (defBody st) = some F.body
theorem start_rs {ρ : Rh} {H : Hp} {ws : List Vl} {vs : List V} {N : List Str} {ns : Nat} (r : RVs ρ H ws vs) (hn : ns = N.length) : RS ρ H (startE ns ws) (L2.start N vs) := by
  have hl := r.length
  unfold startE L2.start
  rw [llen_eq, hn, hl]
  refine ⟨by simp [hl], fun i v h => ?_⟩
  by_cases hi : i < ws.length
  · rw [List.getElem?_append_left (by rw [List.length_map]; exact hi), List.getElem?_map] at h
    cases q : ws[i]? with
    | none => rw [q] at h; cases h
    | some w =>
      rw [q] at h; cases h
      obtain ⟨x, hx, rx⟩ := r.get q
      refine ⟨x, ?_, rx⟩
      rw [List.getElem?_append_left (by rw [List.length_map]; omega), List.getElem?_map, hx]; rfl
  · rw [List.getElem?_append_right (by rw [List.length_map]; omega)] at h
    rw [List.getElem?_replicate] at h
    split at h <;> cases h
theorem callD_succ {k : Nat} {F : Fd} {ws : List Vl} {h : Hx} (ht : tab k = some F) : callD tab (d + 1) k ws h = cond (Nat.beq (llen ws) F.np) (match (evs (callD tab d) F.fl).ss F.body (startE F.ns ws) h with
      | .nx _ h => .ok .non h
      | .rt v h => .ok v h
      | .ex c p _ h => .ex c p h
      | _ => .no) .no := by
  show (match tab k with | none => R.no | some F => _) = _
  rw [ht]
  try rfl
theorem spF_len {k : Nat} {F : Fd} {vs : List V} {H : Hp} {Q : VK} {E : XK} (ht : tab k = some F) (q : spF G tab (d + 1) k vs H Q E) : vs.length = F.np ∧ ∃ ρ h ws, HR ρ h H ∧ RVs ρ H ws vs ∧ Sp G (fun cls d _ H => E cls d H) [] RV ρ H (match (evs (callD tab d) F.fl).ss F.body (startE F.ns ws) h with
      | .nx _ h => .ok .non h
      | .rt v h => .ok v h
      | .ex c p _ h => .ex c p h
      | _ => .no) Q := by
  refine q.elim fun ρ q => q.elim fun h q => q.elim fun ws q => q.elim fun hr q => q.elim fun rv sp => ?_
  rw [callD_succ ht] at sp
  cases e : Nat.beq (llen ws) F.np with
  | false => rw [e] at sp; exact sp.elim
  | true =>
    rw [e] at sp
    rw [nbeq, llen_eq] at e
    exact ⟨by rw [← rv.length]; exact of_decide_eq_true e, ρ, h, ws, hr, rv, sp⟩
theorem fn_step {c0 : Cc} (gf : GFn G tab c0.fns c0.kwt c0.exs d) {k : Nat} {x qual : Str} {st : Stmt} {a : Addr} {fd : FuncData} {F : Fd} {N ps : List Str} (ht : tab k = some F) (ok : DefOk c0 st F N ps) (fu : L2.Fun G.K x qual st a fd) :
    FnOk G.P G.w G.K G.mg G.base (L2.CX G.P G.w) (d + 3) a fd ps (spF G tab (d + 1) k) := by
  have len : ∀ vs H Q E, spF G tab (d + 1) k vs H Q E → vs.length = ps.length := fun vs H Q E q => by
    rw [(spF_len ht q).1, ok.np]
  refine Fun.okX fu ok.S len fun cdv A outer s H vs Q E hr q => ?_
  refine (spF_len ht q).2.elim fun ρ q => q.elim fun h q => q.elim fun ws q => q.elim fun hr' q => q.elim fun rv sp => ?_
  obtain ⟨f, hb⟩ := ok.body
  have x : XC G { c0 with sc := defScope st, N := N } d (fun cls d _ H => E cls d H) (cxOf (L2.CX G.P G.w) G.P G.w G.K G.mg G.base N qual (defScope st) a cdv A outer s H E) :=
    ⟨rfl, rfl, rfl, rfl, rfl, rfl, ok.S.nd, rfl, hr, rfl, takes_of rfl rfl rfl rfl⟩
  have y : XS (cxOf (L2.CX G.P G.w) G.P G.w G.K G.mg G.base N qual (defScope st) a cdv A outer s H E) := ⟨passes_of rfl, ok.S.kind, rfl, rfl, fun _ => rfl⟩
  refine ⟨_, (sndS F.fl).ss x y gf hb, ρ, h, startE F.ns ws, hr', start_rs rv ok.ns, ?_⟩
  generalize (evs (callD tab d) F.fl).ss F.body (startE F.ns ws) h = r at sp ⊢
  cases r with
  | nx s1 h1 => exact fun ρ1 H1 σ1 ex hr1 rs1 => sp ρ1 H1 _ ex hr1 RV.non_of
  | rt v h1 => exact fun ρ1 H1 x1 ex hr1 rx => sp ρ1 H1 x1 ex hr1 rx
  | ex cc p s1 h1 => exact fun ρ1 H1 σ1 cls dd ex hr1 rs1 rx => sp ρ1 H1 cls dd ex hr1 rx
  | bk s1 h1 => exact sp.elim
  | ct s1 h1 => exact sp.elim
  | no => exact sp.elim
/-- what is told of the program's defs, once -/
structure GDef (G : Gp) (tab : Nat → Option Fd) (c0 : Cc) : Prop where
  fn : ∀ k x, c0.fns[k]? = some x → ∃ a fd ps nm qual st F N, G.mg x = some (.ref a) ∧ PySem.W.keepIn G.K (.ref a) = true ∧ Binds G.K fd ps [] ∧ (∀ ks perm, (k, ks, perm) ∈ c0.kwt → KBinds G.K fd ps ks (gOf perm) (gOfV perm)) ∧ tab k = some F ∧ DefOk c0 st F N ps ∧ L2.Fun G.K nm qual st a fd
  blt : ∀ x ∈ bnames, G.mg x = none
  exc : ∀ i x f, c0.exs[i]? = some (x, f) → ∃ C, G.ctab i = some (C, some f) ∧ ExF G C x f
theorem gfn {c0 : Cc} (D : GDef G tab c0) : ∀ d, GFn G tab c0.fns c0.kwt c0.exs d
  | 0 => ⟨fun k x h => by
    obtain ⟨a, fd, ps, nm, qual, st, F, N, h1, h2, h3, h4, h5, h6, h7⟩ := D.fn k x h
    refine ⟨a, fd, ps, h1, h2, h3, ⟨fun vs H Q E q => ?_, fun A outer s H args us vs Q E hr e0 hb r q => ?_⟩, h4⟩
    · obtain ⟨_, _, _, _, _, sp⟩ := q; exact sp.elim
    · obtain ⟨_, _, _, _, _, sp⟩ := q; exact sp.elim, D.blt, D.exc⟩
  | d + 1 => ⟨fun k x h => by
    obtain ⟨a, fd, ps, nm, qual, st, F, N, h1, h2, h3, h4, h5, h6, h7⟩ := D.fn k x h
    exact ⟨a, fd, ps, h1, h2, h3, fn_step (gfn D d) h5 h6 h7, h4⟩, D.blt, D.exc⟩
end
end Mini
set_option Elab.async false
set_option linter.all false
/-! M23: from a law's written part to its end. -/
namespace Mini
open PySem L2 PySem.Spec PyProof.Rows
def leB (K : PySem.W.Frag) (C : Addr) : Bool := match K.lookup C with
  | some ⟨.type "type", _, .cls cd, sl⟩ => (match cd.mro, sl.toList with
    | .ref C' :: bm, [_, _, _, _, some (.builtin n), _] => C' == C && n == "LookupError.__new__" && !cd.hasDel && cd.hasDict && bm == leTail
    | _, _ => false)
  | _ => false
theorem leB_ok {K : PySem.W.Frag} {C : Addr} (q : leB K C = true) : ∃ nm q N bs sn sub ab col dd k0 k1 k2 k3 k5, K.lookup C = some (excClassObj nm q C N bs leTail true sn sub ab col dd k0 k1 k2 k3 k5 "LookupError.__new__") := by
  unfold leB at q
  split at q
  · rename_i dd cd sl ho
    split at q
    · rename_i C' bm k0 k1 k2 k3 n k5 hm hs
      simp only [Bool.and_eq_true, beq_iff_eq, Bool.not_eq_true'] at q
      obtain ⟨⟨⟨⟨rfl, rfl⟩, hdel⟩, hdict⟩, ht⟩ := q
      obtain ⟨nm, bs, mro, ns, qn, hd, sn, sub, ab, col, del⟩ := cd
      dsimp only at hm hdel hdict
      subst hm hdel hdict ht
      have hsl : sl = #[k0, k1, k2, k3, some (.builtin "LookupError.__new__"), k5] := by
        obtain ⟨l⟩ := sl
        simp only at hs
        rw [hs]
      subst hsl
      exact ⟨nm, qn, ns, bs, sn, sub, ab, col, dd, k0, k1, k2, k3, k5, ho⟩
    · cases q
  · cases q
/-- all that is asked of such a class, at once -/
def exB (K : PySem.W.Frag) (C fI : Addr) (f : Str) : Bool :=
  leB K C && (decide (PySem.W.findIn K (.ref C) "__setattr__" = some (some (.builtin "object.__setattr__"))) && (decide (PySem.W.subIn K (.ref C) (.type "BaseException") = some true) && (decide (PySem.W.typeIn K (.ref C) = some (.type "type")) &&
  (PySem.W.keepIn K (.ref C) && (decide (PySem.W.findIn K (.ref C) f = some none) && (xfB K C && (decide (PySem.W.exmOne K (.ref C) (.ref C) = some true) && (decide (PySem.W.findIn K (.ref C) "__init__" = some (some (.ref fI))) && decide (PySem.W.typeIn K (.ref fI) = some (.type "function"))))))))))
theorem exF_of {P : Program} {w : World} {K : PySem.W.Frag} {mg : Str → Option Value} {base : Heap} {ct : Nat → Option (Addr × Option Str)} {C fI : Addr} {x f self v qual : Str} {st : Stmt} {fd : FuncData} {p1 p2 p3 p4 : Pos} (gx : mg x = some (.ref C)) (h : exB K C fI f = true) (F : L2.Fun K "__init__" qual st fI fd)
    (S : FnScope [self, v] [self, v] (defScope st)) (hs : (defScope st).names.lookup self = some .local) (hv : (defScope st).names.lookup v = some .local)
    (k1 : (self == ("__debug__" : Str)) = false) (k2 : (self == ("__classdict__" : Str)) = false) (k3 : (v == ("__debug__" : Str)) = false) (k4 : (v == ("__classdict__" : Str)) = false) (hb : defBody st = [.Assign [.Attribute (.Name self p1) f p2] (.Name v p3) p4]) (bi : Binds K fd [self, v] []) :
    ExF ⟨P, w, K, mg, base, ct⟩ C x f := by
  unfold exB at h
  obtain ⟨h1, h⟩ := Bool.and_eq_true_iff.mp h
  obtain ⟨h2, h⟩ := Bool.and_eq_true_iff.mp h
  obtain ⟨h3, h⟩ := Bool.and_eq_true_iff.mp h
  obtain ⟨h4, h⟩ := Bool.and_eq_true_iff.mp h
  obtain ⟨h5, h⟩ := Bool.and_eq_true_iff.mp h
  obtain ⟨h6, h⟩ := Bool.and_eq_true_iff.mp h
  obtain ⟨h7, h⟩ := Bool.and_eq_true_iff.mp h
  obtain ⟨h8, h⟩ := Bool.and_eq_true_iff.mp h
  obtain ⟨h9, h10⟩ := Bool.and_eq_true_iff.mp h
  exact ⟨gx, ⟨leB_ok h1, of_decide_eq_true h2, of_decide_eq_true h3, of_decide_eq_true h4, h5⟩, of_decide_eq_true h6, xfB_ok h7, of_decide_eq_true h8,
    fI, fd, [self, v], of_decide_eq_true h9, of_decide_eq_true h10, bi, fn_init F S hs hv k1 k2 k3 k4 hb⟩
/-- keywords, all of them -/
theorem kb_of {K : PySem.W.Frag} {x qual : Str} {st : Stmt} {f : Addr} {fd : FuncData} {ps ks : List Str} {perm : List Nat} (F : L2.Fun K x qual st f fd) (hp : ps ≠ [])
    (h : ∀ (kV doc pm : Value) (an : Option Addr) (cdv ct : Value) (ws : List Value), ws.length = perm.length → bindArgs (PySem.W.fnOf x qual (defArgs st) (defBody st) (defScope st) .none kV doc pm an cdv ct) ⟨[], ks.zip ws⟩ = pure (ps.zip (perm.map fun i => ws.getD i .none))) :
    KBinds K fd ps ks (gOf perm) (gOfV perm) := by
  obtain ⟨oc, od, kV, doc, pm, an, cdv, ct, osl, rfl, lk, hcd⟩ := F.ex
  refine ⟨fun s us ws X hl => ?_, fun {vs us zs ws} r1 r2 => ?_⟩
  · unfold gOf at hl ⊢
    by_cases hc : us.length = 0 ∧ ws.length = perm.length
    · rw [if_pos hc] at hl ⊢
      have e : us = [] := List.eq_nil_of_length_eq_zero hc.1
      subst e
      exact .of_eq (h kV doc pm an cdv ct ws hc.2)
    · rw [if_neg hc] at hl
      exact absurd (List.eq_nil_of_length_eq_zero hl.symm) hp
  · unfold gOf gOfV
    rw [r1.length, r2.length]
    by_cases hc : us.length = 0 ∧ ws.length = perm.length
    · rw [if_pos hc, if_pos hc]
      have go : ∀ l : List Nat, Vals (l.map fun i => zs.getD i .non) (l.map fun i => ws.getD i .none) := fun l => by
        induction l with
        | nil => exact .nil
        | cons i l ih =>
          refine .cons ?_ ih
          show RelV (zs.getD i .non) (ws.getD i .none)
          rw [List.getD_eq_getElem?_getD, List.getD_eq_getElem?_getD]
          cases q : zs[i]? with
          | some z =>
            obtain ⟨u, hu, ru⟩ := r2.get q
            rw [hu]; exact ru
          | none =>
            have hl := r2.length
            have := List.getElem?_eq_none_iff.mp q
            rw [List.getElem?_eq_none (by omega)]; rfl
      exact go perm
    · rw [if_neg hc, if_neg hc]; exact .nil
/-- where the exception classes stand -/
def ctabOf (K : PySem.W.Frag) (exs : List (Str × Str)) : Nat → Option (Addr × Option Str) := fun i => match exs[i]? with
  | some (x, f) => (match PySem.W.nsIn K mainGlobals x with
    | some (some (.ref C)) => some (C, some f)
    | _ => none)
  | none => none
theorem ctab_at {K : PySem.W.Frag} {exs : List (Str × Str)} {i : Nat} {x f : Str} {C : Addr} (h : exs[i]? = some (x, f)) (e : PySem.W.nsIn K mainGlobals x = some (some (.ref C))) : ctabOf K exs i = some (C, some f) := by
  unfold ctabOf
  rw [h]
  dsimp only
  rw [e]
theorem sp_ctab {G G' : Gp} (e : G.ctab = G'.ctab) {α β : Type} {W : WX} {σ : L2.St} {rv : Rh → Hp → α → β → Prop} {ρ : Rh} {H : Hp} {r : R α} {Q : β → Hp → Prop} (h : Sp G W σ rv ρ H r Q) : Sp G' W σ rv ρ H r Q := by
  cases r with
  | ok a hx => exact h
  | ex c p hx =>
    refine fun ρ' H' cls d ex hr rx => h ρ' H' cls d ex hr ?_
    cases rx with
    | bare hz => exact .bare (by rw [e]; exact hz)
    | «with» hz hd r => exact .with (by rw [e]; exact hz) hd r
  | no => exact h
theorem spF_ctab {G G' : Gp} (e : G.ctab = G'.ctab) {tab : Nat → Option Fd} {d k : Nat} {vs : List V} {H : Hp} {Q : VK} {E : XK} (h : spF G tab d k vs H Q E) : spF G' tab d k vs H Q E :=
  h.elim fun ρ h => h.elim fun hx h => h.elim fun ws h => h.elim fun hr h => h.elim fun rv sp => ⟨ρ, hx, ws, hr, rv, sp_ctab e sp⟩
/-- a context of which only the classes matter -/
def G0 (P : Program) (w : World) (K : PySem.W.Frag) (exs : List (Str × Str)) : Gp := ⟨P, w, K, fun _ => none, {}, ctabOf K exs⟩
def isYes (r : R Vl) : Bool := match r with
  | .ok (.bl true) _ => true
  | _ => false
/-- the law says yes at anything -/
theorem sp_yes {G : Gp} {tab : Nat → Option Fd} {d k : Nat} (h : isYes (callD tab d k [.opq] ⟨0, .nil⟩) = true) (H : Hp) (a : Addr) : spF G tab d k [.ref a] H (fun v _ => v = .bl true) fun _ _ _ => False := by
  refine ⟨[], ⟨0, .nil⟩, [.opq], ⟨rfl, List.nodup_nil, fun i a e => by simp at e⟩, RVs.cons RV.opq_of RVs.nil, ?_⟩
  revert h
  cases callD tab d k [.opq] ⟨0, .nil⟩ with
  | ok v hx =>
    intro h
    cases v with
    | bl b =>
      cases b with
      | true => exact fun ρ' H' x ex hr r => r.bl_inv
      | false => cases h
    | _ => cases h
  | ex c p hx => intro h; cases h
  | no => intro h; cases h
theorem law_end {l : Program} {w : World} {K : PySem.W.Frag} {mg : Str → Option Value} {base : Heap} {tab : Nat → Option Fd} {c0 : Cc} {d k : Nat} {x : Str} {fa : Addr} {fd : FuncData} {ps : List Str} (D : GDef ⟨l, w, K, mg, base, ctabOf K c0.exs⟩ tab c0) (hk : c0.fns[k]? = some x) (hx : mg x = some (.ref fa))
    (hf : ∀ a fd' ps' nm qual st F N, mg x = some (.ref a) → tab k = some F → DefOk c0 st F N ps' → L2.Fun K nm qual st a fd' → fd' = fd ∧ ps' = ps) : FnOk l w K mg base (L2.CX l w) (d + 2) fa fd ps (spF (G0 l w K c0.exs) tab d k) := by
  cases d with
  | zero => exact ⟨fun vs H Q E q => by obtain ⟨_, _, _, _, _, sp⟩ := q; exact sp.elim, fun A outer s H args us vs Q E hr e0 hb r q => by obtain ⟨_, _, _, _, _, sp⟩ := q; exact sp.elim⟩
  | succ d =>
    obtain ⟨a, fd', ps', nm, qual, st, F, N, h1, h2, h3, h4, h5, h6, h7⟩ := D.fn k x hk
    obtain ⟨rfl, rfl⟩ := hf a fd' ps' nm qual st F N h1 h5 h6 h7
    have e : a = fa := by
      have := h1.symm.trans hx
      cases this; rfl
    subst e
    exact (fn_step (gfn D d) h5 h6 h7).imp fun vs H Q E q => spF_ctab (G := G0 l w K c0.exs) (G' := ⟨l, w, K, mg, base, ctabOf K c0.exs⟩) rfl q
end Mini
set_option Elab.async false
set_option linter.all false
set_option maxRecDepth 100000
set_option maxHeartbeats 0
namespace K14
open PySem L2 PySem.Spec PyProof.Rows Mini
def P : Program := PySem.Challenge.pw_threefeet_k14_parts_by_hand_and_refused
def topS (i : Nat) : Stmt := P.main.body.getD i (.Pass ⟨0, 0, 0, 0⟩)
def fns : List Str := [("is_number" : Str), ("are_numbers" : Str), ("are_vertices" : Str), ("are_unlike" : Str), ("check_vertex" : Str), ("check_vertices" : Str), ("edges_of" : Str), ("gather" : Str), ("pieces" : Str), ("is_path" : Str), ("graph_in" : Str), ("check_on" : Str), ("meets" : Str), ("feet_of" : Str), ("parts" : Str), ("parts_on" : Str), ("steps_of" : Str), ("chords" : Str), ("on_rim" : Str), ("rim_parts" : Str), ("worst_part" : Str), ("is_three_footed" : Str), ("is_way" : Str), ("way_fault" : Str), ("_law_same" : Str), ("_law_wheel" : Str), ("_law_kite" : Str), ("_law_star_disc" : Str), ("_law_graph" : Str), ("_law_parts_right" : Str), ("_law_chords_right" : Str), ("_law_feet_right" : Str), ("_law_ways_right" : Str), ("_law_refused" : Str), ("_law_refused_right" : Str), ("_law_script_right" : Str), ("law" : Str)]
def exs : List (Str × Str) := [(("NoVertex" : Str), ("vertex" : Str)), (("NoEdge" : Str), ("edge" : Str)), (("NoFace" : Str), ("face" : Str))]
def kwt : List (Nat × List Str × List Nat) := [(14, [("line" : Str), ("graph" : Str)], [1, 0]), (13, [("members" : Str), ("line" : Str), ("graph" : Str)], [2, 1, 0]), (17, [("path" : Str), ("graph" : Str)], [1, 0]), (20, [("line" : Str), ("disc" : Str)], [1, 0]), (19, [("disc" : Str), ("line" : Str)], [0, 1]), (23, [("thing" : Str), ("u" : Str), ("edge" : Str), ("v" : Str), ("disc" : Str)], [4, 3, 2, 1, 0]), (22, [("thing" : Str), ("u" : Str), ("edge" : Str), ("v" : Str), ("disc" : Str)], [4, 3, 2, 1, 0])]
def c0 : Cc := ⟨⟨.function, [], false, false, []⟩, [], fns, exs, [], kwt⟩
def ps0 : List Str := [("thing" : Str)]
def N0 : List Str := [("thing" : Str)]
def ps1 : List Str := [("thing" : Str)]
def N1 : List Str := [("thing" : Str), ("a" : Str)]
def ps2 : List Str := [("thing" : Str), ("size" : Str)]
def N2 : List Str := [("thing" : Str), ("size" : Str)]
def ps3 : List Str := [("numbers" : Str)]
def N3 : List Str := [("numbers" : Str)]
def ps4 : List Str := [("graph" : Str), ("vertex" : Str)]
def N4 : List Str := [("graph" : Str), ("vertex" : Str)]
def ps5 : List Str := [("graph" : Str), ("vertices" : Str)]
def N5 : List Str := [("graph" : Str), ("vertices" : Str), ("vertex" : Str)]
def ps6 : List Str := [("graph" : Str)]
def N6 : List Str := [("graph" : Str), ("found" : Str), ("a" : Str), ("row" : Str), ("b" : Str)]
def ps7 : List Str := [("graph" : Str), ("start" : Str), ("seen" : Str)]
def N7 : List Str := [("graph" : Str), ("start" : Str), ("seen" : Str), ("piece" : Str), ("fresh" : Str), ("b" : Str)]
def ps8 : List Str := [("graph" : Str), ("gone" : Str)]
def N8 : List Str := [("graph" : Str), ("gone" : Str), ("seen" : Str), ("found" : Str), ("a" : Str)]
def ps9 : List Str := [("graph" : Str), ("thing" : Str)]
def N9 : List Str := [("graph" : Str), ("thing" : Str), ("a" : Str), ("b" : Str)]
def ps10 : List Str := [("turns" : Str)]
def N10 : List Str := [("turns" : Str), ("row" : Str)]
def ps11 : List Str := [("face" : Str), ("vertices" : Str)]
def N11 : List Str := [("face" : Str), ("vertices" : Str), ("vertex" : Str)]
def ps12 : List Str := [("members" : Str), ("rim" : Str)]
def N12 : List Str := [("members" : Str), ("rim" : Str), ("a" : Str)]
def ps13 : List Str := [("graph" : Str), ("line" : Str), ("members" : Str)]
def N13 : List Str := [("graph" : Str), ("line" : Str), ("members" : Str), ("found" : Str), ("a" : Str), ("b" : Str)]
def ps14 : List Str := [("graph" : Str), ("line" : Str)]
def N14 : List Str := [("graph" : Str), ("line" : Str), ("members" : Str)]
def ps15 : List Str := [("graph" : Str), ("line" : Str), ("vertex" : Str)]
def N15 : List Str := [("graph" : Str), ("line" : Str), ("vertex" : Str), ("part" : Str)]
def ps16 : List Str := [("path" : Str)]
def N16 : List Str := [("path" : Str), ("a" : Str), ("b" : Str)]
def ps17 : List Str := [("graph" : Str), ("path" : Str)]
def N17 : List Str := [("graph" : Str), ("path" : Str), ("used" : Str), ("a" : Str), ("b" : Str)]
def ps18 : List Str := [("disc" : Str), ("part" : Str)]
def N18 : List Str := [("disc" : Str), ("part" : Str)]
def ps19 : List Str := [("disc" : Str), ("line" : Str)]
def N19 : List Str := [("disc" : Str), ("line" : Str), ("part" : Str)]
def ps20 : List Str := [("disc" : Str), ("line" : Str)]
def N20 : List Str := [("disc" : Str), ("line" : Str), ("part" : Str)]
def ps21 : List Str := [("disc" : Str), ("line" : Str)]
def N21 : List Str := [("disc" : Str), ("line" : Str)]
def ps22 : List Str := [("disc" : Str), ("v" : Str), ("edge" : Str), ("u" : Str), ("thing" : Str)]
def N22 : List Str := [("disc" : Str), ("v" : Str), ("edge" : Str), ("u" : Str), ("thing" : Str)]
def ps23 : List Str := [("disc" : Str), ("v" : Str), ("edge" : Str), ("u" : Str), ("thing" : Str)]
def N23 : List Str := [("disc" : Str), ("v" : Str), ("edge" : Str), ("u" : Str), ("thing" : Str)]
def ps24 : List Str := [("got" : Str), ("due" : Str)]
def N24 : List Str := [("got" : Str), ("due" : Str), ("mine" : Str), ("its" : Str)]
def ps25 : List Str := []
def N25 : List Str := []
def ps26 : List Str := []
def N26 : List Str := []
def ps27 : List Str := []
def N27 : List Str := []
def ps28 : List Str := [("disc" : Str)]
def N28 : List Str := [("disc" : Str), ("turn" : Str)]
def ps29 : List Str := []
def N29 : List Str := [("got" : Str), ("due" : Str), ("spokes" : Str), ("star" : Str), ("lone" : Str), ("two" : Str)]
def ps30 : List Str := []
def N30 : List Str := [("got" : Str), ("due" : Str), ("spokes" : Str), ("star" : Str), ("ring" : Str)]
def ps31 : List Str := []
def N31 : List Str := [("one" : Str), ("got" : Str), ("due" : Str), ("wheel" : Str), ("kite" : Str), ("star" : Str)]
def ps32 : List Str := []
def N32 : List Str := [("things" : Str), ("due" : Str), ("got" : Str), ("wheel" : Str), ("kite" : Str), ("star" : Str), ("own" : Str)]
def ps33 : List Str := [("graph" : Str), ("line" : Str), ("vertex" : Str)]
def N33 : List Str := [("graph" : Str), ("line" : Str), ("vertex" : Str), ("told" : Str), ("bad" : Str)]
def ps34 : List Str := []
def N34 : List Str := [("spokes" : Str), ("rows" : Str), ("graph" : Str), ("line" : Str), ("vertex" : Str)]
def ps35 : List Str := [("script" : Str)]
def N35 : List Str := [("script" : Str)]
def ps36 : List Str := [("script" : Str)]
def N36 : List Str := [("script" : Str), ("told" : Str)]
def F0 : Fd := ⟨1, 1, 1000000000, [(.ret (.and (.bf .isinst [(.var 0), (.cst (.ty .int))]) (.and (.not (.bf .isinst [(.var 0), (.cst (.ty .bool))])) (.one (.op .ge (.var 0) (.cst (.int 0)))))))]⟩
def F1 : Fd := ⟨1, 2, 1000000000, [(.iff (.not (.val (.bf .isinst [(.var 0), (.cst (.ty .tuple))]))) [(.ret (.cst (.bl false)))] []), (.loop (.seq (.var 0)) (.name 1) [(.iff (.not (.val (.call 0 [(.var 1)]))) [(.ret (.cst (.bl false)))] [])]), (.ret (.cst (.bl true)))]⟩
def F2 : Fd := ⟨2, 2, 1000000000, [(.ret (.and (.call 1 [(.var 0)]) (.one (.or (.not (.var 0)) (.one (.op .lt (.bf .max [(.var 0)]) (.var 1)))))))]⟩
def F3 : Fd := ⟨1, 1, 1000000000, [(.ret (.op .eq (.us .lenset (.var 0)) (.bf .len [(.var 0)])))]⟩
def F4 : Fd := ⟨2, 2, 1000000000, [(.iff (.not (.chain .le .lt (.cst (.int 0)) (.var 1) (.bf .len [(.var 0)]))) [(.raise 0 (.var 1))] [])]⟩
def F5 : Fd := ⟨2, 3, 1000000000, [(.loop (.seq (.var 1)) (.name 2) [(.expr (.call 4 [(.var 0), (.var 2)]))])]⟩
def F6 : Fd := ⟨1, 5, 1000000000, [(.asg (.name 1) (.lst [])), (.loop (.enum (.var 0)) (.tup [(.name 2), (.name 3)]) [(.expr (.mf .extend (.var 1) [(.lc (.seq (.var 3)) (.name 4) [(.cmp .lt (.var 2) (.var 4))] (.tup [(.var 2), (.var 4)]) [4])]))]), (.ret (.bf .tuple [(.var 1)]))]⟩
def F7 : Fd := ⟨3, 6, 1000000000, [(.sub (.var 2) (.var 1) (.cst (.bl true))), (.asg (.name 3) (.lst [(.var 1)])), (.asg (.name 4) (.lst [(.var 1)])), (.while (.val (.var 4)) [(.loop (.seq (.op .item (.var 0) (.mf .pop (.var 4) []))) (.name 5) [(.iff (.cmp .nin (.var 5) (.var 2)) [(.sub (.var 2) (.var 5) (.cst (.bl true))), (.expr (.mf .append (.var 3) [(.var 5)])), (.expr (.mf .append (.var 4) [(.var 5)]))] [])])]), (.ret (.bf .tuple [(.bf .sorted [(.var 3)])]))]⟩
def F8 : Fd := ⟨2, 5, 1000000000, [(.expr (.call 5 [(.var 0), (.var 1)])), (.asg (.name 2) (.dc (.seq (.var 1)) (.name 4) [] (.var 4) (.cst (.bl true)) [4])), (.asg (.name 3) (.lst [])), (.loop (.rng1 (.bf .len [(.var 0)])) (.name 4) [(.iff (.cmp .nin (.var 4) (.var 2)) [(.expr (.mf .append (.var 3) [(.call 7 [(.var 0), (.var 4), (.var 2)])]))] [])]), (.ret (.bf .tuple [(.var 3)]))]⟩
def F9 : Fd := ⟨2, 4, 1000000000, [(.iff (.or (.not (.val (.call 2 [(.var 1), (.bf .len [(.var 0)])]))) (.or (.not (.val (.var 1))) (.one (.not (.val (.call 3 [(.var 1)])))))) [(.ret (.cst (.bl false)))] []), (.loop (.zip (.var 1) (.slice (.var 1) (some (.cst (.int 1))) none)) (.tup [(.name 2), (.name 3)]) [(.iff (.cmp .nin (.var 3) (.op .item (.var 0) (.var 2))) [(.ret (.cst (.bl false)))] [])]), (.ret (.cst (.bl true)))]⟩
def F10 : Fd := ⟨1, 2, 1000000000, [(.ret (.bf .tuple [(.lc (.seq (.var 0)) (.name 1) [] (.bf .tuple [(.bf .sorted [(.var 1)])]) [1])]))]⟩
def F11 : Fd := ⟨2, 3, 1000000000, [(.loop (.seq (.var 1)) (.name 2) [(.iff (.cmp .nin (.var 2) (.var 0)) [(.raise 0 (.var 2))] [])])]⟩
def F12 : Fd := ⟨2, 3, 1000000000, [(.loop (.seq (.var 0)) (.name 2) [(.iff (.cmp .inn (.var 2) (.var 1)) [(.ret (.cst (.bl true)))] [])]), (.ret (.cst (.bl false)))]⟩
def F13 : Fd := ⟨3, 6, 1000000000, [(.asg (.name 3) (.lst [])), (.loop (.seq (.var 2)) (.name 4) [(.expr (.mf .extend (.var 3) [(.lc (.seq (.op .item (.var 0) (.var 4))) (.name 5) [(.cmp .inn (.var 5) (.var 1))] (.var 5) [5])]))]), (.ret (.bf .tuple [(.us .sortset (.var 3))]))]⟩
def F14 : Fd := ⟨2, 3, 1000000000, [(.ret (.bf .tuple [(.lc (.seq (.call 8 [(.var 0), (.bf .tuple [(.bf .sorted [(.var 1)])])])) (.name 2) [] (.tup [(.var 2), (.call 13 [(.var 0), (.var 1), (.var 2)])]) [2])]))]⟩
def F15 : Fd := ⟨3, 4, 1000000000, [(.expr (.call 11 [(.var 1), (.tup [(.var 2)])])), (.ret (.bf .tuple [(.lc (.seq (.call 14 [(.var 0), (.var 1)])) (.name 3) [(.cmp .inn (.var 2) (.op .item (.var 3) (.cst (.int 1))))] (.var 3) [3])]))]⟩
def F16 : Fd := ⟨1, 3, 1000000000, [(.ret (.bf .tuple [(.bf .sorted [(.lc (.zip (.var 0) (.slice (.var 0) (some (.cst (.int 1))) none)) (.tup [(.name 1), (.name 2)]) [] (.tup [(.bf .min [(.var 1), (.var 2)]), (.bf .max [(.var 1), (.var 2)])]) [1, 2])])]))]⟩
def F17 : Fd := ⟨2, 5, 1000000000, [(.asg (.name 2) (.call 16 [(.var 1)])), (.ret (.bf .tuple [(.lc (.seq (.call 6 [(.var 0)])) (.tup [(.name 3), (.name 4)]) [(.and (.cmp .inn (.var 3) (.var 1)) (.and (.cmp .inn (.var 4) (.var 1)) (.one (.cmp .nin (.tup [(.var 3), (.var 4)]) (.var 2)))))] (.tup [(.var 3), (.var 4)]) [3, 4])]))]⟩
def F18 : Fd := ⟨2, 2, 1000000000, [(.ret (.call 12 [(.op .item (.var 1) (.cst (.int 0))), (.op .item (.var 0) (.cst (.int 1)))]))]⟩
def F19 : Fd := ⟨2, 3, 1000000000, [(.ret (.bf .tuple [(.lc (.seq (.call 14 [(.call 10 [(.op .item (.var 0) (.cst (.int 0)))]), (.var 1)])) (.name 2) [(.val (.call 18 [(.var 0), (.var 2)]))] (.var 2) [2])]))]⟩
def F20 : Fd := ⟨2, 3, 1000000000, [(.loop (.seq (.call 14 [(.call 10 [(.op .item (.var 0) (.cst (.int 0)))]), (.var 1)])) (.name 2) [(.iff (.cmp .gt (.bf .len [(.op .item (.var 2) (.cst (.int 1)))]) (.ite (.val (.call 18 [(.var 0), (.var 2)])) (.cst (.int 2)) (.cst (.int 3)))) [(.ret (.var 2))] [])]), (.ret (.cst .non))]⟩
def F21 : Fd := ⟨2, 2, 1000000000, [(.ret (.op .isN (.call 20 [(.var 0), (.var 1)]) (.cst .non)))]⟩
def F22 : Fd := ⟨5, 5, 1000000000, [(.ret (.op .eq (.call 23 [(.var 0), (.var 1), (.var 2), (.var 3), (.var 4)]) (.cst (.str ""))))]⟩
def F23 : Fd := ⟨5, 5, 1000000000, [(.iff (.not (.val (.call 9 [(.call 10 [(.op .item (.var 0) (.cst (.int 0)))]), (.var 4)]))) [(.ret (.cst (.str "path")))] []), (.iff (.or (.cmp .ne (.op .item (.var 4) (.cst (.int 0))) (.var 1)) (.one (.cmp .ne (.op .item (.var 4) (.neg (.cst (.int 1)))) (.var 3)))) [(.ret (.cst (.str "ends")))] []), (.iff (.cmp .nin (.var 2) (.call 16 [(.var 4)])) [(.ret (.cst (.str "edge")))] []), (.ret (.ite (.val (.call 21 [(.var 0), (.var 4)])) (.cst (.str "")) (.cst (.str "feet"))))]⟩
def F24 : Fd := ⟨2, 4, 1000000000, [(.iff (.val (.bf .isinst [(.var 1), (.tup [(.cst (.ty .list)), (.cst (.ty .tuple))])])) [(.iff (.or (.cmp .ne (.bf .isinst [(.var 0), (.cst (.ty .list))]) (.bf .isinst [(.var 1), (.cst (.ty .list))])) (.one (.cmp .ne (.bf .isinst [(.var 0), (.cst (.ty .tuple))]) (.bf .isinst [(.var 1), (.cst (.ty .tuple))])))) [(.ret (.cst (.bl false)))] []), (.ret (.and (.op .eq (.bf .len [(.var 0)]) (.bf .len [(.var 1)])) (.one (.bf .all [(.lc (.zip (.var 0) (.var 1)) (.tup [(.name 2), (.name 3)]) [] (.call 24 [(.var 2), (.var 3)]) [2, 3])]))))] []), (.iff (.or (.cmp .isN (.var 1) (.cst .non)) (.one (.val (.bf .isinst [(.var 1), (.tup [(.cst (.ty .bool)), (.cst (.ty .str))])])))) [(.iff (.cmp .ne (.bf .isinst [(.var 0), (.cst (.ty .str))]) (.bf .isinst [(.var 1), (.cst (.ty .str))])) [(.ret (.cst (.bl false)))] []), (.ret (.and (.op .eq (.var 0) (.var 1)) (.and (.op .eq (.bf .isinst [(.var 0), (.cst (.ty .bool))]) (.bf .isinst [(.var 1), (.cst (.ty .bool))])) (.one (.op .eq (.op .isN (.var 0) (.cst .non)) (.op .isN (.var 1) (.cst .non)))))))] []), (.ret (.and (.bf .isinst [(.var 0), (.cst (.ty .int))]) (.and (.not (.bf .isinst [(.var 0), (.cst (.ty .bool))])) (.one (.op .eq (.var 0) (.var 1))))))]⟩
def F25 : Fd := ⟨0, 0, 1000000000, [(.ret (.tup [(.tup [(.tup [(.cst (.int 1)), (.cst (.int 4)), (.cst (.int 3))]), (.tup [(.cst (.int 0)), (.cst (.int 2)), (.cst (.int 4))]), (.tup [(.cst (.int 1)), (.cst (.int 3)), (.cst (.int 4))]), (.tup [(.cst (.int 0)), (.cst (.int 4)), (.cst (.int 2))]), (.tup [(.cst (.int 0)), (.cst (.int 1)), (.cst (.int 2)), (.cst (.int 3))])]), (.tup [(.cst (.int 0)), (.cst (.int 1)), (.cst (.int 2)), (.cst (.int 3))])]))]⟩
def F26 : Fd := ⟨0, 0, 1000000000, [(.ret (.tup [(.tup [(.tup [(.cst (.int 1)), (.cst (.int 2)), (.cst (.int 3))]), (.tup [(.cst (.int 0)), (.cst (.int 3)), (.cst (.int 2))]), (.tup [(.cst (.int 0)), (.cst (.int 1)), (.cst (.int 3))]), (.tup [(.cst (.int 0)), (.cst (.int 2)), (.cst (.int 1))])]), (.tup [(.cst (.int 0)), (.cst (.int 1)), (.cst (.int 3))])]))]⟩
def F27 : Fd := ⟨0, 0, 1000000000, [(.ret (.tup [(.tup [(.tup [(.cst (.int 1)), (.cst (.int 6)), (.cst (.int 5))]), (.tup [(.cst (.int 0)), (.cst (.int 2))]), (.tup [(.cst (.int 1)), (.cst (.int 3)), (.cst (.int 6))]), (.tup [(.cst (.int 2)), (.cst (.int 4))]), (.tup [(.cst (.int 3)), (.cst (.int 5)), (.cst (.int 6))]), (.tup [(.cst (.int 0)), (.cst (.int 4))]), (.tup [(.cst (.int 0)), (.cst (.int 2)), (.cst (.int 4))])]), (.tup [(.cst (.int 0)), (.cst (.int 1)), (.cst (.int 2)), (.cst (.int 3)), (.cst (.int 4)), (.cst (.int 5))])]))]⟩
def F28 : Fd := ⟨1, 2, 1000000000, [(.ret (.bf .tuple [(.lc (.seq (.op .item (.var 0) (.cst (.int 0)))) (.name 1) [] (.bf .tuple [(.bf .sorted [(.var 1)])]) [1])]))]⟩
def F29 : Fd := ⟨0, 6, 1000000000, [(.par [2, 3] [(.call 28 [(.call 25 [])]), (.call 28 [(.call 27 [])])]), (.asg (.tup [(.name 4), (.name 5)]) (.tup [(.tup [(.tup [(.cst (.int 1))]), (.tup [(.cst (.int 0)), (.cst (.int 2))]), (.tup [(.cst (.int 1))])]), (.tup [(.tup [(.cst (.int 1))]), (.tup [(.cst (.int 0))]), (.tup [(.cst (.int 3))]), (.tup [(.cst (.int 2))]), (.tup [])])])), (.asg (.name 0) (.lst [(.call 14 [(.var 2), (.tup [(.cst (.int 0)), (.cst (.int 1)), (.cst (.int 2))])]), (.call 14 [(.var 2), (.tup [(.cst (.int 0)), (.cst (.int 4)), (.cst (.int 2))])]), (.call 14 [(.var 2), (.tup [(.cst (.int 0)), (.cst (.int 1)), (.cst (.int 4)), (.cst (.int 3)), (.cst (.int 2))])]), (.call 14 [(.var 2), (.tup [(.cst (.int 4))])])])), (.asg (.name 1) (.lst [(.tup [(.tup [(.tup [(.cst (.int 3)), (.cst (.int 4))]), (.tup [(.cst (.int 0)), (.cst (.int 1)), (.cst (.int 2))])])]), (.tup [(.tup [(.tup [(.cst (.int 1))]), (.tup [(.cst (.int 0)), (.cst (.int 2)), (.cst (.int 4))])]), (.tup [(.tup [(.cst (.int 3))]), (.tup [(.cst (.int 0)), (.cst (.int 2)), (.cst (.int 4))])])]), (.tup []), (.tup [(.tup [(.tup [(.cst (.int 0)), (.cst (.int 1)), (.cst (.int 2)), (.cst (.int 3))]), (.tup [(.cst (.int 4))])])])])), (.asg (.name 0) (.op .add (.var 0) (.lst [(.call 14 [(.var 2), (.tup [(.cst (.int 2)), (.cst (.int 1)), (.cst (.int 0))])]), (.call 14 [(.var 4), (.tup [(.cst (.int 1))])]), (.call 14 [(.var 4), (.tup [(.cst (.int 2))])]), (.call 14 [(.var 5), (.tup [(.cst (.int 0))])]), (.callk 14 [(.tup [(.cst (.int 3)), (.cst (.int 2))]), (.var 5)] [1, 0])]))), (.asg (.name 1) (.op .add (.var 1) (.lst [(.tup [(.tup [(.tup [(.cst (.int 3)), (.cst (.int 4))]), (.tup [(.cst (.int 0)), (.cst (.int 1)), (.cst (.int 2))])])]), (.tup [(.tup [(.tup [(.cst (.int 0))]), (.tup [(.cst (.int 1))])]), (.tup [(.tup [(.cst (.int 2))]), (.tup [(.cst (.int 1))])])]), (.tup [(.tup [(.tup [(.cst (.int 0)), (.cst (.int 1))]), (.tup [(.cst (.int 2))])])])]))), (.asg (.name 1) (.op .add (.var 1) (.lst [(.tup [(.tup [(.tup [(.cst (.int 1))]), (.tup [(.cst (.int 0))])]), (.tup [(.tup [(.cst (.int 2)), (.cst (.int 3))]), (.tup [])]), (.tup [(.tup [(.cst (.int 4))]), (.tup [])])]), (.tup [(.tup [(.tup [(.cst (.int 0)), (.cst (.int 1))]), (.tup [])]), (.tup [(.tup [(.cst (.int 4))]), (.tup [])])])]))), (.asg (.name 0) (.op .add (.var 0) (.lst [(.call 14 [(.var 3), (.tup [(.cst (.int 0)), (.cst (.int 1)), (.cst (.int 2)), (.cst (.int 3)), (.cst (.int 4)), (.cst (.int 5))])]), (.call 14 [(.var 3), (.tup [(.cst (.int 5)), (.cst (.int 0)), (.cst (.int 6)), (.cst (.int 4))])]), (.call 14 [(.var 3), (.tup [(.cst (.int 6))])]), (.call 14 [(.tup [(.tup [])]), (.tup [(.cst (.int 0))])])]))), (.asg (.name 1) (.op .add (.var 1) (.lst [(.tup [(.tup [(.tup [(.cst (.int 6))]), (.tup [(.cst (.int 0)), (.cst (.int 2)), (.cst (.int 4))])])]), (.tup [(.tup [(.tup [(.cst (.int 1)), (.cst (.int 2)), (.cst (.int 3))]), (.tup [(.cst (.int 0)), (.cst (.int 4)), (.cst (.int 6))])])]), (.tup [(.tup [(.tup [(.cst (.int 0)), (.cst (.int 1)), (.cst (.int 2)), (.cst (.int 3)), (.cst (.int 4)), (.cst (.int 5))]), (.tup [(.cst (.int 6))])])]), (.tup [])]))), (.asg (.name 0) (.op .add (.var 0) (.lst [(.call 13 [(.var 2), (.tup [(.cst (.int 0)), (.cst (.int 1)), (.cst (.int 2))]), (.tup [(.cst (.int 3))])]), (.call 13 [(.var 2), (.tup [(.cst (.int 0)), (.cst (.int 1)), (.cst (.int 2))]), (.tup [])]), (.call 13 [(.var 2), (.tup [(.cst (.int 2)), (.cst (.int 4)), (.cst (.int 0))]), (.tup [(.cst (.int 1)), (.cst (.int 3))])])]))), (.asg (.name 1) (.op .add (.var 1) (.lst [(.tup [(.cst (.int 0)), (.cst (.int 2))]), (.tup []), (.tup [(.cst (.int 0)), (.cst (.int 2)), (.cst (.int 4))])]))), (.asg (.name 0) (.op .add (.var 0) (.lst [(.call 13 [(.var 3), (.tup [(.cst (.int 4)), (.cst (.int 6)), (.cst (.int 0))]), (.tup [(.cst (.int 1)), (.cst (.int 5))])]), (.callk 13 [(.tup [(.cst (.int 3)), (.cst (.int 6))]), (.tup [(.cst (.int 4)), (.cst (.int 5)), (.cst (.int 0)), (.cst (.int 1)), (.cst (.int 2))]), (.var 3)] [2, 1, 0]), (.call 13 [(.var 5), (.tup [(.cst (.int 0))]), (.tup [(.cst (.int 2)), (.cst (.int 4))])])]))), (.asg (.name 1) (.op .add (.var 1) (.lst [(.tup [(.cst (.int 0)), (.cst (.int 4))]), (.tup [(.cst (.int 0)), (.cst (.int 2)), (.cst (.int 4))]), (.tup [])]))), (.asg (.name 0) (.op .add (.var 0) (.lst [(.call 15 [(.var 2), (.tup [(.cst (.int 0)), (.cst (.int 1)), (.cst (.int 4))]), (.cst (.int 0))]), (.call 15 [(.var 2), (.tup [(.cst (.int 0)), (.cst (.int 4)), (.cst (.int 2))]), (.cst (.int 2))]), (.call 15 [(.var 3), (.tup [(.cst (.int 5)), (.cst (.int 0)), (.cst (.int 6)), (.cst (.int 4))]), (.cst (.int 5))]), (.call 15 [(.var 5), (.tup [(.cst (.int 0))]), (.cst (.int 0))])]))), (.asg (.name 1) (.op .add (.var 1) (.lst [(.tup [(.tup [(.tup [(.cst (.int 2)), (.cst (.int 3))]), (.tup [(.cst (.int 0)), (.cst (.int 1)), (.cst (.int 4))])])]), (.tup [(.tup [(.tup [(.cst (.int 1))]), (.tup [(.cst (.int 0)), (.cst (.int 2)), (.cst (.int 4))])]), (.tup [(.tup [(.cst (.int 3))]), (.tup [(.cst (.int 0)), (.cst (.int 2)), (.cst (.int 4))])])]), (.tup []), (.tup [(.tup [(.tup [(.cst (.int 1))]), (.tup [(.cst (.int 0))])])])]))), (.ret (.call 24 [(.var 0), (.var 1)]))]⟩
def F30 : Fd := ⟨0, 5, 1000000000, [(.par [2, 3, 4] [(.call 28 [(.call 25 [])]), (.call 28 [(.call 27 [])]), (.tup [(.tup [(.cst (.int 1)), (.cst (.int 3))]), (.tup [(.cst (.int 0)), (.cst (.int 2))]), (.tup [(.cst (.int 1)), (.cst (.int 3))]), (.tup [(.cst (.int 0)), (.cst (.int 2))])])]), (.asg (.name 0) (.lst [(.call 17 [(.var 2), (.tup [(.cst (.int 0)), (.cst (.int 1)), (.cst (.int 4)), (.cst (.int 3)), (.cst (.int 2))])]), (.call 17 [(.var 2), (.tup [(.cst (.int 0)), (.cst (.int 1)), (.cst (.int 4))])]), (.call 17 [(.var 4), (.tup [(.cst (.int 0)), (.cst (.int 1)), (.cst (.int 2)), (.cst (.int 3))])]), (.call 17 [(.var 4), (.tup [(.cst (.int 3)), (.cst (.int 0))])]), (.call 17 [(.var 4), (.tup [(.cst (.int 2))])])])), (.asg (.name 1) (.lst [(.tup [(.tup [(.cst (.int 0)), (.cst (.int 3))]), (.tup [(.cst (.int 0)), (.cst (.int 4))]), (.tup [(.cst (.int 1)), (.cst (.int 2))]), (.tup [(.cst (.int 2)), (.cst (.int 4))])]), (.tup [(.tup [(.cst (.int 0)), (.cst (.int 4))])]), (.tup [(.tup [(.cst (.int 0)), (.cst (.int 3))])]), (.tup []), (.tup [])])), (.asg (.name 0) (.op .add (.var 0) (.lst [(.callk 17 [(.tup [(.cst (.int 4)), (.cst (.int 3)), (.cst (.int 2)), (.cst (.int 6))]), (.var 3)] [1, 0]), (.call 17 [(.var 3), (.tup [(.cst (.int 5)), (.cst (.int 4)), (.cst (.int 6)), (.cst (.int 0)), (.cst (.int 1)), (.cst (.int 2))])]), (.call 17 [(.var 2), (.tup [(.cst (.int 1)), (.cst (.int 2)), (.cst (.int 3)), (.cst (.int 0))])])]))), (.asg (.name 1) (.op .add (.var 1) (.lst [(.tup [(.tup [(.cst (.int 4)), (.cst (.int 6))])]), (.tup [(.tup [(.cst (.int 0)), (.cst (.int 5))]), (.tup [(.cst (.int 2)), (.cst (.int 6))])]), (.tup [(.tup [(.cst (.int 0)), (.cst (.int 1))])])]))), (.ret (.call 24 [(.var 0), (.var 1)]))]⟩
def F31 : Fd := ⟨0, 6, 1000000000, [(.par [3, 4, 5] [(.call 25 []), (.call 26 []), (.call 27 [])]), (.asg (.name 0) (.tup [(.tup [(.cst (.int 1))]), (.tup [(.cst (.int 0)), (.cst (.int 2)), (.cst (.int 4))])])), (.asg (.name 1) (.lst [(.call 20 [(.var 3), (.tup [(.cst (.int 0)), (.cst (.int 4)), (.cst (.int 2))])]), (.call 20 [(.var 3), (.tup [(.cst (.int 0)), (.cst (.int 1)), (.cst (.int 2)), (.cst (.int 3))])]), (.call 20 [(.var 4), (.tup [(.cst (.int 0)), (.cst (.int 1)), (.cst (.int 3))])]), (.call 20 [(.var 4), (.tup [(.cst (.int 0)), (.cst (.int 2)), (.cst (.int 3))])])])), (.asg (.name 2) (.lst [(.var 0), (.tup [(.tup [(.cst (.int 4))]), (.tup [(.cst (.int 0)), (.cst (.int 1)), (.cst (.int 2)), (.cst (.int 3))])]), (.cst .non), (.tup [(.tup [(.cst (.int 1))]), (.tup [(.cst (.int 0)), (.cst (.int 2)), (.cst (.int 3))])])])), (.asg (.name 1) (.op .add (.var 1) (.lst [(.call 20 [(.var 5), (.tup [(.cst (.int 0)), (.cst (.int 1)), (.cst (.int 2)), (.cst (.int 3)), (.cst (.int 4)), (.cst (.int 5))])]), (.call 20 [(.var 5), (.tup [(.cst (.int 5)), (.cst (.int 0)), (.cst (.int 6)), (.cst (.int 4))])]), (.callk 20 [(.tup [(.cst (.int 0)), (.cst (.int 6)), (.cst (.int 2))]), (.var 5)] [1, 0])]))), (.asg (.name 2) (.op .add (.var 2) (.lst [(.cst .non), (.tup [(.tup [(.cst (.int 1)), (.cst (.int 2)), (.cst (.int 3))]), (.tup [(.cst (.int 0)), (.cst (.int 4)), (.cst (.int 6))])]), (.tup [(.tup [(.cst (.int 3)), (.cst (.int 4)), (.cst (.int 5))]), (.tup [(.cst (.int 0)), (.cst (.int 2)), (.cst (.int 6))])])]))), (.asg (.name 1) (.op .add (.var 1) (.lst [(.call 21 [(.var 3), (.tup [(.cst (.int 0)), (.cst (.int 4)), (.cst (.int 2))])]), (.call 21 [(.var 4), (.tup [(.cst (.int 0)), (.cst (.int 1)), (.cst (.int 3))])]), (.call 21 [(.var 3), (.tup [(.cst (.int 0)), (.cst (.int 1))])]), (.call 21 [(.var 5), (.tup [(.cst (.int 6))])])]))), (.asg (.name 2) (.op .add (.var 2) (.lst [(.cst (.bl false)), (.cst (.bl true)), (.cst (.bl true)), (.cst (.bl true))]))), (.asg (.name 1) (.op .add (.var 1) (.lst [(.call 19 [(.var 3), (.tup [(.cst (.int 0)), (.cst (.int 1)), (.cst (.int 2)), (.cst (.int 3))])]), (.call 19 [(.var 3), (.tup [(.cst (.int 0)), (.cst (.int 4)), (.cst (.int 2))])]), (.call 19 [(.var 5), (.tup [(.cst (.int 0)), (.cst (.int 6)), (.cst (.int 2))])]), (.callk 19 [(.var 4), (.tup [(.cst (.int 0)), (.cst (.int 1))])] [0, 1])]))), (.asg (.name 2) (.op .add (.var 2) (.lst [(.tup []), (.tup [(.var 0), (.tup [(.tup [(.cst (.int 3))]), (.tup [(.cst (.int 0)), (.cst (.int 2)), (.cst (.int 4))])])]), (.tup [(.tup [(.tup [(.cst (.int 1))]), (.tup [(.cst (.int 0)), (.cst (.int 2))])]), (.tup [(.tup [(.cst (.int 3)), (.cst (.int 4)), (.cst (.int 5))]), (.tup [(.cst (.int 0)), (.cst (.int 2)), (.cst (.int 6))])])]), (.tup [(.tup [(.tup [(.cst (.int 2)), (.cst (.int 3))]), (.tup [(.cst (.int 0)), (.cst (.int 1))])])])]))), (.ret (.call 24 [(.var 1), (.var 2)]))]⟩
def F32 : Fd := ⟨0, 7, 1000000000, [(.asg (.tup [(.name 3), (.name 4), (.name 5)]) (.tup [(.call 25 []), (.call 26 []), (.call 27 [])])), (.asg (.name 0) (.lst [(.tup [(.cst (.int 0)), (.cst (.int 2))]), (.tup [(.cst (.int 2)), (.cst (.int 1)), (.cst (.int 0))]), (.tup [(.cst (.int 0)), (.cst (.int 4)), (.cst (.int 1)), (.cst (.int 2))]), (.tup [(.cst (.int 0)), (.cst (.int 1)), (.cst (.int 2))]), (.tup [(.cst (.int 0)), (.cst (.int 1)), (.cst (.int 4)), (.cst (.int 3)), (.cst (.int 2))]), (.tup [(.cst (.int 0)), (.cst (.int 1)), (.cst (.int 4)), (.cst (.int 2))]), (.tup [(.cst (.int 0)), (.cst (.int 3)), (.cst (.int 2))]), (.tup [(.cst (.int 0)), (.cst (.int 1))]), (.tup [(.cst (.int 0)), (.cst (.int 1)), (.cst (.int 0)), (.cst (.int 1)), (.cst (.int 2))])])), (.asg (.name 1) (.lst [(.cst (.str "path")), (.cst (.str "ends")), (.cst (.str "edge")), (.cst (.str "feet")), (.cst (.str "")), (.cst (.str "feet")), (.cst (.str "edge")), (.cst (.str "ends")), (.cst (.str "path"))])), (.asg (.name 0) (.op .add (.var 0) (.lst [(.lst [(.cst (.int 0)), (.cst (.int 1)), (.cst (.int 4)), (.cst (.int 3)), (.cst (.int 2))]), (.tup [(.cst (.int 0)), (.cst (.bl true)), (.cst (.int 4)), (.cst (.int 3)), (.cst (.int 2))]), (.tup []), (.cst .non), (.cst (.str "path")), (.tup [(.cst (.int 0))]), (.tup [(.cst (.int 2))]), (.cst (.int 2)), (.tup [(.cst (.int 0)), (.cst (.int 1)), (.cst (.int 9))]), (.tup [(.cst (.int 0)), (.neg (.cst (.int 1)))]), (.tup [(.tup [(.cst (.int 0)), (.cst (.int 1)), (.cst (.int 2))])]), (.tup [(.cst (.int 0)), (.cst (.int 1)), (.cst (.int 4)), (.cst (.int 3)), (.cst (.int 2)), (.cst (.int 2))])]))), (.asg (.name 1) (.op .add (.var 1) (.lst [(.cst (.str "path")), (.cst (.str "path")), (.cst (.str "path")), (.cst (.str "path")), (.cst (.str "path")), (.cst (.str "ends")), (.cst (.str "ends")), (.cst (.str "path")), (.cst (.str "path")), (.cst (.str "path")), (.cst (.str "path")), (.cst (.str "path"))]))), (.asg (.name 2) (.lc (.seq (.var 0)) (.name 6) [] (.call 23 [(.var 3), (.cst (.int 0)), (.tup [(.cst (.int 0)), (.cst (.int 1))]), (.cst (.int 2)), (.var 6)]) [6])), (.par [0, 1] [(.op .add (.var 0) (.lst [(.tup [(.cst (.int 3)), (.cst (.int 4)), (.cst (.int 0)), (.cst (.int 1)), (.cst (.int 2))]), (.tup [(.cst (.int 0)), (.cst (.int 3)), (.cst (.int 4)), (.cst (.int 1)), (.cst (.int 2))]), (.tup [(.cst (.int 0)), (.cst (.int 1)), (.cst (.int 4)), (.cst (.int 0)), (.cst (.int 3)), (.cst (.int 2))])])), (.op .add (.var 1) (.lst [(.cst (.str "ends")), (.cst (.str "edge")), (.cst (.str "path"))]))]), (.asg (.name 2) (.op .add (.var 2) (.lc (.seq (.slice (.var 0) (some (.neg (.cst (.int 3)))) none)) (.name 6) [] (.call 23 [(.var 3), (.cst (.int 0)), (.tup [(.cst (.int 0)), (.cst (.int 1))]), (.cst (.int 2)), (.var 6)]) [6]))), (.iff (.or (.not (.val (.call 24 [(.var 2), (.var 1)]))) (.one (.not (.val (.call 24 [(.lc (.seq (.var 0)) (.name 6) [] (.call 22 [(.var 3), (.cst (.int 0)), (.tup [(.cst (.int 0)), (.cst (.int 1))]), (.cst (.int 2)), (.var 6)]) [6]), (.lc (.seq (.var 1)) (.name 6) [] (.op .eq (.var 6) (.cst (.str ""))) [6])]))))) [(.ret (.cst (.bl false)))] []), (.asg (.name 2) (.lst [(.call 23 [(.var 4), (.cst (.int 0)), (.tup [(.cst (.int 0)), (.cst (.int 1))]), (.cst (.int 3)), (.tup [(.cst (.int 0)), (.cst (.int 1)), (.cst (.int 3))])]), (.call 23 [(.var 4), (.cst (.int 0)), (.tup [(.cst (.int 1)), (.cst (.int 3))]), (.cst (.int 2)), (.tup [(.cst (.int 0)), (.cst (.int 1)), (.cst (.int 3)), (.cst (.int 2))])]), (.call 23 [(.var 4), (.cst (.int 0)), (.tup [(.cst (.int 0)), (.cst (.int 3))]), (.cst (.int 1)), (.tup [(.cst (.int 0)), (.cst (.int 1))])])])), (.asg (.name 1) (.lst [(.cst (.str "")), (.cst (.str "")), (.cst (.str "edge"))])), (.asg (.name 2) (.op .add (.var 2) (.lst [(.call 22 [(.var 5), (.cst (.int 0)), (.tup [(.cst (.int 2)), (.cst (.int 3))]), (.cst (.int 4)), (.tup [(.cst (.int 0)), (.cst (.int 6)), (.cst (.int 2)), (.cst (.int 3)), (.cst (.int 4))])]), (.call 22 [(.var 5), (.cst (.int 0)), (.tup [(.cst (.int 0)), (.cst (.int 1))]), (.cst (.int 1)), (.tup [(.cst (.int 0)), (.cst (.int 1))])]), (.call 22 [(.var 5), (.cst (.int 0)), (.tup [(.cst (.int 0)), (.cst (.int 1))]), (.cst (.int 6)), (.tup [(.cst (.int 0)), (.cst (.int 1)), (.cst (.int 2)), (.cst (.int 6))])])]))), (.asg (.name 1) (.op .add (.var 1) (.lst [(.cst (.bl true)), (.cst (.bl true)), (.cst (.bl false))]))), (.expr (.mf .append (.var 2) [(.call 23 [(.var 3), (.cst (.int 0)), (.tup [(.cst (.int 0)), (.cst (.int 1))]), (.cst (.int 3)), (.tup [(.cst (.int 0)), (.cst (.int 1)), (.cst (.int 2)), (.cst (.int 3))])])])), (.asg (.name 2) (.op .add (.var 2) (.lc (.seq (.tup [(.tup [(.cst (.int 0)), (.cst (.int 1)), (.cst (.int 2)), (.cst (.int 3))]), (.tup [(.cst (.int 0)), (.cst (.int 1)), (.cst (.int 2)), (.cst (.int 4)), (.cst (.int 3))])])) (.name 6) [] (.call 22 [(.var 3), (.cst (.int 0)), (.tup [(.cst (.int 0)), (.cst (.int 1))]), (.cst (.int 3)), (.var 6)]) [6]))), (.asg (.name 1) (.op .add (.var 1) (.lst [(.cst (.str "feet")), (.cst (.bl false)), (.cst (.bl true))]))), (.asg (.name 2) (.op .add (.var 2) (.lst [(.callk 23 [(.tup [(.cst (.int 0)), (.cst (.int 5)), (.cst (.int 4)), (.cst (.int 3)), (.cst (.int 2))]), (.cst (.int 2)), (.tup [(.cst (.int 2)), (.cst (.int 3))]), (.cst (.int 0)), (.var 5)] [4, 3, 2, 1, 0]), (.callk 22 [(.tup [(.cst (.int 1)), (.cst (.int 0))]), (.cst (.int 0)), (.tup [(.cst (.int 0)), (.cst (.int 1))]), (.cst (.int 1)), (.var 4)] [4, 3, 2, 1, 0])]))), (.ret (.call 24 [(.var 2), (.op .add (.var 1) (.lst [(.cst (.str "")), (.cst (.bl true))]))]))]⟩
def F33 : Fd := ⟨3, 5, 1000000000, [(.asg (.name 3) (.cst (.str "none"))), (.tryA [(.expr (.call 15 [(.var 0), (.var 1), (.var 2)]))] 0 4 3), (.ret (.var 3))]⟩
def F34 : Fd := ⟨0, 5, 1000000000, [(.asg (.name 0) (.call 28 [(.call 25 [])])), (.asg (.name 1) (.lst [(.tup [(.var 0), (.tup [(.cst (.int 0)), (.cst (.int 1)), (.cst (.int 4))]), (.cst (.int 2))]), (.tup [(.var 0), (.tup [(.cst (.int 0)), (.cst (.int 1)), (.cst (.int 4))]), (.cst (.int 9))]), (.tup [(.var 0), (.tup [(.cst (.int 0))]), (.cst (.int 1))]), (.tup [(.var 0), (.tup [(.cst (.int 0)), (.cst (.int 1)), (.cst (.int 4))]), (.cst (.int 4))])])), (.ret (.call 24 [(.lc (.seq (.var 1)) (.tup [(.name 2), (.name 3), (.name 4)]) [] (.call 33 [(.var 2), (.var 3), (.var 4)]) [2, 3, 4]), (.lst [(.cst (.int 2)), (.cst (.int 9)), (.cst (.int 1)), (.cst (.str "none"))])]))]⟩
def F35 : Fd := ⟨1, 1, 1000000000, [(.ret (.and (.call 29 []) (.and (.call 30 []) (.and (.call 31 []) (.and (.call 32 []) (.one (.call 34 [])))))))]⟩
def F36 : Fd := ⟨1, 2, 1000000000, [(.asg (.name 1) (.cst (.bl false))), (.tryN [(.asg (.name 1) (.call 35 [(.var 0)]))]), (.ret (.var 1))]⟩
def tab (k : Nat) : Option Fd := match k with
  | 0 => some F0
  | 1 => some F1
  | 2 => some F2
  | 3 => some F3
  | 4 => some F4
  | 5 => some F5
  | 6 => some F6
  | 7 => some F7
  | 8 => some F8
  | 9 => some F9
  | 10 => some F10
  | 11 => some F11
  | 12 => some F12
  | 13 => some F13
  | 14 => some F14
  | 15 => some F15
  | 16 => some F16
  | 17 => some F17
  | 18 => some F18
  | 19 => some F19
  | 20 => some F20
  | 21 => some F21
  | 22 => some F22
  | 23 => some F23
  | 24 => some F24
  | 25 => some F25
  | 26 => some F26
  | 27 => some F27
  | 28 => some F28
  | 29 => some F29
  | 30 => some F30
  | 31 => some F31
  | 32 => some F32
  | 33 => some F33
  | 34 => some F34
  | 35 => some F35
  | 36 => some F36
  | _ => none
end K14
set_option maxRecDepth 100000
set_option maxHeartbeats 0
namespace K14
open PySem L2 Mini
theorem yes : isYes (callD tab 20 36 [.opq] ⟨0, .nil⟩) = true := by decide +kernel
end K14
set_option Elab.async false
set_option linter.all false
set_option maxRecDepth 100000
set_option maxHeartbeats 0
namespace K14
open PySem L2 PySem.Spec PyProof.Rows Mini
theorem S0 : FnScope N0 ps0 (defScope (topS 9)) := ⟨rfl, rfl, rfl, by decide +kernel, rfl, by decide +kernel, by decide +kernel⟩
theorem ok0 : DefOk c0 (topS 9) F0 N0 ps0 := ⟨S0, rfl, rfl, 60, by kernel_rfl⟩
theorem S1 : FnScope N1 ps1 (defScope (topS 10)) := ⟨rfl, rfl, rfl, by decide +kernel, rfl, by decide +kernel, by decide +kernel⟩
theorem ok1 : DefOk c0 (topS 10) F1 N1 ps1 := ⟨S1, rfl, rfl, 60, by kernel_rfl⟩
theorem S2 : FnScope N2 ps2 (defScope (topS 11)) := ⟨rfl, rfl, rfl, by decide +kernel, rfl, by decide +kernel, by decide +kernel⟩
theorem ok2 : DefOk c0 (topS 11) F2 N2 ps2 := ⟨S2, rfl, rfl, 60, by kernel_rfl⟩
theorem S3 : FnScope N3 ps3 (defScope (topS 12)) := ⟨rfl, rfl, rfl, by decide +kernel, rfl, by decide +kernel, by decide +kernel⟩
theorem ok3 : DefOk c0 (topS 12) F3 N3 ps3 := ⟨S3, rfl, rfl, 60, by kernel_rfl⟩
theorem S4 : FnScope N4 ps4 (defScope (topS 13)) := ⟨rfl, rfl, rfl, by decide +kernel, rfl, by decide +kernel, by decide +kernel⟩
theorem ok4 : DefOk c0 (topS 13) F4 N4 ps4 := ⟨S4, rfl, rfl, 60, by kernel_rfl⟩
theorem S5 : FnScope N5 ps5 (defScope (topS 14)) := ⟨rfl, rfl, rfl, by decide +kernel, rfl, by decide +kernel, by decide +kernel⟩
theorem ok5 : DefOk c0 (topS 14) F5 N5 ps5 := ⟨S5, rfl, rfl, 60, by kernel_rfl⟩
theorem S6 : FnScope N6 ps6 (defScope (topS 15)) := ⟨rfl, rfl, rfl, by decide +kernel, rfl, by decide +kernel, by decide +kernel⟩
theorem ok6 : DefOk c0 (topS 15) F6 N6 ps6 := ⟨S6, rfl, rfl, 60, by kernel_rfl⟩
theorem S7 : FnScope N7 ps7 (defScope (topS 16)) := ⟨rfl, rfl, rfl, by decide +kernel, rfl, by decide +kernel, by decide +kernel⟩
theorem ok7 : DefOk c0 (topS 16) F7 N7 ps7 := ⟨S7, rfl, rfl, 60, by kernel_rfl⟩
theorem S8 : FnScope N8 ps8 (defScope (topS 17)) := ⟨rfl, rfl, rfl, by decide +kernel, rfl, by decide +kernel, by decide +kernel⟩
theorem ok8 : DefOk c0 (topS 17) F8 N8 ps8 := ⟨S8, rfl, rfl, 60, by kernel_rfl⟩
theorem S9 : FnScope N9 ps9 (defScope (topS 18)) := ⟨rfl, rfl, rfl, by decide +kernel, rfl, by decide +kernel, by decide +kernel⟩
theorem ok9 : DefOk c0 (topS 18) F9 N9 ps9 := ⟨S9, rfl, rfl, 60, by kernel_rfl⟩
theorem S10 : FnScope N10 ps10 (defScope (topS 20)) := ⟨rfl, rfl, rfl, by decide +kernel, rfl, by decide +kernel, by decide +kernel⟩
theorem ok10 : DefOk c0 (topS 20) F10 N10 ps10 := ⟨S10, rfl, rfl, 60, by kernel_rfl⟩
theorem S11 : FnScope N11 ps11 (defScope (topS 21)) := ⟨rfl, rfl, rfl, by decide +kernel, rfl, by decide +kernel, by decide +kernel⟩
theorem ok11 : DefOk c0 (topS 21) F11 N11 ps11 := ⟨S11, rfl, rfl, 60, by kernel_rfl⟩
theorem S12 : FnScope N12 ps12 (defScope (topS 23)) := ⟨rfl, rfl, rfl, by decide +kernel, rfl, by decide +kernel, by decide +kernel⟩
theorem ok12 : DefOk c0 (topS 23) F12 N12 ps12 := ⟨S12, rfl, rfl, 60, by kernel_rfl⟩
theorem S13 : FnScope N13 ps13 (defScope (topS 25)) := ⟨rfl, rfl, rfl, by decide +kernel, rfl, by decide +kernel, by decide +kernel⟩
theorem ok13 : DefOk c0 (topS 25) F13 N13 ps13 := ⟨S13, rfl, rfl, 60, by kernel_rfl⟩
theorem S14 : FnScope N14 ps14 (defScope (topS 26)) := ⟨rfl, rfl, rfl, by decide +kernel, rfl, by decide +kernel, by decide +kernel⟩
theorem ok14 : DefOk c0 (topS 26) F14 N14 ps14 := ⟨S14, rfl, rfl, 60, by kernel_rfl⟩
theorem S15 : FnScope N15 ps15 (defScope (topS 27)) := ⟨rfl, rfl, rfl, by decide +kernel, rfl, by decide +kernel, by decide +kernel⟩
theorem ok15 : DefOk c0 (topS 27) F15 N15 ps15 := ⟨S15, rfl, rfl, 60, by kernel_rfl⟩
theorem S16 : FnScope N16 ps16 (defScope (topS 28)) := ⟨rfl, rfl, rfl, by decide +kernel, rfl, by decide +kernel, by decide +kernel⟩
theorem ok16 : DefOk c0 (topS 28) F16 N16 ps16 := ⟨S16, rfl, rfl, 60, by kernel_rfl⟩
theorem S17 : FnScope N17 ps17 (defScope (topS 29)) := ⟨rfl, rfl, rfl, by decide +kernel, rfl, by decide +kernel, by decide +kernel⟩
theorem ok17 : DefOk c0 (topS 29) F17 N17 ps17 := ⟨S17, rfl, rfl, 60, by kernel_rfl⟩
theorem S18 : FnScope N18 ps18 (defScope (topS 30)) := ⟨rfl, rfl, rfl, by decide +kernel, rfl, by decide +kernel, by decide +kernel⟩
theorem ok18 : DefOk c0 (topS 30) F18 N18 ps18 := ⟨S18, rfl, rfl, 60, by kernel_rfl⟩
theorem S19 : FnScope N19 ps19 (defScope (topS 31)) := ⟨rfl, rfl, rfl, by decide +kernel, rfl, by decide +kernel, by decide +kernel⟩
theorem ok19 : DefOk c0 (topS 31) F19 N19 ps19 := ⟨S19, rfl, rfl, 60, by kernel_rfl⟩
theorem S20 : FnScope N20 ps20 (defScope (topS 32)) := ⟨rfl, rfl, rfl, by decide +kernel, rfl, by decide +kernel, by decide +kernel⟩
theorem ok20 : DefOk c0 (topS 32) F20 N20 ps20 := ⟨S20, rfl, rfl, 60, by kernel_rfl⟩
theorem S21 : FnScope N21 ps21 (defScope (topS 33)) := ⟨rfl, rfl, rfl, by decide +kernel, rfl, by decide +kernel, by decide +kernel⟩
theorem ok21 : DefOk c0 (topS 33) F21 N21 ps21 := ⟨S21, rfl, rfl, 60, by kernel_rfl⟩
theorem S22 : FnScope N22 ps22 (defScope (topS 34)) := ⟨rfl, rfl, rfl, by decide +kernel, rfl, by decide +kernel, by decide +kernel⟩
theorem ok22 : DefOk c0 (topS 34) F22 N22 ps22 := ⟨S22, rfl, rfl, 60, by kernel_rfl⟩
theorem S23 : FnScope N23 ps23 (defScope (topS 35)) := ⟨rfl, rfl, rfl, by decide +kernel, rfl, by decide +kernel, by decide +kernel⟩
theorem ok23 : DefOk c0 (topS 35) F23 N23 ps23 := ⟨S23, rfl, rfl, 60, by kernel_rfl⟩
theorem S24 : FnScope N24 ps24 (defScope (topS 37)) := ⟨rfl, rfl, rfl, by decide +kernel, rfl, by decide +kernel, by decide +kernel⟩
theorem ok24 : DefOk c0 (topS 37) F24 N24 ps24 := ⟨S24, rfl, rfl, 60, by kernel_rfl⟩
theorem S25 : FnScope N25 ps25 (defScope (topS 38)) := ⟨rfl, rfl, rfl, by decide +kernel, rfl, by decide +kernel, by decide +kernel⟩
theorem ok25 : DefOk c0 (topS 38) F25 N25 ps25 := ⟨S25, rfl, rfl, 60, by kernel_rfl⟩
theorem S26 : FnScope N26 ps26 (defScope (topS 39)) := ⟨rfl, rfl, rfl, by decide +kernel, rfl, by decide +kernel, by decide +kernel⟩
theorem ok26 : DefOk c0 (topS 39) F26 N26 ps26 := ⟨S26, rfl, rfl, 60, by kernel_rfl⟩
theorem S27 : FnScope N27 ps27 (defScope (topS 40)) := ⟨rfl, rfl, rfl, by decide +kernel, rfl, by decide +kernel, by decide +kernel⟩
theorem ok27 : DefOk c0 (topS 40) F27 N27 ps27 := ⟨S27, rfl, rfl, 60, by kernel_rfl⟩
theorem S28 : FnScope N28 ps28 (defScope (topS 41)) := ⟨rfl, rfl, rfl, by decide +kernel, rfl, by decide +kernel, by decide +kernel⟩
theorem ok28 : DefOk c0 (topS 41) F28 N28 ps28 := ⟨S28, rfl, rfl, 60, by kernel_rfl⟩
theorem S29 : FnScope N29 ps29 (defScope (topS 42)) := ⟨rfl, rfl, rfl, by decide +kernel, rfl, by decide +kernel, by decide +kernel⟩
theorem ok29 : DefOk c0 (topS 42) F29 N29 ps29 := ⟨S29, rfl, rfl, 60, by kernel_rfl⟩
theorem S30 : FnScope N30 ps30 (defScope (topS 43)) := ⟨rfl, rfl, rfl, by decide +kernel, rfl, by decide +kernel, by decide +kernel⟩
theorem ok30 : DefOk c0 (topS 43) F30 N30 ps30 := ⟨S30, rfl, rfl, 60, by kernel_rfl⟩
theorem S31 : FnScope N31 ps31 (defScope (topS 44)) := ⟨rfl, rfl, rfl, by decide +kernel, rfl, by decide +kernel, by decide +kernel⟩
theorem ok31 : DefOk c0 (topS 44) F31 N31 ps31 := ⟨S31, rfl, rfl, 60, by kernel_rfl⟩
theorem S32 : FnScope N32 ps32 (defScope (topS 45)) := ⟨rfl, rfl, rfl, by decide +kernel, rfl, by decide +kernel, by decide +kernel⟩
theorem ok32 : DefOk c0 (topS 45) F32 N32 ps32 := ⟨S32, rfl, rfl, 60, by kernel_rfl⟩
theorem S33 : FnScope N33 ps33 (defScope (topS 46)) := ⟨rfl, rfl, rfl, by decide +kernel, rfl, by decide +kernel, by decide +kernel⟩
theorem ok33 : DefOk c0 (topS 46) F33 N33 ps33 := ⟨S33, rfl, rfl, 60, by kernel_rfl⟩
theorem S34 : FnScope N34 ps34 (defScope (topS 47)) := ⟨rfl, rfl, rfl, by decide +kernel, rfl, by decide +kernel, by decide +kernel⟩
theorem ok34 : DefOk c0 (topS 47) F34 N34 ps34 := ⟨S34, rfl, rfl, 60, by kernel_rfl⟩
theorem S35 : FnScope N35 ps35 (defScope (topS 48)) := ⟨rfl, rfl, rfl, by decide +kernel, rfl, by decide +kernel, by decide +kernel⟩
theorem ok35 : DefOk c0 (topS 48) F35 N35 ps35 := ⟨S35, rfl, rfl, 60, by kernel_rfl⟩
theorem S36 : FnScope N36 ps36 (defScope (topS 49)) := ⟨rfl, rfl, rfl, by decide +kernel, rfl, by decide +kernel, by decide +kernel⟩
theorem ok36 : DefOk c0 (topS 49) F36 N36 ps36 := ⟨S36, rfl, rfl, 60, by kernel_rfl⟩
end K14
set_option Elab.async false
set_option linter.all false
set_option maxRecDepth 100000
set_option maxHeartbeats 0
namespace K14
open PySem L2 PySem.Spec PyProof.Rows Mini
/-- the def that a class's body begins with -/
def iniS (i : Nat) : Stmt := match topS i with
  | .ClassDef _ _ _ b _ _ _ _ _ _ _ => b.getD 0 (.Pass ⟨0, 0, 0, 0⟩)
  | _ => .Pass ⟨0, 0, 0, 0⟩
def DefAt (K : PySem.W.Frag) (x : Str) (st : Stmt) : Prop := ∃ f fd, PySem.W.nsIn K mainGlobals x = some (some (.ref f)) ∧ L2.Fun K x x st f fd
theorem defAt_mk {K : PySem.W.Frag} {x : Str} {st : Stmt} {f : Addr} {od an : Option Addr} {sl : Array (Option Value)} {oc kV dc pm cd ct : Value} (a : PySem.W.nsIn K mainGlobals x = some (some (.ref f))) (l : K.lookup f = some ⟨oc, od, .func (PySem.W.fnOf x x (defArgs st) (defBody st) (defScope st) .none kV dc pm an cd ct), sl⟩) (c : PySem.W.codeIn K cd x = true) (k : PySem.W.keepIn K (.ref f) = true) : DefAt K x st := ⟨f, _, a, fun_mk l c k⟩
def ClsAt (K : PySem.W.Frag) (x f qual : Str) (st : Stmt) : Prop := ∃ C fI fd, PySem.W.nsIn K mainGlobals x = some (some (.ref C)) ∧ exB K C fI f = true ∧ L2.Fun K "__init__" qual st fI fd
theorem clsAt_mk {K : PySem.W.Frag} {x g qual : Str} {st : Stmt} {C f : Addr} {od an : Option Addr} {sl : Array (Option Value)} {oc kV dc pm cd ct : Value} (a : PySem.W.nsIn K mainGlobals x = some (some (.ref C))) (i : PySem.W.findIn K (.ref C) "__init__" = some (some (.ref f))) (l : K.lookup f = some ⟨oc, od, .func (PySem.W.fnOf "__init__" qual (defArgs st) (defBody st) (defScope st) .none kV dc pm an cd ct), sl⟩) (c : PySem.W.codeIn K cd qual = true) (k : PySem.W.keepIn K (.ref f) = true) (e : exB K C f g = true) : ClsAt K x g qual st := ⟨C, f, _, a, e, fun_mk l c k⟩
section
variable {K : PySem.W.Frag}
theorem row0 (D : DefAt K "is_number" (topS 9)) : ∃ a fd, PySem.W.nsIn K mainGlobals "is_number" = some (some (.ref a)) ∧ L2.Fun K "is_number" "is_number" (topS 9) a fd ∧ Binds K fd [("thing" : Str)] [] ∧ ∀ ks perm, (0, ks, perm) ∈ kwt → KBinds K fd [("thing" : Str)] ks (gOf perm) (gOfV perm) := by
  obtain ⟨a, fd, h, F⟩ := D
  refine ⟨a, fd, h, F, F.binds (ps := [("thing" : Str)]) fun _ _ _ _ _ _ us hl => (match us, hl with | [_], _ => rfl), fun ks perm hm => ?_⟩
  · simp only [kwt, List.mem_cons, Prod.mk.injEq, List.not_mem_nil, or_false] at hm
    rcases hm with ⟨h1, h2, h3⟩ | ⟨h1, h2, h3⟩ | ⟨h1, h2, h3⟩ | ⟨h1, h2, h3⟩ | ⟨h1, h2, h3⟩ | ⟨h1, h2, h3⟩ | ⟨h1, h2, h3⟩
    · cases h1
    · cases h1
    · cases h1
    · cases h1
    · cases h1
    · cases h1
    · cases h1
theorem row1 (D : DefAt K "are_numbers" (topS 10)) : ∃ a fd, PySem.W.nsIn K mainGlobals "are_numbers" = some (some (.ref a)) ∧ L2.Fun K "are_numbers" "are_numbers" (topS 10) a fd ∧ Binds K fd [("thing" : Str)] [] ∧ ∀ ks perm, (1, ks, perm) ∈ kwt → KBinds K fd [("thing" : Str)] ks (gOf perm) (gOfV perm) := by
  obtain ⟨a, fd, h, F⟩ := D
  refine ⟨a, fd, h, F, F.binds (ps := [("thing" : Str)]) fun _ _ _ _ _ _ us hl => (match us, hl with | [_], _ => rfl), fun ks perm hm => ?_⟩
  · simp only [kwt, List.mem_cons, Prod.mk.injEq, List.not_mem_nil, or_false] at hm
    rcases hm with ⟨h1, h2, h3⟩ | ⟨h1, h2, h3⟩ | ⟨h1, h2, h3⟩ | ⟨h1, h2, h3⟩ | ⟨h1, h2, h3⟩ | ⟨h1, h2, h3⟩ | ⟨h1, h2, h3⟩
    · cases h1
    · cases h1
    · cases h1
    · cases h1
    · cases h1
    · cases h1
    · cases h1
theorem row2 (D : DefAt K "are_vertices" (topS 11)) : ∃ a fd, PySem.W.nsIn K mainGlobals "are_vertices" = some (some (.ref a)) ∧ L2.Fun K "are_vertices" "are_vertices" (topS 11) a fd ∧ Binds K fd [("thing" : Str), ("size" : Str)] [] ∧ ∀ ks perm, (2, ks, perm) ∈ kwt → KBinds K fd [("thing" : Str), ("size" : Str)] ks (gOf perm) (gOfV perm) := by
  obtain ⟨a, fd, h, F⟩ := D
  refine ⟨a, fd, h, F, F.binds (ps := [("thing" : Str), ("size" : Str)]) fun _ _ _ _ _ _ us hl => (match us, hl with | [_, _], _ => rfl), fun ks perm hm => ?_⟩
  · simp only [kwt, List.mem_cons, Prod.mk.injEq, List.not_mem_nil, or_false] at hm
    rcases hm with ⟨h1, h2, h3⟩ | ⟨h1, h2, h3⟩ | ⟨h1, h2, h3⟩ | ⟨h1, h2, h3⟩ | ⟨h1, h2, h3⟩ | ⟨h1, h2, h3⟩ | ⟨h1, h2, h3⟩
    · cases h1
    · cases h1
    · cases h1
    · cases h1
    · cases h1
    · cases h1
    · cases h1
theorem row3 (D : DefAt K "are_unlike" (topS 12)) : ∃ a fd, PySem.W.nsIn K mainGlobals "are_unlike" = some (some (.ref a)) ∧ L2.Fun K "are_unlike" "are_unlike" (topS 12) a fd ∧ Binds K fd [("numbers" : Str)] [] ∧ ∀ ks perm, (3, ks, perm) ∈ kwt → KBinds K fd [("numbers" : Str)] ks (gOf perm) (gOfV perm) := by
  obtain ⟨a, fd, h, F⟩ := D
  refine ⟨a, fd, h, F, F.binds (ps := [("numbers" : Str)]) fun _ _ _ _ _ _ us hl => (match us, hl with | [_], _ => rfl), fun ks perm hm => ?_⟩
  · simp only [kwt, List.mem_cons, Prod.mk.injEq, List.not_mem_nil, or_false] at hm
    rcases hm with ⟨h1, h2, h3⟩ | ⟨h1, h2, h3⟩ | ⟨h1, h2, h3⟩ | ⟨h1, h2, h3⟩ | ⟨h1, h2, h3⟩ | ⟨h1, h2, h3⟩ | ⟨h1, h2, h3⟩
    · cases h1
    · cases h1
    · cases h1
    · cases h1
    · cases h1
    · cases h1
    · cases h1
theorem row4 (D : DefAt K "check_vertex" (topS 13)) : ∃ a fd, PySem.W.nsIn K mainGlobals "check_vertex" = some (some (.ref a)) ∧ L2.Fun K "check_vertex" "check_vertex" (topS 13) a fd ∧ Binds K fd [("graph" : Str), ("vertex" : Str)] [] ∧ ∀ ks perm, (4, ks, perm) ∈ kwt → KBinds K fd [("graph" : Str), ("vertex" : Str)] ks (gOf perm) (gOfV perm) := by
  obtain ⟨a, fd, h, F⟩ := D
  refine ⟨a, fd, h, F, F.binds (ps := [("graph" : Str), ("vertex" : Str)]) fun _ _ _ _ _ _ us hl => (match us, hl with | [_, _], _ => rfl), fun ks perm hm => ?_⟩
  · simp only [kwt, List.mem_cons, Prod.mk.injEq, List.not_mem_nil, or_false] at hm
    rcases hm with ⟨h1, h2, h3⟩ | ⟨h1, h2, h3⟩ | ⟨h1, h2, h3⟩ | ⟨h1, h2, h3⟩ | ⟨h1, h2, h3⟩ | ⟨h1, h2, h3⟩ | ⟨h1, h2, h3⟩
    · cases h1
    · cases h1
    · cases h1
    · cases h1
    · cases h1
    · cases h1
    · cases h1
theorem row5 (D : DefAt K "check_vertices" (topS 14)) : ∃ a fd, PySem.W.nsIn K mainGlobals "check_vertices" = some (some (.ref a)) ∧ L2.Fun K "check_vertices" "check_vertices" (topS 14) a fd ∧ Binds K fd [("graph" : Str), ("vertices" : Str)] [] ∧ ∀ ks perm, (5, ks, perm) ∈ kwt → KBinds K fd [("graph" : Str), ("vertices" : Str)] ks (gOf perm) (gOfV perm) := by
  obtain ⟨a, fd, h, F⟩ := D
  refine ⟨a, fd, h, F, F.binds (ps := [("graph" : Str), ("vertices" : Str)]) fun _ _ _ _ _ _ us hl => (match us, hl with | [_, _], _ => rfl), fun ks perm hm => ?_⟩
  · simp only [kwt, List.mem_cons, Prod.mk.injEq, List.not_mem_nil, or_false] at hm
    rcases hm with ⟨h1, h2, h3⟩ | ⟨h1, h2, h3⟩ | ⟨h1, h2, h3⟩ | ⟨h1, h2, h3⟩ | ⟨h1, h2, h3⟩ | ⟨h1, h2, h3⟩ | ⟨h1, h2, h3⟩
    · cases h1
    · cases h1
    · cases h1
    · cases h1
    · cases h1
    · cases h1
    · cases h1
theorem row6 (D : DefAt K "edges_of" (topS 15)) : ∃ a fd, PySem.W.nsIn K mainGlobals "edges_of" = some (some (.ref a)) ∧ L2.Fun K "edges_of" "edges_of" (topS 15) a fd ∧ Binds K fd [("graph" : Str)] [] ∧ ∀ ks perm, (6, ks, perm) ∈ kwt → KBinds K fd [("graph" : Str)] ks (gOf perm) (gOfV perm) := by
  obtain ⟨a, fd, h, F⟩ := D
  refine ⟨a, fd, h, F, F.binds (ps := [("graph" : Str)]) fun _ _ _ _ _ _ us hl => (match us, hl with | [_], _ => rfl), fun ks perm hm => ?_⟩
  · simp only [kwt, List.mem_cons, Prod.mk.injEq, List.not_mem_nil, or_false] at hm
    rcases hm with ⟨h1, h2, h3⟩ | ⟨h1, h2, h3⟩ | ⟨h1, h2, h3⟩ | ⟨h1, h2, h3⟩ | ⟨h1, h2, h3⟩ | ⟨h1, h2, h3⟩ | ⟨h1, h2, h3⟩
    · cases h1
    · cases h1
    · cases h1
    · cases h1
    · cases h1
    · cases h1
    · cases h1
theorem row7 (D : DefAt K "gather" (topS 16)) : ∃ a fd, PySem.W.nsIn K mainGlobals "gather" = some (some (.ref a)) ∧ L2.Fun K "gather" "gather" (topS 16) a fd ∧ Binds K fd [("graph" : Str), ("start" : Str), ("seen" : Str)] [] ∧ ∀ ks perm, (7, ks, perm) ∈ kwt → KBinds K fd [("graph" : Str), ("start" : Str), ("seen" : Str)] ks (gOf perm) (gOfV perm) := by
  obtain ⟨a, fd, h, F⟩ := D
  refine ⟨a, fd, h, F, F.binds (ps := [("graph" : Str), ("start" : Str), ("seen" : Str)]) fun _ _ _ _ _ _ us hl => (match us, hl with | [_, _, _], _ => rfl), fun ks perm hm => ?_⟩
  · simp only [kwt, List.mem_cons, Prod.mk.injEq, List.not_mem_nil, or_false] at hm
    rcases hm with ⟨h1, h2, h3⟩ | ⟨h1, h2, h3⟩ | ⟨h1, h2, h3⟩ | ⟨h1, h2, h3⟩ | ⟨h1, h2, h3⟩ | ⟨h1, h2, h3⟩ | ⟨h1, h2, h3⟩
    · cases h1
    · cases h1
    · cases h1
    · cases h1
    · cases h1
    · cases h1
    · cases h1
theorem row8 (D : DefAt K "pieces" (topS 17)) : ∃ a fd, PySem.W.nsIn K mainGlobals "pieces" = some (some (.ref a)) ∧ L2.Fun K "pieces" "pieces" (topS 17) a fd ∧ Binds K fd [("graph" : Str), ("gone" : Str)] [] ∧ ∀ ks perm, (8, ks, perm) ∈ kwt → KBinds K fd [("graph" : Str), ("gone" : Str)] ks (gOf perm) (gOfV perm) := by
  obtain ⟨a, fd, h, F⟩ := D
  refine ⟨a, fd, h, F, F.binds (ps := [("graph" : Str), ("gone" : Str)]) fun _ _ _ _ _ _ us hl => (match us, hl with | [_, _], _ => rfl), fun ks perm hm => ?_⟩
  · simp only [kwt, List.mem_cons, Prod.mk.injEq, List.not_mem_nil, or_false] at hm
    rcases hm with ⟨h1, h2, h3⟩ | ⟨h1, h2, h3⟩ | ⟨h1, h2, h3⟩ | ⟨h1, h2, h3⟩ | ⟨h1, h2, h3⟩ | ⟨h1, h2, h3⟩ | ⟨h1, h2, h3⟩
    · cases h1
    · cases h1
    · cases h1
    · cases h1
    · cases h1
    · cases h1
    · cases h1
theorem row9 (D : DefAt K "is_path" (topS 18)) : ∃ a fd, PySem.W.nsIn K mainGlobals "is_path" = some (some (.ref a)) ∧ L2.Fun K "is_path" "is_path" (topS 18) a fd ∧ Binds K fd [("graph" : Str), ("thing" : Str)] [] ∧ ∀ ks perm, (9, ks, perm) ∈ kwt → KBinds K fd [("graph" : Str), ("thing" : Str)] ks (gOf perm) (gOfV perm) := by
  obtain ⟨a, fd, h, F⟩ := D
  refine ⟨a, fd, h, F, F.binds (ps := [("graph" : Str), ("thing" : Str)]) fun _ _ _ _ _ _ us hl => (match us, hl with | [_, _], _ => rfl), fun ks perm hm => ?_⟩
  · simp only [kwt, List.mem_cons, Prod.mk.injEq, List.not_mem_nil, or_false] at hm
    rcases hm with ⟨h1, h2, h3⟩ | ⟨h1, h2, h3⟩ | ⟨h1, h2, h3⟩ | ⟨h1, h2, h3⟩ | ⟨h1, h2, h3⟩ | ⟨h1, h2, h3⟩ | ⟨h1, h2, h3⟩
    · cases h1
    · cases h1
    · cases h1
    · cases h1
    · cases h1
    · cases h1
    · cases h1
theorem row10 (D : DefAt K "graph_in" (topS 20)) : ∃ a fd, PySem.W.nsIn K mainGlobals "graph_in" = some (some (.ref a)) ∧ L2.Fun K "graph_in" "graph_in" (topS 20) a fd ∧ Binds K fd [("turns" : Str)] [] ∧ ∀ ks perm, (10, ks, perm) ∈ kwt → KBinds K fd [("turns" : Str)] ks (gOf perm) (gOfV perm) := by
  obtain ⟨a, fd, h, F⟩ := D
  refine ⟨a, fd, h, F, F.binds (ps := [("turns" : Str)]) fun _ _ _ _ _ _ us hl => (match us, hl with | [_], _ => rfl), fun ks perm hm => ?_⟩
  · simp only [kwt, List.mem_cons, Prod.mk.injEq, List.not_mem_nil, or_false] at hm
    rcases hm with ⟨h1, h2, h3⟩ | ⟨h1, h2, h3⟩ | ⟨h1, h2, h3⟩ | ⟨h1, h2, h3⟩ | ⟨h1, h2, h3⟩ | ⟨h1, h2, h3⟩ | ⟨h1, h2, h3⟩
    · cases h1
    · cases h1
    · cases h1
    · cases h1
    · cases h1
    · cases h1
    · cases h1
theorem row11 (D : DefAt K "check_on" (topS 21)) : ∃ a fd, PySem.W.nsIn K mainGlobals "check_on" = some (some (.ref a)) ∧ L2.Fun K "check_on" "check_on" (topS 21) a fd ∧ Binds K fd [("face" : Str), ("vertices" : Str)] [] ∧ ∀ ks perm, (11, ks, perm) ∈ kwt → KBinds K fd [("face" : Str), ("vertices" : Str)] ks (gOf perm) (gOfV perm) := by
  obtain ⟨a, fd, h, F⟩ := D
  refine ⟨a, fd, h, F, F.binds (ps := [("face" : Str), ("vertices" : Str)]) fun _ _ _ _ _ _ us hl => (match us, hl with | [_, _], _ => rfl), fun ks perm hm => ?_⟩
  · simp only [kwt, List.mem_cons, Prod.mk.injEq, List.not_mem_nil, or_false] at hm
    rcases hm with ⟨h1, h2, h3⟩ | ⟨h1, h2, h3⟩ | ⟨h1, h2, h3⟩ | ⟨h1, h2, h3⟩ | ⟨h1, h2, h3⟩ | ⟨h1, h2, h3⟩ | ⟨h1, h2, h3⟩
    · cases h1
    · cases h1
    · cases h1
    · cases h1
    · cases h1
    · cases h1
    · cases h1
theorem row12 (D : DefAt K "meets" (topS 23)) : ∃ a fd, PySem.W.nsIn K mainGlobals "meets" = some (some (.ref a)) ∧ L2.Fun K "meets" "meets" (topS 23) a fd ∧ Binds K fd [("members" : Str), ("rim" : Str)] [] ∧ ∀ ks perm, (12, ks, perm) ∈ kwt → KBinds K fd [("members" : Str), ("rim" : Str)] ks (gOf perm) (gOfV perm) := by
  obtain ⟨a, fd, h, F⟩ := D
  refine ⟨a, fd, h, F, F.binds (ps := [("members" : Str), ("rim" : Str)]) fun _ _ _ _ _ _ us hl => (match us, hl with | [_, _], _ => rfl), fun ks perm hm => ?_⟩
  · simp only [kwt, List.mem_cons, Prod.mk.injEq, List.not_mem_nil, or_false] at hm
    rcases hm with ⟨h1, h2, h3⟩ | ⟨h1, h2, h3⟩ | ⟨h1, h2, h3⟩ | ⟨h1, h2, h3⟩ | ⟨h1, h2, h3⟩ | ⟨h1, h2, h3⟩ | ⟨h1, h2, h3⟩
    · cases h1
    · cases h1
    · cases h1
    · cases h1
    · cases h1
    · cases h1
    · cases h1
theorem row13 (D : DefAt K "feet_of" (topS 25)) : ∃ a fd, PySem.W.nsIn K mainGlobals "feet_of" = some (some (.ref a)) ∧ L2.Fun K "feet_of" "feet_of" (topS 25) a fd ∧ Binds K fd [("graph" : Str), ("line" : Str), ("members" : Str)] [] ∧ ∀ ks perm, (13, ks, perm) ∈ kwt → KBinds K fd [("graph" : Str), ("line" : Str), ("members" : Str)] ks (gOf perm) (gOfV perm) := by
  obtain ⟨a, fd, h, F⟩ := D
  refine ⟨a, fd, h, F, F.binds (ps := [("graph" : Str), ("line" : Str), ("members" : Str)]) fun _ _ _ _ _ _ us hl => (match us, hl with | [_, _, _], _ => rfl), fun ks perm hm => ?_⟩
  · simp only [kwt, List.mem_cons, Prod.mk.injEq, List.not_mem_nil, or_false] at hm
    rcases hm with ⟨h1, h2, h3⟩ | ⟨h1, h2, h3⟩ | ⟨h1, h2, h3⟩ | ⟨h1, h2, h3⟩ | ⟨h1, h2, h3⟩ | ⟨h1, h2, h3⟩ | ⟨h1, h2, h3⟩
    · cases h1
    · subst h2 h3; exact kb_of F (by decide) (fun _ _ _ _ _ _ ws hl => match ws, hl with | [_, _, _], _ => rfl)
    · cases h1
    · cases h1
    · cases h1
    · cases h1
    · cases h1
theorem row14 (D : DefAt K "parts" (topS 26)) : ∃ a fd, PySem.W.nsIn K mainGlobals "parts" = some (some (.ref a)) ∧ L2.Fun K "parts" "parts" (topS 26) a fd ∧ Binds K fd [("graph" : Str), ("line" : Str)] [] ∧ ∀ ks perm, (14, ks, perm) ∈ kwt → KBinds K fd [("graph" : Str), ("line" : Str)] ks (gOf perm) (gOfV perm) := by
  obtain ⟨a, fd, h, F⟩ := D
  refine ⟨a, fd, h, F, F.binds (ps := [("graph" : Str), ("line" : Str)]) fun _ _ _ _ _ _ us hl => (match us, hl with | [_, _], _ => rfl), fun ks perm hm => ?_⟩
  · simp only [kwt, List.mem_cons, Prod.mk.injEq, List.not_mem_nil, or_false] at hm
    rcases hm with ⟨h1, h2, h3⟩ | ⟨h1, h2, h3⟩ | ⟨h1, h2, h3⟩ | ⟨h1, h2, h3⟩ | ⟨h1, h2, h3⟩ | ⟨h1, h2, h3⟩ | ⟨h1, h2, h3⟩
    · subst h2 h3; exact kb_of F (by decide) (fun _ _ _ _ _ _ ws hl => match ws, hl with | [_, _], _ => rfl)
    · cases h1
    · cases h1
    · cases h1
    · cases h1
    · cases h1
    · cases h1
theorem row15 (D : DefAt K "parts_on" (topS 27)) : ∃ a fd, PySem.W.nsIn K mainGlobals "parts_on" = some (some (.ref a)) ∧ L2.Fun K "parts_on" "parts_on" (topS 27) a fd ∧ Binds K fd [("graph" : Str), ("line" : Str), ("vertex" : Str)] [] ∧ ∀ ks perm, (15, ks, perm) ∈ kwt → KBinds K fd [("graph" : Str), ("line" : Str), ("vertex" : Str)] ks (gOf perm) (gOfV perm) := by
  obtain ⟨a, fd, h, F⟩ := D
  refine ⟨a, fd, h, F, F.binds (ps := [("graph" : Str), ("line" : Str), ("vertex" : Str)]) fun _ _ _ _ _ _ us hl => (match us, hl with | [_, _, _], _ => rfl), fun ks perm hm => ?_⟩
  · simp only [kwt, List.mem_cons, Prod.mk.injEq, List.not_mem_nil, or_false] at hm
    rcases hm with ⟨h1, h2, h3⟩ | ⟨h1, h2, h3⟩ | ⟨h1, h2, h3⟩ | ⟨h1, h2, h3⟩ | ⟨h1, h2, h3⟩ | ⟨h1, h2, h3⟩ | ⟨h1, h2, h3⟩
    · cases h1
    · cases h1
    · cases h1
    · cases h1
    · cases h1
    · cases h1
    · cases h1
theorem row16 (D : DefAt K "steps_of" (topS 28)) : ∃ a fd, PySem.W.nsIn K mainGlobals "steps_of" = some (some (.ref a)) ∧ L2.Fun K "steps_of" "steps_of" (topS 28) a fd ∧ Binds K fd [("path" : Str)] [] ∧ ∀ ks perm, (16, ks, perm) ∈ kwt → KBinds K fd [("path" : Str)] ks (gOf perm) (gOfV perm) := by
  obtain ⟨a, fd, h, F⟩ := D
  refine ⟨a, fd, h, F, F.binds (ps := [("path" : Str)]) fun _ _ _ _ _ _ us hl => (match us, hl with | [_], _ => rfl), fun ks perm hm => ?_⟩
  · simp only [kwt, List.mem_cons, Prod.mk.injEq, List.not_mem_nil, or_false] at hm
    rcases hm with ⟨h1, h2, h3⟩ | ⟨h1, h2, h3⟩ | ⟨h1, h2, h3⟩ | ⟨h1, h2, h3⟩ | ⟨h1, h2, h3⟩ | ⟨h1, h2, h3⟩ | ⟨h1, h2, h3⟩
    · cases h1
    · cases h1
    · cases h1
    · cases h1
    · cases h1
    · cases h1
    · cases h1
theorem row17 (D : DefAt K "chords" (topS 29)) : ∃ a fd, PySem.W.nsIn K mainGlobals "chords" = some (some (.ref a)) ∧ L2.Fun K "chords" "chords" (topS 29) a fd ∧ Binds K fd [("graph" : Str), ("path" : Str)] [] ∧ ∀ ks perm, (17, ks, perm) ∈ kwt → KBinds K fd [("graph" : Str), ("path" : Str)] ks (gOf perm) (gOfV perm) := by
  obtain ⟨a, fd, h, F⟩ := D
  refine ⟨a, fd, h, F, F.binds (ps := [("graph" : Str), ("path" : Str)]) fun _ _ _ _ _ _ us hl => (match us, hl with | [_, _], _ => rfl), fun ks perm hm => ?_⟩
  · simp only [kwt, List.mem_cons, Prod.mk.injEq, List.not_mem_nil, or_false] at hm
    rcases hm with ⟨h1, h2, h3⟩ | ⟨h1, h2, h3⟩ | ⟨h1, h2, h3⟩ | ⟨h1, h2, h3⟩ | ⟨h1, h2, h3⟩ | ⟨h1, h2, h3⟩ | ⟨h1, h2, h3⟩
    · cases h1
    · cases h1
    · subst h2 h3; exact kb_of F (by decide) (fun _ _ _ _ _ _ ws hl => match ws, hl with | [_, _], _ => rfl)
    · cases h1
    · cases h1
    · cases h1
    · cases h1
theorem row18 (D : DefAt K "on_rim" (topS 30)) : ∃ a fd, PySem.W.nsIn K mainGlobals "on_rim" = some (some (.ref a)) ∧ L2.Fun K "on_rim" "on_rim" (topS 30) a fd ∧ Binds K fd [("disc" : Str), ("part" : Str)] [] ∧ ∀ ks perm, (18, ks, perm) ∈ kwt → KBinds K fd [("disc" : Str), ("part" : Str)] ks (gOf perm) (gOfV perm) := by
  obtain ⟨a, fd, h, F⟩ := D
  refine ⟨a, fd, h, F, F.binds (ps := [("disc" : Str), ("part" : Str)]) fun _ _ _ _ _ _ us hl => (match us, hl with | [_, _], _ => rfl), fun ks perm hm => ?_⟩
  · simp only [kwt, List.mem_cons, Prod.mk.injEq, List.not_mem_nil, or_false] at hm
    rcases hm with ⟨h1, h2, h3⟩ | ⟨h1, h2, h3⟩ | ⟨h1, h2, h3⟩ | ⟨h1, h2, h3⟩ | ⟨h1, h2, h3⟩ | ⟨h1, h2, h3⟩ | ⟨h1, h2, h3⟩
    · cases h1
    · cases h1
    · cases h1
    · cases h1
    · cases h1
    · cases h1
    · cases h1
theorem row19 (D : DefAt K "rim_parts" (topS 31)) : ∃ a fd, PySem.W.nsIn K mainGlobals "rim_parts" = some (some (.ref a)) ∧ L2.Fun K "rim_parts" "rim_parts" (topS 31) a fd ∧ Binds K fd [("disc" : Str), ("line" : Str)] [] ∧ ∀ ks perm, (19, ks, perm) ∈ kwt → KBinds K fd [("disc" : Str), ("line" : Str)] ks (gOf perm) (gOfV perm) := by
  obtain ⟨a, fd, h, F⟩ := D
  refine ⟨a, fd, h, F, F.binds (ps := [("disc" : Str), ("line" : Str)]) fun _ _ _ _ _ _ us hl => (match us, hl with | [_, _], _ => rfl), fun ks perm hm => ?_⟩
  · simp only [kwt, List.mem_cons, Prod.mk.injEq, List.not_mem_nil, or_false] at hm
    rcases hm with ⟨h1, h2, h3⟩ | ⟨h1, h2, h3⟩ | ⟨h1, h2, h3⟩ | ⟨h1, h2, h3⟩ | ⟨h1, h2, h3⟩ | ⟨h1, h2, h3⟩ | ⟨h1, h2, h3⟩
    · cases h1
    · cases h1
    · cases h1
    · cases h1
    · subst h2 h3; exact kb_of F (by decide) (fun _ _ _ _ _ _ ws hl => match ws, hl with | [_, _], _ => rfl)
    · cases h1
    · cases h1
theorem row20 (D : DefAt K "worst_part" (topS 32)) : ∃ a fd, PySem.W.nsIn K mainGlobals "worst_part" = some (some (.ref a)) ∧ L2.Fun K "worst_part" "worst_part" (topS 32) a fd ∧ Binds K fd [("disc" : Str), ("line" : Str)] [] ∧ ∀ ks perm, (20, ks, perm) ∈ kwt → KBinds K fd [("disc" : Str), ("line" : Str)] ks (gOf perm) (gOfV perm) := by
  obtain ⟨a, fd, h, F⟩ := D
  refine ⟨a, fd, h, F, F.binds (ps := [("disc" : Str), ("line" : Str)]) fun _ _ _ _ _ _ us hl => (match us, hl with | [_, _], _ => rfl), fun ks perm hm => ?_⟩
  · simp only [kwt, List.mem_cons, Prod.mk.injEq, List.not_mem_nil, or_false] at hm
    rcases hm with ⟨h1, h2, h3⟩ | ⟨h1, h2, h3⟩ | ⟨h1, h2, h3⟩ | ⟨h1, h2, h3⟩ | ⟨h1, h2, h3⟩ | ⟨h1, h2, h3⟩ | ⟨h1, h2, h3⟩
    · cases h1
    · cases h1
    · cases h1
    · subst h2 h3; exact kb_of F (by decide) (fun _ _ _ _ _ _ ws hl => match ws, hl with | [_, _], _ => rfl)
    · cases h1
    · cases h1
    · cases h1
theorem row21 (D : DefAt K "is_three_footed" (topS 33)) : ∃ a fd, PySem.W.nsIn K mainGlobals "is_three_footed" = some (some (.ref a)) ∧ L2.Fun K "is_three_footed" "is_three_footed" (topS 33) a fd ∧ Binds K fd [("disc" : Str), ("line" : Str)] [] ∧ ∀ ks perm, (21, ks, perm) ∈ kwt → KBinds K fd [("disc" : Str), ("line" : Str)] ks (gOf perm) (gOfV perm) := by
  obtain ⟨a, fd, h, F⟩ := D
  refine ⟨a, fd, h, F, F.binds (ps := [("disc" : Str), ("line" : Str)]) fun _ _ _ _ _ _ us hl => (match us, hl with | [_, _], _ => rfl), fun ks perm hm => ?_⟩
  · simp only [kwt, List.mem_cons, Prod.mk.injEq, List.not_mem_nil, or_false] at hm
    rcases hm with ⟨h1, h2, h3⟩ | ⟨h1, h2, h3⟩ | ⟨h1, h2, h3⟩ | ⟨h1, h2, h3⟩ | ⟨h1, h2, h3⟩ | ⟨h1, h2, h3⟩ | ⟨h1, h2, h3⟩
    · cases h1
    · cases h1
    · cases h1
    · cases h1
    · cases h1
    · cases h1
    · cases h1
theorem row22 (D : DefAt K "is_way" (topS 34)) : ∃ a fd, PySem.W.nsIn K mainGlobals "is_way" = some (some (.ref a)) ∧ L2.Fun K "is_way" "is_way" (topS 34) a fd ∧ Binds K fd [("disc" : Str), ("v" : Str), ("edge" : Str), ("u" : Str), ("thing" : Str)] [] ∧ ∀ ks perm, (22, ks, perm) ∈ kwt → KBinds K fd [("disc" : Str), ("v" : Str), ("edge" : Str), ("u" : Str), ("thing" : Str)] ks (gOf perm) (gOfV perm) := by
  obtain ⟨a, fd, h, F⟩ := D
  refine ⟨a, fd, h, F, F.binds (ps := [("disc" : Str), ("v" : Str), ("edge" : Str), ("u" : Str), ("thing" : Str)]) fun _ _ _ _ _ _ us hl => (match us, hl with | [_, _, _, _, _], _ => rfl), fun ks perm hm => ?_⟩
  · simp only [kwt, List.mem_cons, Prod.mk.injEq, List.not_mem_nil, or_false] at hm
    rcases hm with ⟨h1, h2, h3⟩ | ⟨h1, h2, h3⟩ | ⟨h1, h2, h3⟩ | ⟨h1, h2, h3⟩ | ⟨h1, h2, h3⟩ | ⟨h1, h2, h3⟩ | ⟨h1, h2, h3⟩
    · cases h1
    · cases h1
    · cases h1
    · cases h1
    · cases h1
    · cases h1
    · subst h2 h3; exact kb_of F (by decide) (fun _ _ _ _ _ _ ws hl => match ws, hl with | [_, _, _, _, _], _ => rfl)
theorem row23 (D : DefAt K "way_fault" (topS 35)) : ∃ a fd, PySem.W.nsIn K mainGlobals "way_fault" = some (some (.ref a)) ∧ L2.Fun K "way_fault" "way_fault" (topS 35) a fd ∧ Binds K fd [("disc" : Str), ("v" : Str), ("edge" : Str), ("u" : Str), ("thing" : Str)] [] ∧ ∀ ks perm, (23, ks, perm) ∈ kwt → KBinds K fd [("disc" : Str), ("v" : Str), ("edge" : Str), ("u" : Str), ("thing" : Str)] ks (gOf perm) (gOfV perm) := by
  obtain ⟨a, fd, h, F⟩ := D
  refine ⟨a, fd, h, F, F.binds (ps := [("disc" : Str), ("v" : Str), ("edge" : Str), ("u" : Str), ("thing" : Str)]) fun _ _ _ _ _ _ us hl => (match us, hl with | [_, _, _, _, _], _ => rfl), fun ks perm hm => ?_⟩
  · simp only [kwt, List.mem_cons, Prod.mk.injEq, List.not_mem_nil, or_false] at hm
    rcases hm with ⟨h1, h2, h3⟩ | ⟨h1, h2, h3⟩ | ⟨h1, h2, h3⟩ | ⟨h1, h2, h3⟩ | ⟨h1, h2, h3⟩ | ⟨h1, h2, h3⟩ | ⟨h1, h2, h3⟩
    · cases h1
    · cases h1
    · cases h1
    · cases h1
    · cases h1
    · subst h2 h3; exact kb_of F (by decide) (fun _ _ _ _ _ _ ws hl => match ws, hl with | [_, _, _, _, _], _ => rfl)
    · cases h1
theorem row24 (D : DefAt K "_law_same" (topS 37)) : ∃ a fd, PySem.W.nsIn K mainGlobals "_law_same" = some (some (.ref a)) ∧ L2.Fun K "_law_same" "_law_same" (topS 37) a fd ∧ Binds K fd [("got" : Str), ("due" : Str)] [] ∧ ∀ ks perm, (24, ks, perm) ∈ kwt → KBinds K fd [("got" : Str), ("due" : Str)] ks (gOf perm) (gOfV perm) := by
  obtain ⟨a, fd, h, F⟩ := D
  refine ⟨a, fd, h, F, F.binds (ps := [("got" : Str), ("due" : Str)]) fun _ _ _ _ _ _ us hl => (match us, hl with | [_, _], _ => rfl), fun ks perm hm => ?_⟩
  · simp only [kwt, List.mem_cons, Prod.mk.injEq, List.not_mem_nil, or_false] at hm
    rcases hm with ⟨h1, h2, h3⟩ | ⟨h1, h2, h3⟩ | ⟨h1, h2, h3⟩ | ⟨h1, h2, h3⟩ | ⟨h1, h2, h3⟩ | ⟨h1, h2, h3⟩ | ⟨h1, h2, h3⟩
    · cases h1
    · cases h1
    · cases h1
    · cases h1
    · cases h1
    · cases h1
    · cases h1
theorem row25 (D : DefAt K "_law_wheel" (topS 38)) : ∃ a fd, PySem.W.nsIn K mainGlobals "_law_wheel" = some (some (.ref a)) ∧ L2.Fun K "_law_wheel" "_law_wheel" (topS 38) a fd ∧ Binds K fd [] [] ∧ ∀ ks perm, (25, ks, perm) ∈ kwt → KBinds K fd [] ks (gOf perm) (gOfV perm) := by
  obtain ⟨a, fd, h, F⟩ := D
  refine ⟨a, fd, h, F, F.binds (ps := []) fun _ _ _ _ _ _ us hl => (match us, hl with | [], _ => rfl), fun ks perm hm => ?_⟩
  · simp only [kwt, List.mem_cons, Prod.mk.injEq, List.not_mem_nil, or_false] at hm
    rcases hm with ⟨h1, h2, h3⟩ | ⟨h1, h2, h3⟩ | ⟨h1, h2, h3⟩ | ⟨h1, h2, h3⟩ | ⟨h1, h2, h3⟩ | ⟨h1, h2, h3⟩ | ⟨h1, h2, h3⟩
    · cases h1
    · cases h1
    · cases h1
    · cases h1
    · cases h1
    · cases h1
    · cases h1
theorem row26 (D : DefAt K "_law_kite" (topS 39)) : ∃ a fd, PySem.W.nsIn K mainGlobals "_law_kite" = some (some (.ref a)) ∧ L2.Fun K "_law_kite" "_law_kite" (topS 39) a fd ∧ Binds K fd [] [] ∧ ∀ ks perm, (26, ks, perm) ∈ kwt → KBinds K fd [] ks (gOf perm) (gOfV perm) := by
  obtain ⟨a, fd, h, F⟩ := D
  refine ⟨a, fd, h, F, F.binds (ps := []) fun _ _ _ _ _ _ us hl => (match us, hl with | [], _ => rfl), fun ks perm hm => ?_⟩
  · simp only [kwt, List.mem_cons, Prod.mk.injEq, List.not_mem_nil, or_false] at hm
    rcases hm with ⟨h1, h2, h3⟩ | ⟨h1, h2, h3⟩ | ⟨h1, h2, h3⟩ | ⟨h1, h2, h3⟩ | ⟨h1, h2, h3⟩ | ⟨h1, h2, h3⟩ | ⟨h1, h2, h3⟩
    · cases h1
    · cases h1
    · cases h1
    · cases h1
    · cases h1
    · cases h1
    · cases h1
theorem row27 (D : DefAt K "_law_star_disc" (topS 40)) : ∃ a fd, PySem.W.nsIn K mainGlobals "_law_star_disc" = some (some (.ref a)) ∧ L2.Fun K "_law_star_disc" "_law_star_disc" (topS 40) a fd ∧ Binds K fd [] [] ∧ ∀ ks perm, (27, ks, perm) ∈ kwt → KBinds K fd [] ks (gOf perm) (gOfV perm) := by
  obtain ⟨a, fd, h, F⟩ := D
  refine ⟨a, fd, h, F, F.binds (ps := []) fun _ _ _ _ _ _ us hl => (match us, hl with | [], _ => rfl), fun ks perm hm => ?_⟩
  · simp only [kwt, List.mem_cons, Prod.mk.injEq, List.not_mem_nil, or_false] at hm
    rcases hm with ⟨h1, h2, h3⟩ | ⟨h1, h2, h3⟩ | ⟨h1, h2, h3⟩ | ⟨h1, h2, h3⟩ | ⟨h1, h2, h3⟩ | ⟨h1, h2, h3⟩ | ⟨h1, h2, h3⟩
    · cases h1
    · cases h1
    · cases h1
    · cases h1
    · cases h1
    · cases h1
    · cases h1
theorem row28 (D : DefAt K "_law_graph" (topS 41)) : ∃ a fd, PySem.W.nsIn K mainGlobals "_law_graph" = some (some (.ref a)) ∧ L2.Fun K "_law_graph" "_law_graph" (topS 41) a fd ∧ Binds K fd [("disc" : Str)] [] ∧ ∀ ks perm, (28, ks, perm) ∈ kwt → KBinds K fd [("disc" : Str)] ks (gOf perm) (gOfV perm) := by
  obtain ⟨a, fd, h, F⟩ := D
  refine ⟨a, fd, h, F, F.binds (ps := [("disc" : Str)]) fun _ _ _ _ _ _ us hl => (match us, hl with | [_], _ => rfl), fun ks perm hm => ?_⟩
  · simp only [kwt, List.mem_cons, Prod.mk.injEq, List.not_mem_nil, or_false] at hm
    rcases hm with ⟨h1, h2, h3⟩ | ⟨h1, h2, h3⟩ | ⟨h1, h2, h3⟩ | ⟨h1, h2, h3⟩ | ⟨h1, h2, h3⟩ | ⟨h1, h2, h3⟩ | ⟨h1, h2, h3⟩
    · cases h1
    · cases h1
    · cases h1
    · cases h1
    · cases h1
    · cases h1
    · cases h1
theorem row29 (D : DefAt K "_law_parts_right" (topS 42)) : ∃ a fd, PySem.W.nsIn K mainGlobals "_law_parts_right" = some (some (.ref a)) ∧ L2.Fun K "_law_parts_right" "_law_parts_right" (topS 42) a fd ∧ Binds K fd [] [] ∧ ∀ ks perm, (29, ks, perm) ∈ kwt → KBinds K fd [] ks (gOf perm) (gOfV perm) := by
  obtain ⟨a, fd, h, F⟩ := D
  refine ⟨a, fd, h, F, F.binds (ps := []) fun _ _ _ _ _ _ us hl => (match us, hl with | [], _ => rfl), fun ks perm hm => ?_⟩
  · simp only [kwt, List.mem_cons, Prod.mk.injEq, List.not_mem_nil, or_false] at hm
    rcases hm with ⟨h1, h2, h3⟩ | ⟨h1, h2, h3⟩ | ⟨h1, h2, h3⟩ | ⟨h1, h2, h3⟩ | ⟨h1, h2, h3⟩ | ⟨h1, h2, h3⟩ | ⟨h1, h2, h3⟩
    · cases h1
    · cases h1
    · cases h1
    · cases h1
    · cases h1
    · cases h1
    · cases h1
theorem row30 (D : DefAt K "_law_chords_right" (topS 43)) : ∃ a fd, PySem.W.nsIn K mainGlobals "_law_chords_right" = some (some (.ref a)) ∧ L2.Fun K "_law_chords_right" "_law_chords_right" (topS 43) a fd ∧ Binds K fd [] [] ∧ ∀ ks perm, (30, ks, perm) ∈ kwt → KBinds K fd [] ks (gOf perm) (gOfV perm) := by
  obtain ⟨a, fd, h, F⟩ := D
  refine ⟨a, fd, h, F, F.binds (ps := []) fun _ _ _ _ _ _ us hl => (match us, hl with | [], _ => rfl), fun ks perm hm => ?_⟩
  · simp only [kwt, List.mem_cons, Prod.mk.injEq, List.not_mem_nil, or_false] at hm
    rcases hm with ⟨h1, h2, h3⟩ | ⟨h1, h2, h3⟩ | ⟨h1, h2, h3⟩ | ⟨h1, h2, h3⟩ | ⟨h1, h2, h3⟩ | ⟨h1, h2, h3⟩ | ⟨h1, h2, h3⟩
    · cases h1
    · cases h1
    · cases h1
    · cases h1
    · cases h1
    · cases h1
    · cases h1
theorem row31 (D : DefAt K "_law_feet_right" (topS 44)) : ∃ a fd, PySem.W.nsIn K mainGlobals "_law_feet_right" = some (some (.ref a)) ∧ L2.Fun K "_law_feet_right" "_law_feet_right" (topS 44) a fd ∧ Binds K fd [] [] ∧ ∀ ks perm, (31, ks, perm) ∈ kwt → KBinds K fd [] ks (gOf perm) (gOfV perm) := by
  obtain ⟨a, fd, h, F⟩ := D
  refine ⟨a, fd, h, F, F.binds (ps := []) fun _ _ _ _ _ _ us hl => (match us, hl with | [], _ => rfl), fun ks perm hm => ?_⟩
  · simp only [kwt, List.mem_cons, Prod.mk.injEq, List.not_mem_nil, or_false] at hm
    rcases hm with ⟨h1, h2, h3⟩ | ⟨h1, h2, h3⟩ | ⟨h1, h2, h3⟩ | ⟨h1, h2, h3⟩ | ⟨h1, h2, h3⟩ | ⟨h1, h2, h3⟩ | ⟨h1, h2, h3⟩
    · cases h1
    · cases h1
    · cases h1
    · cases h1
    · cases h1
    · cases h1
    · cases h1
theorem row32 (D : DefAt K "_law_ways_right" (topS 45)) : ∃ a fd, PySem.W.nsIn K mainGlobals "_law_ways_right" = some (some (.ref a)) ∧ L2.Fun K "_law_ways_right" "_law_ways_right" (topS 45) a fd ∧ Binds K fd [] [] ∧ ∀ ks perm, (32, ks, perm) ∈ kwt → KBinds K fd [] ks (gOf perm) (gOfV perm) := by
  obtain ⟨a, fd, h, F⟩ := D
  refine ⟨a, fd, h, F, F.binds (ps := []) fun _ _ _ _ _ _ us hl => (match us, hl with | [], _ => rfl), fun ks perm hm => ?_⟩
  · simp only [kwt, List.mem_cons, Prod.mk.injEq, List.not_mem_nil, or_false] at hm
    rcases hm with ⟨h1, h2, h3⟩ | ⟨h1, h2, h3⟩ | ⟨h1, h2, h3⟩ | ⟨h1, h2, h3⟩ | ⟨h1, h2, h3⟩ | ⟨h1, h2, h3⟩ | ⟨h1, h2, h3⟩
    · cases h1
    · cases h1
    · cases h1
    · cases h1
    · cases h1
    · cases h1
    · cases h1
theorem row33 (D : DefAt K "_law_refused" (topS 46)) : ∃ a fd, PySem.W.nsIn K mainGlobals "_law_refused" = some (some (.ref a)) ∧ L2.Fun K "_law_refused" "_law_refused" (topS 46) a fd ∧ Binds K fd [("graph" : Str), ("line" : Str), ("vertex" : Str)] [] ∧ ∀ ks perm, (33, ks, perm) ∈ kwt → KBinds K fd [("graph" : Str), ("line" : Str), ("vertex" : Str)] ks (gOf perm) (gOfV perm) := by
  obtain ⟨a, fd, h, F⟩ := D
  refine ⟨a, fd, h, F, F.binds (ps := [("graph" : Str), ("line" : Str), ("vertex" : Str)]) fun _ _ _ _ _ _ us hl => (match us, hl with | [_, _, _], _ => rfl), fun ks perm hm => ?_⟩
  · simp only [kwt, List.mem_cons, Prod.mk.injEq, List.not_mem_nil, or_false] at hm
    rcases hm with ⟨h1, h2, h3⟩ | ⟨h1, h2, h3⟩ | ⟨h1, h2, h3⟩ | ⟨h1, h2, h3⟩ | ⟨h1, h2, h3⟩ | ⟨h1, h2, h3⟩ | ⟨h1, h2, h3⟩
    · cases h1
    · cases h1
    · cases h1
    · cases h1
    · cases h1
    · cases h1
    · cases h1
theorem row34 (D : DefAt K "_law_refused_right" (topS 47)) : ∃ a fd, PySem.W.nsIn K mainGlobals "_law_refused_right" = some (some (.ref a)) ∧ L2.Fun K "_law_refused_right" "_law_refused_right" (topS 47) a fd ∧ Binds K fd [] [] ∧ ∀ ks perm, (34, ks, perm) ∈ kwt → KBinds K fd [] ks (gOf perm) (gOfV perm) := by
  obtain ⟨a, fd, h, F⟩ := D
  refine ⟨a, fd, h, F, F.binds (ps := []) fun _ _ _ _ _ _ us hl => (match us, hl with | [], _ => rfl), fun ks perm hm => ?_⟩
  · simp only [kwt, List.mem_cons, Prod.mk.injEq, List.not_mem_nil, or_false] at hm
    rcases hm with ⟨h1, h2, h3⟩ | ⟨h1, h2, h3⟩ | ⟨h1, h2, h3⟩ | ⟨h1, h2, h3⟩ | ⟨h1, h2, h3⟩ | ⟨h1, h2, h3⟩ | ⟨h1, h2, h3⟩
    · cases h1
    · cases h1
    · cases h1
    · cases h1
    · cases h1
    · cases h1
    · cases h1
theorem row35 (D : DefAt K "_law_script_right" (topS 48)) : ∃ a fd, PySem.W.nsIn K mainGlobals "_law_script_right" = some (some (.ref a)) ∧ L2.Fun K "_law_script_right" "_law_script_right" (topS 48) a fd ∧ Binds K fd [("script" : Str)] [] ∧ ∀ ks perm, (35, ks, perm) ∈ kwt → KBinds K fd [("script" : Str)] ks (gOf perm) (gOfV perm) := by
  obtain ⟨a, fd, h, F⟩ := D
  refine ⟨a, fd, h, F, F.binds (ps := [("script" : Str)]) fun _ _ _ _ _ _ us hl => (match us, hl with | [_], _ => rfl), fun ks perm hm => ?_⟩
  · simp only [kwt, List.mem_cons, Prod.mk.injEq, List.not_mem_nil, or_false] at hm
    rcases hm with ⟨h1, h2, h3⟩ | ⟨h1, h2, h3⟩ | ⟨h1, h2, h3⟩ | ⟨h1, h2, h3⟩ | ⟨h1, h2, h3⟩ | ⟨h1, h2, h3⟩ | ⟨h1, h2, h3⟩
    · cases h1
    · cases h1
    · cases h1
    · cases h1
    · cases h1
    · cases h1
    · cases h1
theorem row36 (D : DefAt K "law" (topS 49)) : ∃ a fd, PySem.W.nsIn K mainGlobals "law" = some (some (.ref a)) ∧ L2.Fun K "law" "law" (topS 49) a fd ∧ Binds K fd [("script" : Str)] [] ∧ ∀ ks perm, (36, ks, perm) ∈ kwt → KBinds K fd [("script" : Str)] ks (gOf perm) (gOfV perm) := by
  obtain ⟨a, fd, h, F⟩ := D
  refine ⟨a, fd, h, F, F.binds (ps := [("script" : Str)]) fun _ _ _ _ _ _ us hl => (match us, hl with | [_], _ => rfl), fun ks perm hm => ?_⟩
  · simp only [kwt, List.mem_cons, Prod.mk.injEq, List.not_mem_nil, or_false] at hm
    rcases hm with ⟨h1, h2, h3⟩ | ⟨h1, h2, h3⟩ | ⟨h1, h2, h3⟩ | ⟨h1, h2, h3⟩ | ⟨h1, h2, h3⟩ | ⟨h1, h2, h3⟩ | ⟨h1, h2, h3⟩
    · cases h1
    · cases h1
    · cases h1
    · cases h1
    · cases h1
    · cases h1
    · cases h1
theorem gdef {w : World} {h : Heap} {mg : Str → Option Value} {base : Heap} (X : K.In h) (G : h.Ns mainGlobals mg) (d0 : DefAt K "is_number" (topS 9)) (d1 : DefAt K "are_numbers" (topS 10)) (d2 : DefAt K "are_vertices" (topS 11)) (d3 : DefAt K "are_unlike" (topS 12)) (d4 : DefAt K "check_vertex" (topS 13)) (d5 : DefAt K "check_vertices" (topS 14)) (d6 : DefAt K "edges_of" (topS 15)) (d7 : DefAt K "gather" (topS 16)) (d8 : DefAt K "pieces" (topS 17)) (d9 : DefAt K "is_path" (topS 18)) (d10 : DefAt K "graph_in" (topS 20)) (d11 : DefAt K "check_on" (topS 21)) (d12 : DefAt K "meets" (topS 23)) (d13 : DefAt K "feet_of" (topS 25)) (d14 : DefAt K "parts" (topS 26)) (d15 : DefAt K "parts_on" (topS 27)) (d16 : DefAt K "steps_of" (topS 28)) (d17 : DefAt K "chords" (topS 29)) (d18 : DefAt K "on_rim" (topS 30)) (d19 : DefAt K "rim_parts" (topS 31)) (d20 : DefAt K "worst_part" (topS 32)) (d21 : DefAt K "is_three_footed" (topS 33)) (d22 : DefAt K "is_way" (topS 34)) (d23 : DefAt K "way_fault" (topS 35)) (d24 : DefAt K "_law_same" (topS 37)) (d25 : DefAt K "_law_wheel" (topS 38)) (d26 : DefAt K "_law_kite" (topS 39)) (d27 : DefAt K "_law_star_disc" (topS 40)) (d28 : DefAt K "_law_graph" (topS 41)) (d29 : DefAt K "_law_parts_right" (topS 42)) (d30 : DefAt K "_law_chords_right" (topS 43)) (d31 : DefAt K "_law_feet_right" (topS 44)) (d32 : DefAt K "_law_ways_right" (topS 45)) (d33 : DefAt K "_law_refused" (topS 46)) (d34 : DefAt K "_law_refused_right" (topS 47)) (d35 : DefAt K "_law_script_right" (topS 48)) (d36 : DefAt K "law" (topS 49))
  (z0 : PySem.W.nsIn K mainGlobals "int" = some none) (z1 : PySem.W.nsIn K mainGlobals "bool" = some none) (z2 : PySem.W.nsIn K mainGlobals "tuple" = some none) (z3 : PySem.W.nsIn K mainGlobals "list" = some none) (z4 : PySem.W.nsIn K mainGlobals "str" = some none) (z5 : PySem.W.nsIn K mainGlobals "dict" = some none) (z6 : PySem.W.nsIn K mainGlobals "len" = some none) (z7 : PySem.W.nsIn K mainGlobals "sorted" = some none) (z8 : PySem.W.nsIn K mainGlobals "min" = some none) (z9 : PySem.W.nsIn K mainGlobals "max" = some none) (z10 : PySem.W.nsIn K mainGlobals "sum" = some none) (z11 : PySem.W.nsIn K mainGlobals "all" = some none) (z12 : PySem.W.nsIn K mainGlobals "any" = some none) (z13 : PySem.W.nsIn K mainGlobals "abs" = some none) (z14 : PySem.W.nsIn K mainGlobals "isinstance" = some none) (z15 : PySem.W.nsIn K mainGlobals "set" = some none) (z16 : PySem.W.nsIn K mainGlobals "range" = some none) (z17 : PySem.W.nsIn K mainGlobals "zip" = some none) (z18 : PySem.W.nsIn K mainGlobals "enumerate" = some none)
  (u0 : ClsAt K "NoVertex" "vertex" "NoVertex.__init__" (iniS 1)) (u1 : ClsAt K "NoEdge" "edge" "NoEdge.__init__" (iniS 2)) (u2 : ClsAt K "NoFace" "face" "NoFace.__init__" (iniS 3)) : GDef ⟨P, w, K, mg, base, ctabOf K c0.exs⟩ tab c0 := by
  refine ⟨fun k x h => ?fn, fun x h => ?bl, fun i x f h => ?ex⟩
  case fn =>
    match k, h with
      | 0, h =>
        cases h
        obtain ⟨a, fd, q, F, b, kb⟩ := row0 d0
        exact ⟨a, fd, ps0, _, _, topS 9, F0, N0, PySem.W.mg_of X G q, F.kp, b, kb, rfl, ok0, F⟩
      | 1, h =>
        cases h
        obtain ⟨a, fd, q, F, b, kb⟩ := row1 d1
        exact ⟨a, fd, ps1, _, _, topS 10, F1, N1, PySem.W.mg_of X G q, F.kp, b, kb, rfl, ok1, F⟩
      | 2, h =>
        cases h
        obtain ⟨a, fd, q, F, b, kb⟩ := row2 d2
        exact ⟨a, fd, ps2, _, _, topS 11, F2, N2, PySem.W.mg_of X G q, F.kp, b, kb, rfl, ok2, F⟩
      | 3, h =>
        cases h
        obtain ⟨a, fd, q, F, b, kb⟩ := row3 d3
        exact ⟨a, fd, ps3, _, _, topS 12, F3, N3, PySem.W.mg_of X G q, F.kp, b, kb, rfl, ok3, F⟩
      | 4, h =>
        cases h
        obtain ⟨a, fd, q, F, b, kb⟩ := row4 d4
        exact ⟨a, fd, ps4, _, _, topS 13, F4, N4, PySem.W.mg_of X G q, F.kp, b, kb, rfl, ok4, F⟩
      | 5, h =>
        cases h
        obtain ⟨a, fd, q, F, b, kb⟩ := row5 d5
        exact ⟨a, fd, ps5, _, _, topS 14, F5, N5, PySem.W.mg_of X G q, F.kp, b, kb, rfl, ok5, F⟩
      | 6, h =>
        cases h
        obtain ⟨a, fd, q, F, b, kb⟩ := row6 d6
        exact ⟨a, fd, ps6, _, _, topS 15, F6, N6, PySem.W.mg_of X G q, F.kp, b, kb, rfl, ok6, F⟩
      | 7, h =>
        cases h
        obtain ⟨a, fd, q, F, b, kb⟩ := row7 d7
        exact ⟨a, fd, ps7, _, _, topS 16, F7, N7, PySem.W.mg_of X G q, F.kp, b, kb, rfl, ok7, F⟩
      | 8, h =>
        cases h
        obtain ⟨a, fd, q, F, b, kb⟩ := row8 d8
        exact ⟨a, fd, ps8, _, _, topS 17, F8, N8, PySem.W.mg_of X G q, F.kp, b, kb, rfl, ok8, F⟩
      | 9, h =>
        cases h
        obtain ⟨a, fd, q, F, b, kb⟩ := row9 d9
        exact ⟨a, fd, ps9, _, _, topS 18, F9, N9, PySem.W.mg_of X G q, F.kp, b, kb, rfl, ok9, F⟩
      | 10, h =>
        cases h
        obtain ⟨a, fd, q, F, b, kb⟩ := row10 d10
        exact ⟨a, fd, ps10, _, _, topS 20, F10, N10, PySem.W.mg_of X G q, F.kp, b, kb, rfl, ok10, F⟩
      | 11, h =>
        cases h
        obtain ⟨a, fd, q, F, b, kb⟩ := row11 d11
        exact ⟨a, fd, ps11, _, _, topS 21, F11, N11, PySem.W.mg_of X G q, F.kp, b, kb, rfl, ok11, F⟩
      | 12, h =>
        cases h
        obtain ⟨a, fd, q, F, b, kb⟩ := row12 d12
        exact ⟨a, fd, ps12, _, _, topS 23, F12, N12, PySem.W.mg_of X G q, F.kp, b, kb, rfl, ok12, F⟩
      | 13, h =>
        cases h
        obtain ⟨a, fd, q, F, b, kb⟩ := row13 d13
        exact ⟨a, fd, ps13, _, _, topS 25, F13, N13, PySem.W.mg_of X G q, F.kp, b, kb, rfl, ok13, F⟩
      | 14, h =>
        cases h
        obtain ⟨a, fd, q, F, b, kb⟩ := row14 d14
        exact ⟨a, fd, ps14, _, _, topS 26, F14, N14, PySem.W.mg_of X G q, F.kp, b, kb, rfl, ok14, F⟩
      | 15, h =>
        cases h
        obtain ⟨a, fd, q, F, b, kb⟩ := row15 d15
        exact ⟨a, fd, ps15, _, _, topS 27, F15, N15, PySem.W.mg_of X G q, F.kp, b, kb, rfl, ok15, F⟩
      | 16, h =>
        cases h
        obtain ⟨a, fd, q, F, b, kb⟩ := row16 d16
        exact ⟨a, fd, ps16, _, _, topS 28, F16, N16, PySem.W.mg_of X G q, F.kp, b, kb, rfl, ok16, F⟩
      | 17, h =>
        cases h
        obtain ⟨a, fd, q, F, b, kb⟩ := row17 d17
        exact ⟨a, fd, ps17, _, _, topS 29, F17, N17, PySem.W.mg_of X G q, F.kp, b, kb, rfl, ok17, F⟩
      | 18, h =>
        cases h
        obtain ⟨a, fd, q, F, b, kb⟩ := row18 d18
        exact ⟨a, fd, ps18, _, _, topS 30, F18, N18, PySem.W.mg_of X G q, F.kp, b, kb, rfl, ok18, F⟩
      | 19, h =>
        cases h
        obtain ⟨a, fd, q, F, b, kb⟩ := row19 d19
        exact ⟨a, fd, ps19, _, _, topS 31, F19, N19, PySem.W.mg_of X G q, F.kp, b, kb, rfl, ok19, F⟩
      | 20, h =>
        cases h
        obtain ⟨a, fd, q, F, b, kb⟩ := row20 d20
        exact ⟨a, fd, ps20, _, _, topS 32, F20, N20, PySem.W.mg_of X G q, F.kp, b, kb, rfl, ok20, F⟩
      | 21, h =>
        cases h
        obtain ⟨a, fd, q, F, b, kb⟩ := row21 d21
        exact ⟨a, fd, ps21, _, _, topS 33, F21, N21, PySem.W.mg_of X G q, F.kp, b, kb, rfl, ok21, F⟩
      | 22, h =>
        cases h
        obtain ⟨a, fd, q, F, b, kb⟩ := row22 d22
        exact ⟨a, fd, ps22, _, _, topS 34, F22, N22, PySem.W.mg_of X G q, F.kp, b, kb, rfl, ok22, F⟩
      | 23, h =>
        cases h
        obtain ⟨a, fd, q, F, b, kb⟩ := row23 d23
        exact ⟨a, fd, ps23, _, _, topS 35, F23, N23, PySem.W.mg_of X G q, F.kp, b, kb, rfl, ok23, F⟩
      | 24, h =>
        cases h
        obtain ⟨a, fd, q, F, b, kb⟩ := row24 d24
        exact ⟨a, fd, ps24, _, _, topS 37, F24, N24, PySem.W.mg_of X G q, F.kp, b, kb, rfl, ok24, F⟩
      | 25, h =>
        cases h
        obtain ⟨a, fd, q, F, b, kb⟩ := row25 d25
        exact ⟨a, fd, ps25, _, _, topS 38, F25, N25, PySem.W.mg_of X G q, F.kp, b, kb, rfl, ok25, F⟩
      | 26, h =>
        cases h
        obtain ⟨a, fd, q, F, b, kb⟩ := row26 d26
        exact ⟨a, fd, ps26, _, _, topS 39, F26, N26, PySem.W.mg_of X G q, F.kp, b, kb, rfl, ok26, F⟩
      | 27, h =>
        cases h
        obtain ⟨a, fd, q, F, b, kb⟩ := row27 d27
        exact ⟨a, fd, ps27, _, _, topS 40, F27, N27, PySem.W.mg_of X G q, F.kp, b, kb, rfl, ok27, F⟩
      | 28, h =>
        cases h
        obtain ⟨a, fd, q, F, b, kb⟩ := row28 d28
        exact ⟨a, fd, ps28, _, _, topS 41, F28, N28, PySem.W.mg_of X G q, F.kp, b, kb, rfl, ok28, F⟩
      | 29, h =>
        cases h
        obtain ⟨a, fd, q, F, b, kb⟩ := row29 d29
        exact ⟨a, fd, ps29, _, _, topS 42, F29, N29, PySem.W.mg_of X G q, F.kp, b, kb, rfl, ok29, F⟩
      | 30, h =>
        cases h
        obtain ⟨a, fd, q, F, b, kb⟩ := row30 d30
        exact ⟨a, fd, ps30, _, _, topS 43, F30, N30, PySem.W.mg_of X G q, F.kp, b, kb, rfl, ok30, F⟩
      | 31, h =>
        cases h
        obtain ⟨a, fd, q, F, b, kb⟩ := row31 d31
        exact ⟨a, fd, ps31, _, _, topS 44, F31, N31, PySem.W.mg_of X G q, F.kp, b, kb, rfl, ok31, F⟩
      | 32, h =>
        cases h
        obtain ⟨a, fd, q, F, b, kb⟩ := row32 d32
        exact ⟨a, fd, ps32, _, _, topS 45, F32, N32, PySem.W.mg_of X G q, F.kp, b, kb, rfl, ok32, F⟩
      | 33, h =>
        cases h
        obtain ⟨a, fd, q, F, b, kb⟩ := row33 d33
        exact ⟨a, fd, ps33, _, _, topS 46, F33, N33, PySem.W.mg_of X G q, F.kp, b, kb, rfl, ok33, F⟩
      | 34, h =>
        cases h
        obtain ⟨a, fd, q, F, b, kb⟩ := row34 d34
        exact ⟨a, fd, ps34, _, _, topS 47, F34, N34, PySem.W.mg_of X G q, F.kp, b, kb, rfl, ok34, F⟩
      | 35, h =>
        cases h
        obtain ⟨a, fd, q, F, b, kb⟩ := row35 d35
        exact ⟨a, fd, ps35, _, _, topS 48, F35, N35, PySem.W.mg_of X G q, F.kp, b, kb, rfl, ok35, F⟩
      | 36, h =>
        cases h
        obtain ⟨a, fd, q, F, b, kb⟩ := row36 d36
        exact ⟨a, fd, ps36, _, _, topS 49, F36, N36, PySem.W.mg_of X G q, F.kp, b, kb, rfl, ok36, F⟩
      | n + 37, h => cases h
  case bl =>
    simp only [bnames, List.mem_cons, List.not_mem_nil, or_false] at h
    rcases h with h | h | h | h | h | h | h | h | h | h | h | h | h | h | h | h | h | h | h
    · subst h; exact PySem.W.mg_none_of X G z0
    · subst h; exact PySem.W.mg_none_of X G z1
    · subst h; exact PySem.W.mg_none_of X G z2
    · subst h; exact PySem.W.mg_none_of X G z3
    · subst h; exact PySem.W.mg_none_of X G z4
    · subst h; exact PySem.W.mg_none_of X G z5
    · subst h; exact PySem.W.mg_none_of X G z6
    · subst h; exact PySem.W.mg_none_of X G z7
    · subst h; exact PySem.W.mg_none_of X G z8
    · subst h; exact PySem.W.mg_none_of X G z9
    · subst h; exact PySem.W.mg_none_of X G z10
    · subst h; exact PySem.W.mg_none_of X G z11
    · subst h; exact PySem.W.mg_none_of X G z12
    · subst h; exact PySem.W.mg_none_of X G z13
    · subst h; exact PySem.W.mg_none_of X G z14
    · subst h; exact PySem.W.mg_none_of X G z15
    · subst h; exact PySem.W.mg_none_of X G z16
    · subst h; exact PySem.W.mg_none_of X G z17
    · subst h; exact PySem.W.mg_none_of X G z18
  case ex =>
    match i, h with
      | 0, h =>
        cases h
        obtain ⟨C, fI, fd, a, e, F⟩ := u0
        exact ⟨C, ctab_at (exs := c0.exs) (i := 0) (x := "NoVertex") (f := "vertex") rfl a, exF_of (PySem.W.mg_of X G a) e F ⟨rfl, rfl, rfl, by decide +kernel, rfl, by decide +kernel, by decide +kernel⟩ rfl rfl (by decide +kernel) (by decide +kernel) (by decide +kernel) (by decide +kernel) rfl (F.binds (ps := [("self" : Str), ("vertex" : Str)]) fun _ _ _ _ _ _ us hl => (match us, hl with | [_, _], _ => rfl))⟩
      | 1, h =>
        cases h
        obtain ⟨C, fI, fd, a, e, F⟩ := u1
        exact ⟨C, ctab_at (exs := c0.exs) (i := 1) (x := "NoEdge") (f := "edge") rfl a, exF_of (PySem.W.mg_of X G a) e F ⟨rfl, rfl, rfl, by decide +kernel, rfl, by decide +kernel, by decide +kernel⟩ rfl rfl (by decide +kernel) (by decide +kernel) (by decide +kernel) (by decide +kernel) rfl (F.binds (ps := [("self" : Str), ("edge" : Str)]) fun _ _ _ _ _ _ us hl => (match us, hl with | [_, _], _ => rfl))⟩
      | 2, h =>
        cases h
        obtain ⟨C, fI, fd, a, e, F⟩ := u2
        exact ⟨C, ctab_at (exs := c0.exs) (i := 2) (x := "NoFace") (f := "face") rfl a, exF_of (PySem.W.mg_of X G a) e F ⟨rfl, rfl, rfl, by decide +kernel, rfl, by decide +kernel, by decide +kernel⟩ rfl rfl (by decide +kernel) (by decide +kernel) (by decide +kernel) (by decide +kernel) rfl (F.binds (ps := [("self" : Str), ("face" : Str)]) fun _ _ _ _ _ _ us hl => (match us, hl with | [_, _], _ => rfl))⟩
      | n + 3, h => cases h
theorem to_cx0 {P : Program} {w : World} {K : PySem.W.Frag} {mg : Str → Option Value} {base : Heap} {k : Nat} {f : Addr} {fd : FuncData} {ps : List Str} {sp : L2.Sp} (F : FnOk P w K mg base (L2.CX P w) k f fd ps sp) : FnOk P w K mg base L2.CX0 k f fd ps (fun vs H Q _ => sp vs H Q fun _ _ _ => False) :=
  ⟨fun vs H Q E q => F.len _ _ _ _ q, fun A outer s H args us vs Q E hr e0 hb r q => codeAny_mono (F.run A outer s H args us vs Q _ hr e0 hb r q) fun res s' hq => by
    cases res with
    | error e =>
      obtain ⟨_, _, _, _, _, _, _, _, _, _, _, _, z⟩ := hq
      exact z.elim
    | ok fl => cases fl <;> exact hq⟩
/-- what the law does: it says yes -/
def spLaw (K : PySem.W.Frag) : L2.Sp := fun vs H Q _ => ∃ G : Gp, G.ctab = ctabOf K c0.exs ∧ spF G tab 20 36 vs H Q fun _ _ _ => False
def aW : World := { draws := fun _ _ => 0, params := { strHash := fun _ => 0, shareClass := fun _ => 0, mergeTok := id, idOf := fun _ => 0, idOfShared := fun _ _ => 0, followText := fun _ => false, idOfImm := fun _ => 0 } }
theorem sp_law (K : PySem.W.Frag) (H : Hp) (a : Addr) : spLaw K [.ref a] H (fun v _ => v = .bl true) fun _ _ _ => False := ⟨G0 P aW K exs, rfl, sp_yes yes H a⟩
theorem all_mk {w : World} {h : Heap} {mg : Str → Option Value} {fa : Addr} (X : K.In h) (G : h.Ns mainGlobals mg) (hfa : mg "law" = some (.ref fa)) (d0 : DefAt K "is_number" (topS 9)) (d1 : DefAt K "are_numbers" (topS 10)) (d2 : DefAt K "are_vertices" (topS 11)) (d3 : DefAt K "are_unlike" (topS 12)) (d4 : DefAt K "check_vertex" (topS 13)) (d5 : DefAt K "check_vertices" (topS 14)) (d6 : DefAt K "edges_of" (topS 15)) (d7 : DefAt K "gather" (topS 16)) (d8 : DefAt K "pieces" (topS 17)) (d9 : DefAt K "is_path" (topS 18)) (d10 : DefAt K "graph_in" (topS 20)) (d11 : DefAt K "check_on" (topS 21)) (d12 : DefAt K "meets" (topS 23)) (d13 : DefAt K "feet_of" (topS 25)) (d14 : DefAt K "parts" (topS 26)) (d15 : DefAt K "parts_on" (topS 27)) (d16 : DefAt K "steps_of" (topS 28)) (d17 : DefAt K "chords" (topS 29)) (d18 : DefAt K "on_rim" (topS 30)) (d19 : DefAt K "rim_parts" (topS 31)) (d20 : DefAt K "worst_part" (topS 32)) (d21 : DefAt K "is_three_footed" (topS 33)) (d22 : DefAt K "is_way" (topS 34)) (d23 : DefAt K "way_fault" (topS 35)) (d24 : DefAt K "_law_same" (topS 37)) (d25 : DefAt K "_law_wheel" (topS 38)) (d26 : DefAt K "_law_kite" (topS 39)) (d27 : DefAt K "_law_star_disc" (topS 40)) (d28 : DefAt K "_law_graph" (topS 41)) (d29 : DefAt K "_law_parts_right" (topS 42)) (d30 : DefAt K "_law_chords_right" (topS 43)) (d31 : DefAt K "_law_feet_right" (topS 44)) (d32 : DefAt K "_law_ways_right" (topS 45)) (d33 : DefAt K "_law_refused" (topS 46)) (d34 : DefAt K "_law_refused_right" (topS 47)) (d35 : DefAt K "_law_script_right" (topS 48)) (d36 : DefAt K "law" (topS 49))
  (z0 : PySem.W.nsIn K mainGlobals "int" = some none) (z1 : PySem.W.nsIn K mainGlobals "bool" = some none) (z2 : PySem.W.nsIn K mainGlobals "tuple" = some none) (z3 : PySem.W.nsIn K mainGlobals "list" = some none) (z4 : PySem.W.nsIn K mainGlobals "str" = some none) (z5 : PySem.W.nsIn K mainGlobals "dict" = some none) (z6 : PySem.W.nsIn K mainGlobals "len" = some none) (z7 : PySem.W.nsIn K mainGlobals "sorted" = some none) (z8 : PySem.W.nsIn K mainGlobals "min" = some none) (z9 : PySem.W.nsIn K mainGlobals "max" = some none) (z10 : PySem.W.nsIn K mainGlobals "sum" = some none) (z11 : PySem.W.nsIn K mainGlobals "all" = some none) (z12 : PySem.W.nsIn K mainGlobals "any" = some none) (z13 : PySem.W.nsIn K mainGlobals "abs" = some none) (z14 : PySem.W.nsIn K mainGlobals "isinstance" = some none) (z15 : PySem.W.nsIn K mainGlobals "set" = some none) (z16 : PySem.W.nsIn K mainGlobals "range" = some none) (z17 : PySem.W.nsIn K mainGlobals "zip" = some none) (z18 : PySem.W.nsIn K mainGlobals "enumerate" = some none)
  (u0 : ClsAt K "NoVertex" "vertex" "NoVertex.__init__" (iniS 1)) (u1 : ClsAt K "NoEdge" "edge" "NoEdge.__init__" (iniS 2)) (u2 : ClsAt K "NoFace" "face" "NoFace.__init__" (iniS 3)) :
    ∃ fd : FuncData, (∀ (s : Shared) (u : Value), BindsTo s fd ⟨[u], []⟩ [("script", u)]) ∧ ∀ base : Heap, K.In base → base.Ns mainGlobals mg → FnOk P w K mg base L2.CX0 22 fa fd ["script"] (spLaw K) := by
  obtain ⟨a, fd, q, F, b, kb⟩ := row36 d36
  have e := hfa.symm.trans (PySem.W.mg_of X G q)
  cases e
  refine ⟨fd, fun s u => ?_, fun base _ _ => ?_⟩
  · obtain ⟨oc, od, kV, doc, pm, an, cdv, ct, osl, rfl, lk, hcd⟩ := F.ex
    exact .of_eq rfl
  · have D : GDef ⟨P, w, K, mg, base, ctabOf K c0.exs⟩ tab c0 := gdef X G d0 d1 d2 d3 d4 d5 d6 d7 d8 d9 d10 d11 d12 d13 d14 d15 d16 d17 d18 d19 d20 d21 d22 d23 d24 d25 d26 d27 d28 d29 d30 d31 d32 d33 d34 d35 d36 z0 z1 z2 z3 z4 z5 z6 z7 z8 z9 z10 z11 z12 z13 z14 z15 z16 z17 z18 u0 u1 u2
    exact (to_cx0 (fn_step (gfn D 19) (k := 36) rfl ok36 F)).imp fun vs H Q E q => by
      obtain ⟨G1, e1, q⟩ := q
      exact spF_ctab (G := G1) (G' := ⟨P, w, K, mg, base, ctabOf K c0.exs⟩) e1 q
end
end K14
set_option Elab.async false
set_option linter.all false
set_option maxRecDepth 100000
set_option maxHeartbeats 0
open PySem PySem.W PyProof.Rows
theorem PySem.Challenge.cw_threefeet_k14_parts_by_hand_and_refused_holds : PySem.Challenge.rw_threefeet_k14_parts_by_hand_and_refused.Holds := by
  w_on; o_law; k_head; (case hw => w_witness2)
  k_fill
  refine L2.walk_ofK (l := PySem.Challenge.rw_threefeet_k14_parts_by_hand_and_refused) (n := 63) (k := 22) (x := "script") (CX := L2.CX0) (sp := K14.spLaw) rfl (by decide) rfl ⟨rfl, by decide, by decide⟩ (fun w h Y => PySem.W.kIn_of Y) ?F (fun K H a ns _ _ _ => K14.sp_law K H a) (fun _ _ _ _ z => z)
  case F =>
    intro w mg fa h KX G hmg
    refine' K14.all_mk KX G hmg ?d0 ?d1 ?d2 ?d3 ?d4 ?d5 ?d6 ?d7 ?d8 ?d9 ?d10 ?d11 ?d12 ?d13 ?d14 ?d15 ?d16 ?d17 ?d18 ?d19 ?d20 ?d21 ?d22 ?d23 ?d24 ?d25 ?d26 ?d27 ?d28 ?d29 ?d30 ?d31 ?d32 ?d33 ?d34 ?d35 ?d36 ?z0 ?z1 ?z2 ?z3 ?z4 ?z5 ?z6 ?z7 ?z8 ?z9 ?z10 ?z11 ?z12 ?z13 ?z14 ?z15 ?z16 ?z17 ?z18 ?u0 ?u1 ?u2
    (case d0 => (refine' K14.defAt_mk ?a ?l ?c ?k; (case a => k_is); (case l => k_is); (case c => k_is); (case k => k_is)))
    (case d1 => (refine' K14.defAt_mk ?a ?l ?c ?k; (case a => k_is); (case l => k_is); (case c => k_is); (case k => k_is)))
    (case d2 => (refine' K14.defAt_mk ?a ?l ?c ?k; (case a => k_is); (case l => k_is); (case c => k_is); (case k => k_is)))
    (case d3 => (refine' K14.defAt_mk ?a ?l ?c ?k; (case a => k_is); (case l => k_is); (case c => k_is); (case k => k_is)))
    (case d4 => (refine' K14.defAt_mk ?a ?l ?c ?k; (case a => k_is); (case l => k_is); (case c => k_is); (case k => k_is)))
    (case d5 => (refine' K14.defAt_mk ?a ?l ?c ?k; (case a => k_is); (case l => k_is); (case c => k_is); (case k => k_is)))
    (case d6 => (refine' K14.defAt_mk ?a ?l ?c ?k; (case a => k_is); (case l => k_is); (case c => k_is); (case k => k_is)))
    (case d7 => (refine' K14.defAt_mk ?a ?l ?c ?k; (case a => k_is); (case l => k_is); (case c => k_is); (case k => k_is)))
    (case d8 => (refine' K14.defAt_mk ?a ?l ?c ?k; (case a => k_is); (case l => k_is); (case c => k_is); (case k => k_is)))
    (case d9 => (refine' K14.defAt_mk ?a ?l ?c ?k; (case a => k_is); (case l => k_is); (case c => k_is); (case k => k_is)))
    (case d10 => (refine' K14.defAt_mk ?a ?l ?c ?k; (case a => k_is); (case l => k_is); (case c => k_is); (case k => k_is)))
    (case d11 => (refine' K14.defAt_mk ?a ?l ?c ?k; (case a => k_is); (case l => k_is); (case c => k_is); (case k => k_is)))
    (case d12 => (refine' K14.defAt_mk ?a ?l ?c ?k; (case a => k_is); (case l => k_is); (case c => k_is); (case k => k_is)))
    (case d13 => (refine' K14.defAt_mk ?a ?l ?c ?k; (case a => k_is); (case l => k_is); (case c => k_is); (case k => k_is)))
    (case d14 => (refine' K14.defAt_mk ?a ?l ?c ?k; (case a => k_is); (case l => k_is); (case c => k_is); (case k => k_is)))
    (case d15 => (refine' K14.defAt_mk ?a ?l ?c ?k; (case a => k_is); (case l => k_is); (case c => k_is); (case k => k_is)))
    (case d16 => (refine' K14.defAt_mk ?a ?l ?c ?k; (case a => k_is); (case l => k_is); (case c => k_is); (case k => k_is)))
    (case d17 => (refine' K14.defAt_mk ?a ?l ?c ?k; (case a => k_is); (case l => k_is); (case c => k_is); (case k => k_is)))
    (case d18 => (refine' K14.defAt_mk ?a ?l ?c ?k; (case a => k_is); (case l => k_is); (case c => k_is); (case k => k_is)))
    (case d19 => (refine' K14.defAt_mk ?a ?l ?c ?k; (case a => k_is); (case l => k_is); (case c => k_is); (case k => k_is)))
    (case d20 => (refine' K14.defAt_mk ?a ?l ?c ?k; (case a => k_is); (case l => k_is); (case c => k_is); (case k => k_is)))
    (case d21 => (refine' K14.defAt_mk ?a ?l ?c ?k; (case a => k_is); (case l => k_is); (case c => k_is); (case k => k_is)))
    (case d22 => (refine' K14.defAt_mk ?a ?l ?c ?k; (case a => k_is); (case l => k_is); (case c => k_is); (case k => k_is)))
    (case d23 => (refine' K14.defAt_mk ?a ?l ?c ?k; (case a => k_is); (case l => k_is); (case c => k_is); (case k => k_is)))
    (case d24 => (refine' K14.defAt_mk ?a ?l ?c ?k; (case a => k_is); (case l => k_is); (case c => k_is); (case k => k_is)))
    (case d25 => (refine' K14.defAt_mk ?a ?l ?c ?k; (case a => k_is); (case l => k_is); (case c => k_is); (case k => k_is)))
    (case d26 => (refine' K14.defAt_mk ?a ?l ?c ?k; (case a => k_is); (case l => k_is); (case c => k_is); (case k => k_is)))
    (case d27 => (refine' K14.defAt_mk ?a ?l ?c ?k; (case a => k_is); (case l => k_is); (case c => k_is); (case k => k_is)))
    (case d28 => (refine' K14.defAt_mk ?a ?l ?c ?k; (case a => k_is); (case l => k_is); (case c => k_is); (case k => k_is)))
    (case d29 => (refine' K14.defAt_mk ?a ?l ?c ?k; (case a => k_is); (case l => k_is); (case c => k_is); (case k => k_is)))
    (case d30 => (refine' K14.defAt_mk ?a ?l ?c ?k; (case a => k_is); (case l => k_is); (case c => k_is); (case k => k_is)))
    (case d31 => (refine' K14.defAt_mk ?a ?l ?c ?k; (case a => k_is); (case l => k_is); (case c => k_is); (case k => k_is)))
    (case d32 => (refine' K14.defAt_mk ?a ?l ?c ?k; (case a => k_is); (case l => k_is); (case c => k_is); (case k => k_is)))
    (case d33 => (refine' K14.defAt_mk ?a ?l ?c ?k; (case a => k_is); (case l => k_is); (case c => k_is); (case k => k_is)))
    (case d34 => (refine' K14.defAt_mk ?a ?l ?c ?k; (case a => k_is); (case l => k_is); (case c => k_is); (case k => k_is)))
    (case d35 => (refine' K14.defAt_mk ?a ?l ?c ?k; (case a => k_is); (case l => k_is); (case c => k_is); (case k => k_is)))
    (case d36 => (refine' K14.defAt_mk ?a ?l ?c ?k; (case a => k_is); (case l => k_is); (case c => k_is); (case k => k_is)))
    (case z0 => k_is)
    (case z1 => k_is)
    (case z2 => k_is)
    (case z3 => k_is)
    (case z4 => k_is)
    (case z5 => k_is)
    (case z6 => k_is)
    (case z7 => k_is)
    (case z8 => k_is)
    (case z9 => k_is)
    (case z10 => k_is)
    (case z11 => k_is)
    (case z12 => k_is)
    (case z13 => k_is)
    (case z14 => k_is)
    (case z15 => k_is)
    (case z16 => k_is)
    (case z17 => k_is)
    (case z18 => k_is)
    (case u0 => (refine' K14.clsAt_mk ?a ?i ?l ?c ?k ?e; (case a => k_is); (case i => k_is); (case l => k_is); (case c => k_is); (case k => k_is); (case e => first | rfl | kernel_rfl | k_is)))
    (case u1 => (refine' K14.clsAt_mk ?a ?i ?l ?c ?k ?e; (case a => k_is); (case i => k_is); (case l => k_is); (case c => k_is); (case k => k_is); (case e => first | rfl | kernel_rfl | k_is)))
    (case u2 => (refine' K14.clsAt_mk ?a ?i ?l ?c ?k ?e; (case a => k_is); (case i => k_is); (case l => k_is); (case c => k_is); (case k => k_is); (case e => first | rfl | kernel_rfl | k_is)))

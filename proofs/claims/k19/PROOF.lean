import PyProof.Rows.All
import Wide.All
import OpenK.AllK
import Wide.FinOn
import HandS.ForMost
import HandS.Walk
import HandS.TupAny
import HandS.TupLe
import HandS.Deep
import HandS.IsInst
import HandS.Flow
import HandS.Zip
import HandS.NoneIn
import HandS.DictComp
import HandS.Iter
import HandS.SetFor
import HandS.Style
import KE.SortData
import HandS.WideBits
import HandS.DictTup
import HandS.More
import PySem.Challenge.RW_whichmethod_k19_one_place_counted
set_option Elab.async false
set_option linter.all false
set_option maxRecDepth 100000
/-! DSem: what a def of plain data reckons, without a heap. -/
namespace DX
open PySem PySem.Spec PyProof.Rows L2

/-- data: what never changes any more -/
inductive D where
  | non
  | bl (b : Bool)
  | int (i : Int)
  | str (x : Str)
  | tup (xs : List D)
  | lst (xs : List D)
  | dK (kvs : List (Key × D))
  | dT (kvs : List (List Key × D))
  | ins (c : Str) (fs : List (Str × D))
  /-- the script: ints -/
  | scr (ns : List Int)
  /-- a tuple of the module's top -/
  | kt (xs : List D)
  /-- a thing that changes, while a loop walks it -/
  | lk (d : D)

/-- a slot's value: data, or the n-th of the things that change -/
inductive Sv where
  | dat (d : D)
  | cel (n : Nat)

abbrev Env := List (Option Sv)
abbrev Store := List D
abbrev SE := Env → Store → Option (Sv × Store)
abbrev ST := Env → Store → Option (Bool × Store)
abbrev SA := Env → Store → Option (List Sv × Store)
inductive Fl where
  | nx (ρ : Env)
  | rt (v : Sv)
  | bk (ρ : Env)
  | ct (ρ : Env)
abbrev SS := Env → Store → Option (Fl × Store)

mutual
def toPy : D → PyData
  | .non => .none
  | .bl b => .bool b
  | .int i => .int i
  | .str x => .str x
  | .tup xs => .tuple (toPyL xs)
  | .lst xs => .list (toPyL xs)
  | .dK _ => .dict []
  | .dT _ => .dict []
  | .ins _ _ => .dict []
  | .scr _ => .dict []
  | .kt _ => .dict []
  | .lk _ => .dict []
def toPyL : List D → List PyData
  | [] => []
  | d :: ds => toPy d :: toPyL ds
end
theorem toPyL_map : ∀ ds : List D, toPyL ds = ds.map toPy
  | [] => rfl
  | d :: ds => by rw [toPyL, toPyL_map ds]; rfl

/-- a thing that changes, its lock left out -/
def unlk : D → D
  | .lk d => d
  | d => d
/-- the data a slot's value stands for -/
def see (C : Store) : Sv → Option D
  | .dat d => some d
  | .cel n => (C[n]?).map unlk
def keyD : Key → D
  | .inl i => .int i
  | .inr x => .str x
def dKey : D → Option Key
  | .int i => some (.inl i)
  | .str x => some (.inr x)
  | _ => none
def dKeys : List D → Option (List Key)
  | [] => some []
  | d :: ds => match dKey d, dKeys ds with
    | some k, some ks => some (k :: ks)
    | _, _ => none
theorem dKey_some {d : D} {k : Key} (h : dKey d = some k) : d = keyD k := by
  cases d <;> simp [dKey] at h <;> subst h <;> rfl
theorem dKeys_some : ∀ {ds : List D} {ks : List Key}, dKeys ds = some ks → ds = ks.map keyD
  | [], ks, h => by simp [dKeys] at h; subst h; rfl
  | d :: ds, ks, h => by
    unfold dKeys at h
    split at h
    · rename_i k ks' h1 h2
      cases h
      rw [dKey_some h1, dKeys_some h2]; rfl
    · cases h
/-- look-up and store in a dict's pairs -/
def dGet {κ α : Type} [DecidableEq κ] (kvs : List (κ × α)) (k : κ) : Option α := (kvs.find? fun kv => decide (kv.1 = k)).map (·.2)
def dPut {κ α : Type} [DecidableEq κ] (kvs : List (κ × α)) (k : κ) (v : α) : List (κ × α) :=
  if (kvs.any fun kv => decide (kv.1 = k)) then kvs.map (fun kv => if kv.1 = k then (kv.1, v) else kv) else kvs ++ [(k, v)]
/-- d[k] of a dict: none, if this is no dict or the key no key; some none: not there -/
def dictAt (d k : D) : Option (Option D) := match d with
  | .dK kvs => (dKey k).map (dGet kvs)
  | .dT kvs => match k with
    | .tup ks => (dKeys ks).map (dGet kvs)
    | _ => none
  | _ => none
def dictPut (d k v : D) : Option D := match d with
  | .dK kvs => (dKey k).map fun k => .dK (dPut kvs k v)
  | .dT kvs => match k with
    | .tup ks => (dKeys ks).map fun k => .dT (dPut kvs k v)
    | _ => none
  | _ => none
/-- how many -/
def lenD : D → Option Nat
  | .str x => some x.length
  | .tup xs => some xs.length
  | .lst xs => some xs.length
  | .dK kvs => some kvs.length
  | .dT kvs => some kvs.length
  | _ => none
def truD : D → Option Bool
  | .non => some false
  | .bl b => some b
  | .int i => some (i != 0)
  | .str x => if x.length ≤ sizeLine then some ((x.length : Int) != 0) else none
  | .tup xs => some (!xs.isEmpty)
  | .lst xs => some (!xs.isEmpty)
  | _ => none

/-! ### one after another -/
def bnd {α β : Type} (o : Option (α × Store)) (k : α → Store → Option β) : Option β := match o with
  | some (a, C) => k a C
  | none => none
def bn1 {α β : Type} (o : Option α) (k : α → Option β) : Option β := match o with
  | some a => k a
  | none => none
def gd {β : Type} (c : Prop) [Decidable c] (o : Option β) : Option β := if c then o else none
@[simp] theorem bnd_s {α β : Type} (a : α) (C : Store) (k : α → Store → Option β) : bnd (some (a, C)) k = k a C := rfl
@[simp] theorem bnd_n {α β : Type} (k : α → Store → Option β) : bnd none k = none := rfl
@[simp] theorem bn1_s {α β : Type} (a : α) (k : α → Option β) : bn1 (some a) k = k a := rfl
@[simp] theorem bn1_n {α β : Type} (k : α → Option β) : bn1 none k = none := rfl
theorem gd_t {β : Type} {c : Prop} [Decidable c] {o : Option β} (h : c) : gd c o = o := if_pos h
theorem bnd_i {α β : Type} {o : Option (α × Store)} {k : α → Store → Option β} {z : β} (h : bnd o k = some z) : ∃ a C1, o = some (a, C1) ∧ k a C1 = some z := by
  cases o with
  | none => cases h
  | some p => obtain ⟨a, C1⟩ := p; exact ⟨a, C1, rfl, h⟩
theorem bn1_i {α β : Type} {o : Option α} {k : α → Option β} {z : β} (h : bn1 o k = some z) : ∃ a, o = some a ∧ k a = some z := by
  cases o with
  | none => cases h
  | some a => exact ⟨a, rfl, h⟩
theorem gd_i {α : Type} {c : Prop} [Decidable c] {o : Option α} {z : α} (h : gd c o = some z) : c ∧ o = some z := by
  unfold gd at h
  by_cases hc : c
  · rw [if_pos hc] at h; exact ⟨hc, h⟩
  · rw [if_neg hc] at h; cases h

/-! ### expressions -/
abbrev SN := Env → Store → Option (D × Store)
def eVar (i : Nat) : SE := fun ρ C => bn1 (ρ[i]?.join) fun v => some (v, C)
def eC (d : D) : SE := fun _ C => some (.dat d, C)
/-- two, from the left: the first one is seen behind the second one -/
def eBin (r : D → D → Option D) (f g : SE) : SE := fun ρ C => bnd (f ρ C) fun v C1 => bnd (g ρ C1) fun w C2 => bn1 (see C2 v) fun d => bn1 (see C2 w) fun e => bn1 (r d e) fun z => some (.dat z, C2)
def eUn (r : D → Option D) (f : SE) : SE := fun ρ C => bnd (f ρ C) fun v C1 => bn1 (see C1 v) fun d => bn1 (r d) fun z => some (.dat z, C1)
def aNil : SA := fun _ C => some ([], C)
def aCons (f : SE) (g : SA) : SA := fun ρ C => bnd (f ρ C) fun v C1 => bnd (g ρ C1) fun vs C2 => some (v :: vs, C2)
/-- all are data -/
def dats : List Sv → Option (List D)
  | [] => some []
  | .dat d :: vs => bn1 (dats vs) fun ds => some (d :: ds)
  | .cel _ :: _ => none
def sees (C : Store) : List Sv → Option (List D)
  | [] => some []
  | v :: vs => bn1 (see C v) fun d => bn1 (sees C vs) fun ds => some (d :: ds)
def eTup (g : SA) : SE := fun ρ C => bnd (g ρ C) fun vs C1 => bn1 (dats vs) fun ds => gd (ds.length ≤ 1000) (some (.dat (.tup ds), C1))
def nLst (g : SA) : SN := fun ρ C => bnd (g ρ C) fun vs C1 => bn1 (dats vs) fun ds => gd (ds.length ≤ 1000) (some (.lst ds, C1))
def nolk : D → Bool
  | .lk _ => false
  | _ => true
/-- a new object as data -/
def eFr (f : SN) : SE := fun ρ C => bnd (f ρ C) fun d C1 => gd (nolk d = true) (some (.dat d, C1))
/-- a built-in -/
def eB (k : List D → Option D) (a : SA) : SE := fun ρ C => bnd (a ρ C) fun ss C1 => bn1 (sees C1 ss) fun ds => bn1 (k ds) fun z => some (.dat z, C1)
/-- a built-in that makes a new object -/
def nB (k : List D → Option D) (a : SA) : SN := fun ρ C => bnd (a ρ C) fun ss C1 => bn1 (sees C1 ss) fun ds => bn1 (k ds) fun z => some (z, C1)
def nBin (r : D → D → Option D) (f g : SE) : SN := fun ρ C => bnd (f ρ C) fun v C1 => bnd (g ρ C1) fun w C2 => bn1 (see C2 v) fun d => bn1 (see C2 w) fun e => bn1 (r d e) fun z => some (z, C2)
/-! ### tests -/
/-- an expression's value as a test -/
def tB' (f : SE) : ST := fun ρ C => bnd (f ρ C) fun v C1 => match v with
  | .dat (.bl b) => some (b, C1)
  | _ => none
def tTru (f : SE) : ST := fun ρ C => bnd (f ρ C) fun v C1 => bn1 (see C1 v) fun d => bn1 (truD d) fun b => some (b, C1)
def tAnd' (f g : ST) : ST := fun ρ C => bnd (f ρ C) fun b C1 => if b = true then g ρ C1 else some (false, C1)
def tOr' (f g : ST) : ST := fun ρ C => bnd (f ρ C) fun b C1 => if b = true then some (true, C1) else g ρ C1
def tNot' (f : ST) : ST := fun ρ C => bnd (f ρ C) fun b C1 => some (!b, C1)
def eIf (c : ST) (f g : SE) : SE := fun ρ C => bnd (c ρ C) fun b C1 => if b = true then f ρ C1 else g ρ C1
def nIf (c : ST) (f g : SN) : SN := fun ρ C => bnd (c ρ C) fun b C1 => if b = true then f ρ C1 else g ρ C1
/-- and, or, not as values -/
def eAndV (f g : SE) : SE := fun ρ C => bnd (f ρ C) fun v C1 => match v with
  | .dat (.bl true) => g ρ C1
  | .dat (.bl false) => some (.dat (.bl false), C1)
  | _ => none
def eOrV (f g : SE) : SE := fun ρ C => bnd (f ρ C) fun v C1 => match v with
  | .dat (.bl true) => some (.dat (.bl true), C1)
  | .dat (.bl false) => g ρ C1
  | _ => none
def eNotV (f : SE) : SE := fun ρ C => bnd (f ρ C) fun v C1 => match v with
  | .dat (.bl b) => some (.dat (.bl (!b)), C1)
  | _ => none
end DX

/-! DRel: data and the heap. -/
namespace DX
open PySem PySem.Spec L2

structure Gm where
  K : PySem.W.Frag
  cls : Str → Addr

def TupAt (G : Gm) (M : Addr → Prop) (H : Hp) (a : Addr) (vs : List V) : Prop := ¬ M a ∧ H a = some (.tup vs)
def LstAt (G : Gm) (M : Addr → Prop) (H : Hp) (a : Addr) (vs : List V) : Prop := (¬ M a ∧ Rd H a (.lst vs)) ∨ ∀ H', SqL G.K H' a vs
theorem TupAt.sq {G : Gm} {M : Addr → Prop} {H : Hp} {a : Addr} {vs : List V} (h : TupAt G M H a vs) : SqT G.K H a vs := .inl (.inl h.2)
theorem LstAt.sq {G : Gm} {M : Addr → Prop} {H : Hp} {a : Addr} {vs : List V} (h : LstAt G M H a vs) : SqL G.K H a vs := by
  rcases h with ⟨_, h⟩ | h
  · exact .inl h
  · exact h H

mutual
inductive Rp (G : Gm) (M : Addr → Prop) (H : Hp) : V → D → Prop
  | non : Rp G M H .non .non
  | bl (b : Bool) : Rp G M H (.bl b) (.bl b)
  | int (i : Int) : Rp G M H (.int i) (.int i)
  | str (x : Str) : Rp G M H (.str x) (.str x)
  | tup {a : Addr} {vs : List V} {ds : List D} : TupAt G M H a vs → vs.length ≤ sizeLine → RpL G M H vs ds → Rp G M H (.ref a) (.tup ds)
  | lst {a : Addr} {vs : List V} {ds : List D} : ¬ M a → Rd H a (.lst vs) → vs.length ≤ sizeLine → RpL G M H vs ds → Rp G M H (.ref a) (.lst ds)
  | kt {a : Addr} {vs : List V} {ds : List D} : (∀ H', SqT G.K H' a vs) → RpL G M H vs ds → Rp G M H (.ref a) (.kt ds)
  | scr {a : Addr} {ns : List Int} : LstAt G M H a (ns.map V.int) → ns.length ≤ 63 → Rp G M H (.ref a) (.scr ns)
  | dK {a : Addr} {kvs : List (Key × V)} {ds : List (Key × D)} : ¬ M a → Rd H a (.dK kvs) → kvs.length ≤ sizeLine → kvs.map (·.1) = ds.map (·.1) → RpL G M H (kvs.map (·.2)) (ds.map (·.2)) → Rp G M H (.ref a) (.dK ds)
  | dT {a : Addr} {kvs : List (List Key × V)} {ds : List (List Key × D)} : ¬ M a → Rd H a (.dT kvs) → kvs.length ≤ sizeLine → kvs.map (·.1) = ds.map (·.1) → RpL G M H (kvs.map (·.2)) (ds.map (·.2)) → Rp G M H (.ref a) (.dT ds)
  | ins {a dx : Addr} {c : Str} {fs : List (Str × V)} {ds : List (Str × D)} : ¬ M a → ¬ M dx → H a = some (.ins (G.cls c) dx fs) → H dx = some (.own a) → fs.map (·.1) = ds.map (·.1) → RpL G M H (fs.map (·.2)) (ds.map (·.2)) → Rp G M H (.ref a) (.ins c ds)
inductive RpL (G : Gm) (M : Addr → Prop) (H : Hp) : List V → List D → Prop
  | nil : RpL G M H [] []
  | cons {v : V} {d : D} {vs : List V} {ds : List D} : Rp G M H v d → RpL G M H vs ds → RpL G M H (v :: vs) (d :: ds)
end

/-- what a change of heap and mask must leave -/
structure Keeps (M M' : Addr → Prop) (H H' : Hp) : Prop where
  msk : ∀ a, ¬ M a → H a ≠ none → ¬ M' a
  keep : ∀ a u, ¬ M a → H a = some u → H' a = some u
section
variable {G : Gm} {M M' : Addr → Prop} {H H' : Hp}
theorem Rd.live {H : Hp} {a : Addr} {u : HO} (h : Rd H a u) : H a ≠ none := by
  rcases h with h | ⟨o, h⟩ <;> rw [h] <;> simp
theorem Keeps.rd (k : Keeps M M' H H') {a : Addr} {u : HO} (n : ¬ M a) (h : Rd H a u) : Rd H' a u := by
  rcases h with h | ⟨o, h⟩
  · exact .inl (k.keep a _ n h)
  · exact .inr ⟨o, k.keep a _ n h⟩
theorem TupAt.keeps (k : Keeps M M' H H') {a : Addr} {vs : List V} (h : TupAt G M H a vs) : TupAt G M' H' a vs :=
  ⟨k.msk a h.1 (by rw [h.2]; simp), k.keep a _ h.1 h.2⟩
theorem LstAt.keeps (k : Keeps M M' H H') {a : Addr} {vs : List V} (h : LstAt G M H a vs) : LstAt G M' H' a vs := by
  rcases h with ⟨n, h⟩ | h
  · refine .inl ⟨k.msk a n (Rd.live h), ?_⟩
    rcases h with h | ⟨o, h⟩
    · exact .inl (k.keep a _ n h)
    · exact .inr ⟨o, k.keep a _ n h⟩
  · exact .inr h
mutual
theorem Rp.keeps (k : Keeps M M' H H') : ∀ {v : V} {d : D}, Rp G M H v d → Rp G M' H' v d
  | _, _, .non => .non
  | _, _, .bl b => .bl b
  | _, _, .int i => .int i
  | _, _, .str x => .str x
  | _, _, .tup h l r => .tup (h.keeps k) l (RpL.keeps k r)
  | _, _, .lst n h l r => .lst (k.msk _ n (Rd.live h)) (k.rd n h) l (RpL.keeps k r)
  | _, _, .kt h r => .kt h (RpL.keeps k r)
  | _, _, .scr h l => .scr (h.keeps k) l
  | _, _, .dK n h l e r => .dK (k.msk _ n (Rd.live h)) (k.rd n h) l e (RpL.keeps k r)
  | _, _, .dT n h l e r => .dT (k.msk _ n (Rd.live h)) (k.rd n h) l e (RpL.keeps k r)
  | _, _, .ins n n' h h' e r => .ins (k.msk _ n (by rw [h]; simp)) (k.msk _ n' (by rw [h']; simp)) (k.keep _ _ n h) (k.keep _ _ n' h') e (RpL.keeps k r)
theorem RpL.keeps (k : Keeps M M' H H') : ∀ {vs : List V} {ds : List D}, RpL G M H vs ds → RpL G M' H' vs ds
  | _, _, .nil => .nil
  | _, _, .cons r t => .cons (Rp.keeps k r) (RpL.keeps k t)
end
theorem RpL.length : ∀ {vs : List V} {ds : List D}, RpL G M H vs ds → vs.length = ds.length
  | _, _, .nil => rfl
  | _, _, .cons _ t => by simp [RpL.length t]
theorem RpL.get : ∀ {vs : List V} {ds : List D} {i : Nat} {d : D}, RpL G M H vs ds → ds[i]? = some d → ∃ v, vs[i]? = some v ∧ Rp G M H v d
  | _, _, _, _, .nil, e => by simp at e
  | _, _, 0, _, .cons r _, e => by simp at e; subst e; exact ⟨_, rfl, r⟩
  | _, _, i + 1, d, .cons _ t, e => by
    obtain ⟨u, h1, h2⟩ := RpL.get (i := i) (d := d) t (by simpa using e)
    exact ⟨u, by simpa using h1, h2⟩
theorem RpL.getV : ∀ {vs : List V} {ds : List D} {i : Nat} {v : V}, RpL G M H vs ds → vs[i]? = some v → ∃ d, ds[i]? = some d ∧ Rp G M H v d
  | _, _, _, _, .nil, e => by simp at e
  | _, _, 0, _, .cons r _, e => by simp at e; subst e; exact ⟨_, rfl, r⟩
  | _, _, i + 1, d, .cons _ t, e => by
    obtain ⟨u, h1, h2⟩ := RpL.getV (i := i) (v := d) t (by simpa using e)
    exact ⟨u, by simpa using h1, h2⟩
theorem RpL.append : ∀ {vs ws : List V} {ds es : List D}, RpL G M H vs ds → RpL G M H ws es → RpL G M H (vs ++ ws) (ds ++ es)
  | _, _, _, _, .nil, s => s
  | _, _, _, _, .cons r t, s => .cons r (RpL.append t s)
theorem RpL.take : ∀ {vs : List V} {ds : List D} (n : Nat), RpL G M H vs ds → RpL G M H (vs.take n) (ds.take n)
  | _, _, 0, _ => .nil
  | _, _, _ + 1, .nil => .nil
  | _, _, n + 1, .cons r t => .cons r (RpL.take n t)
theorem RpL.drop : ∀ {vs : List V} {ds : List D} (n : Nat), RpL G M H vs ds → RpL G M H (vs.drop n) (ds.drop n)
  | _, _, 0, r => r
  | _, _, _ + 1, .nil => .nil
  | _, _, n + 1, .cons _ t => RpL.drop n t
theorem RpL.set {v : V} {d : D} (r : Rp G M H v d) : ∀ {vs : List V} {ds : List D} (i : Nat), RpL G M H vs ds → RpL G M H (vs.set i v) (ds.set i d)
  | _, _, _, .nil => .nil
  | _, _, 0, .cons _ t => .cons r t
  | _, _, i + 1, .cons q t => .cons q (RpL.set r i t)
theorem RpL.eraseIdx : ∀ {vs : List V} {ds : List D} (i : Nat), RpL G M H vs ds → RpL G M H (vs.eraseIdx i) (ds.eraseIdx i)
  | _, _, _, .nil => .nil
  | _, _, 0, .cons _ t => t
  | _, _, i + 1, .cons q t => .cons q (RpL.eraseIdx i t)
theorem RpL.one {v : V} {d : D} (r : Rp G M H v d) : RpL G M H [v] [d] := .cons r .nil
theorem RpL.flat {vs : List V} {ds : List D} (r : RpL G M H vs ds) : ∀ k : Nat, RpL G M H (List.replicate k vs).flatten (List.replicate k ds).flatten
  | 0 => .nil
  | k + 1 => by simp only [List.replicate_succ, List.flatten_cons]; exact r.append (RpL.flat r k)
theorem RpL.of : ∀ {vs : List V} {ds : List D}, vs.length = ds.length → (∀ (i : Nat) (v : V) (d : D), vs[i]? = some v → ds[i]? = some d → Rp G M H v d) → RpL G M H vs ds
  | [], [], _, _ => .nil
  | [], _ :: _, e, _ => by simp at e
  | _ :: _, [], e, _ => by simp at e
  | v :: vs, d :: ds, e, h => .cons (h 0 v d rfl rfl) (RpL.of (by simpa using e) fun i a b h1 h2 => h (i + 1) a b (by simpa using h1) (by simpa using h2))
end

/-! ### what changes -/
def CelR (G : Gm) (M : Addr → Prop) (H : Hp) (a : Addr) : D → Prop
  | .lst ds => ∃ vs, H a = some (.lst vs) ∧ vs.length ≤ sizeLine ∧ RpL G M H vs ds
  | .dK ds => ∃ kvs, H a = some (.dK kvs) ∧ kvs.length ≤ sizeLine ∧ kvs.map (·.1) = ds.map (·.1) ∧ RpL G M H (kvs.map (·.2)) (ds.map (·.2))
  | .dT ds => ∃ kvs, H a = some (.dT kvs) ∧ kvs.length ≤ sizeLine ∧ kvs.map (·.1) = ds.map (·.1) ∧ RpL G M H (kvs.map (·.2)) (ds.map (·.2))
  | .ins c ds => ∃ dx fs, ¬ M dx ∧ H a = some (.ins (G.cls c) dx fs) ∧ H dx = some (.own a) ∧ fs.map (·.1) = ds.map (·.1) ∧ RpL G M H (fs.map (·.2)) (ds.map (·.2))
  | .lk (.dK ds) => ∃ od kvs, H a = some (.frz od (.dK kvs)) ∧ kvs.length ≤ sizeLine ∧ kvs.map (·.1) = ds.map (·.1) ∧ RpL G M H (kvs.map (·.2)) (ds.map (·.2))
  | .lk (.dT ds) => ∃ od kvs, H a = some (.frz od (.dT kvs)) ∧ kvs.length ≤ sizeLine ∧ kvs.map (·.1) = ds.map (·.1) ∧ RpL G M H (kvs.map (·.2)) (ds.map (·.2))
  | _ => False
theorem CelR.lk_inv {G : Gm} {M : Addr → Prop} {H : Hp} {a : Addr} {d : D} (h : CelR G M H a (.lk d)) : (∃ ds, d = .dK ds) ∨ ∃ ds, d = .dT ds := by
  cases d with
  | dK ds => exact .inl ⟨_, rfl⟩
  | dT ds => exact .inr ⟨_, rfl⟩
  | _ => exact h.elim
theorem CelR.keeps {G : Gm} {M M' : Addr → Prop} {H H' : Hp} {a : Addr} {d : D} (k : Keeps M M' H H') (ha : ∀ u, H a = some u → H' a = some u) (h : CelR G M H a d) : CelR G M' H' a d := by
  cases d with
  | lst ds => obtain ⟨vs, h1, h2, h3⟩ := h; exact ⟨vs, ha _ h1, h2, h3.keeps k⟩
  | dK ds => obtain ⟨vs, h1, h2, h3, h4⟩ := h; exact ⟨vs, ha _ h1, h2, h3, h4.keeps k⟩
  | dT ds => obtain ⟨vs, h1, h2, h3, h4⟩ := h; exact ⟨vs, ha _ h1, h2, h3, h4.keeps k⟩
  | ins c ds => obtain ⟨dx, fs, n, h1, h2, h3, h4⟩ := h; exact ⟨dx, fs, k.msk _ n (by rw [h2]; simp), ha _ h1, k.keep _ _ n h2, h3, h4.keeps k⟩
  | lk d =>
    rcases h.lk_inv with ⟨ds, rfl⟩ | ⟨ds, rfl⟩
    · obtain ⟨od, vs, h1, h2, h3, h4⟩ := h; exact ⟨od, vs, ha _ h1, h2, h3, h4.keeps k⟩
    · obtain ⟨od, vs, h1, h2, h3, h4⟩ := h; exact ⟨od, vs, ha _ h1, h2, h3, h4.keeps k⟩
  | non => exact h.elim
  | bl b => exact h.elim
  | int b => exact h.elim
  | str b => exact h.elim
  | tup b => exact h.elim
  | scr b => exact h.elim
  | kt b => exact h.elim
theorem CelR.live {G : Gm} {M : Addr → Prop} {H : Hp} {a : Addr} {d : D} (h : CelR G M H a d) : H a ≠ none := by
  cases d with
  | lst ds => obtain ⟨vs, h1, _⟩ := h; rw [h1]; simp
  | dK ds => obtain ⟨vs, h1, _⟩ := h; rw [h1]; simp
  | dT ds => obtain ⟨vs, h1, _⟩ := h; rw [h1]; simp
  | ins c ds => obtain ⟨dx, fs, _, h1, _⟩ := h; rw [h1]; simp
  | lk d =>
    rcases h.lk_inv with ⟨ds, rfl⟩ | ⟨ds, rfl⟩
    · obtain ⟨od, vs, h1, _⟩ := h; rw [h1]; simp
    · obtain ⟨od, vs, h1, _⟩ := h; rw [h1]; simp
  | non => exact h.elim
  | bl b => exact h.elim
  | int b => exact h.elim
  | str b => exact h.elim
  | tup b => exact h.elim
  | scr b => exact h.elim
  | kt b => exact h.elim
/-- what was held changes no more -/
theorem CelR.rp {G : Gm} {M : Addr → Prop} {H : Hp} {a : Addr} {d : D} (h : CelR G M H a d) (n : ¬ M a) : Rp G M H (.ref a) (unlk d) := by
  cases d with
  | lk d =>
    rcases h.lk_inv with ⟨ds, rfl⟩ | ⟨ds, rfl⟩
    · obtain ⟨od, vs, h1, h2, h3, h4⟩ := h; exact .dK n (.inr ⟨od, h1⟩) h2 h3 h4
    · obtain ⟨od, vs, h1, h2, h3, h4⟩ := h; exact .dT n (.inr ⟨od, h1⟩) h2 h3 h4
  | lst ds => obtain ⟨vs, h1, h2, h3⟩ := h; exact .lst n (.inl h1) h2 h3
  | dK ds => obtain ⟨vs, h1, h2, h3, h4⟩ := h; exact .dK n (.inl h1) h2 h3 h4
  | dT ds => obtain ⟨vs, h1, h2, h3, h4⟩ := h; exact .dT n (.inl h1) h2 h3 h4
  | ins c ds => obtain ⟨dx, fs, m, h1, h2, h3, h4⟩ := h; exact .ins n m h1 h2 h3 h4
  | non => exact h.elim
  | bl b => exact h.elim
  | int b => exact h.elim
  | str b => exact h.elim
  | tup b => exact h.elim
  | scr b => exact h.elim
  | kt b => exact h.elim

/-- no tuple -/
def noTup : HO → Bool
  | .tup _ => false
  | _ => true
structure StR (G : Gm) (φ : List Addr) (M : Addr → Prop) (H : Hp) (C : Store) : Prop where
  len : φ.length = C.length
  nd : φ.Nodup
  sub : ∀ a ∈ φ, M a
  live : ∀ a, M a → H a ≠ none
  cel : ∀ (n : Nat) (d : D) (a : Addr), C[n]? = some d → φ[n]? = some a → CelR G M H a d
  mt : ∀ a, M a → ∀ u, H a = some u → noTup u = true
def SvR (G : Gm) (φ : List Addr) (M : Addr → Prop) (H : Hp) (v : V) : Sv → Prop
  | .dat d => Rp G M H v d
  | .cel n => ∃ a, φ[n]? = some a ∧ v = .ref a
inductive SvsR (G : Gm) (φ : List Addr) (M : Addr → Prop) (H : Hp) : List V → List Sv → Prop
  | nil : SvsR G φ M H [] []
  | cons {v : V} {s : Sv} {vs : List V} {ss : List Sv} : SvR G φ M H v s → SvsR G φ M H vs ss → SvsR G φ M H (v :: vs) (s :: ss)
structure EnvR (G : Gm) (φ : List Addr) (M : Addr → Prop) (H : Hp) (σ : L2.St) (ρ : Env) : Prop where
  len : ρ.length = σ.length
  at_ : ∀ (i : Nat) (s : Sv), ρ[i]? = some (some s) → ∃ v, σ[i]? = some (some v) ∧ SvR G φ M H v s

/-- from one state of heap, mask and things that change to a later one -/
structure Grow (φ : List Addr) (M : Addr → Prop) (H : Hp) (φ' : List Addr) (M' : Addr → Prop) (H' : Hp) : Prop where
  pre : ∃ ps, φ' = φ ++ ps ∧ ∀ p ∈ ps, H p = none
  keep : ∀ a u, H a = some u → a ∉ φ → H' a = some u
  live : ∀ a, H a ≠ none → H' a ≠ none
  up : ∀ a, M a → M' a
  new : ∀ a, M' a → M a ∨ H a = none
section
variable {G : Gm} {φ φ' φ'' : List Addr} {M M' M'' : Addr → Prop} {H H' H'' : Hp}
theorem Grow.refl : Grow φ M H φ M H := ⟨⟨[], by simp, fun _ h => by cases h⟩, fun _ _ h _ => h, fun _ h => h, fun _ h => h, fun _ h => .inl h⟩
theorem Grow.trans (a : Grow φ M H φ' M' H') (b : Grow φ' M' H' φ'' M'' H'') : Grow φ M H φ'' M'' H'' where
  pre := by
    obtain ⟨ps, e1, h1⟩ := a.pre
    obtain ⟨qs, e2, h2⟩ := b.pre
    refine ⟨ps ++ qs, by rw [e2, e1, List.append_assoc], fun p hp => ?_⟩
    rcases List.mem_append.mp hp with z | z
    · exact h1 p z
    · exact Classical.byContradiction fun w => a.live p w (h2 p z)
  keep := fun c u e hc => b.keep c u (a.keep c u e hc) fun z => by
    obtain ⟨ps, e1, h1⟩ := a.pre
    rw [e1] at z
    rcases List.mem_append.mp z with z | z
    · exact hc z
    · rw [h1 c z] at e; cases e
  live := fun c h => b.live c (a.live c h)
  up := fun c h => b.up c (a.up c h)
  new := fun c h => by
    rcases b.new c h with h | h
    · exact a.new c h
    · exact .inr (Classical.byContradiction fun z => a.live c z h)
theorem Grow.keeps (g : Grow φ M H φ' M' H') (sub : ∀ a ∈ φ, M a) : Keeps M M' H H' :=
  ⟨fun a n l z => by
    rcases g.new a z with z | z
    · exact n z
    · exact l z, fun a u n e => g.keep a u e fun z => n (sub a z)⟩
/-- a new object -/
theorem Grow.laid {p : Addr} {o : HO} (hp : H p = none) : Grow φ M H φ M (upd H p o) :=
  ⟨⟨[], by simp, fun _ h => by cases h⟩, fun a u e _ => by rw [upd_ne (ne_of_none e hp)]; exact e, fun a h => by
    by_cases z : a = p
    · subst z; rw [upd_same]; simp
    · rw [upd_ne z]; exact h, fun _ h => h, fun _ h => .inl h⟩
/-- one of ours is changed -/
theorem Grow.wrote {p : Addr} {o : HO} (hp : p ∈ φ) : Grow φ M H φ M (upd H p o) :=
  ⟨⟨[], by simp, fun _ h => by cases h⟩, fun a u e ha => by rw [upd_ne (fun z => ha (by rw [z]; exact hp))]; exact e, fun a h => by
    by_cases z : a = p
    · subst z; rw [upd_same]; simp
    · rw [upd_ne z]; exact h, fun _ h => h, fun _ h => .inl h⟩
theorem Grow.at_ (g : Grow φ M H φ' M' H') {n : Nat} {a : Addr} (h : φ[n]? = some a) : φ'[n]? = some a := by
  obtain ⟨ps, e, _⟩ := g.pre
  rw [e, List.getElem?_append_left (List.getElem?_eq_some_iff.mp h).1]
  exact h
theorem SvR.keeps {v : V} {s : Sv} (h : SvR G φ M H v s) (k : Keeps M M' H H') (hφ : ∀ (n : Nat) (a : Addr), s = .cel n → φ[n]? = some a → φ'[n]? = some a) : SvR G φ' M' H' v s := by
  cases s with
  | dat d => exact Rp.keeps k h
  | cel n => obtain ⟨a, h1, h2⟩ := h; exact ⟨a, hφ n a rfl h1, h2⟩
theorem SvR.grow {v : V} {s : Sv} (h : SvR G φ M H v s) (g : Grow φ M H φ' M' H') (sub : ∀ a ∈ φ, M a) : SvR G φ' M' H' v s := h.keeps (g.keeps sub) fun _ _ _ e => g.at_ e
theorem SvsR.grow : ∀ {vs : List V} {ss : List Sv}, SvsR G φ M H vs ss → Grow φ M H φ' M' H' → (∀ a ∈ φ, M a) → SvsR G φ' M' H' vs ss
  | _, _, .nil, _, _ => .nil
  | _, _, .cons r t, g, s => .cons (SvR.grow r g s) (SvsR.grow t g s)
theorem EnvR.grow {σ : L2.St} {ρ : Env} (e : EnvR G φ M H σ ρ) (g : Grow φ M H φ' M' H') (sub : ∀ a ∈ φ, M a) : EnvR G φ' M' H' σ ρ :=
  ⟨e.len, fun i s h => let ⟨v, h1, h2⟩ := e.at_ i s h; ⟨v, h1, h2.grow g sub⟩⟩
theorem SvsR.length : ∀ {vs : List V} {ss : List Sv}, SvsR G φ M H vs ss → vs.length = ss.length
  | _, _, .nil => rfl
  | _, _, .cons _ t => by simp [SvsR.length t]
theorem SvsR.get : ∀ {vs : List V} {ss : List Sv} {i : Nat} {s : Sv}, SvsR G φ M H vs ss → ss[i]? = some s → ∃ v, vs[i]? = some v ∧ SvR G φ M H v s
  | _, _, _, _, .nil, e => by simp at e
  | _, _, 0, _, .cons r _, e => by simp at e; subst e; exact ⟨_, rfl, r⟩
  | _, _, i + 1, d, .cons _ t, e => by
    obtain ⟨u, h1, h2⟩ := SvsR.get (i := i) (s := d) t (by simpa using e)
    exact ⟨u, by simpa using h1, h2⟩
theorem SvsR.dats : ∀ {vs : List V} {ss : List Sv} {ds : List D}, SvsR G φ M H vs ss → dats ss = some ds → RpL G M H vs ds
  | _, _, _, .nil, e => by simp [DX.dats] at e; subst e; exact .nil
  | _, .dat d :: ss, ds, .cons r t, e => by
    unfold DX.dats at e
    obtain ⟨es, h, e⟩ := bn1_i e
    cases e
    exact .cons r (SvsR.dats t h)
  | _, .cel n :: ss, ds, .cons r t, e => by simp [DX.dats] at e

/-- a state in which all of ours stand where they stood -/
theorem StR.laid {C : Store} {p : Addr} {o : HO} (s : StR G φ M H C) (hp : H p = none) : StR G φ M (upd H p o) C := by
  have g : Grow φ M H φ M (upd H p o) := Grow.laid hp
  refine ⟨s.len, s.nd, s.sub, fun a h => g.live a (s.live a h), fun n d a h1 h2 => (s.cel n d a h1 h2).keeps (g.keeps s.sub) fun u e => ?_, fun a h u e => ?_⟩
  rotate_left
  · have z : a ≠ p := fun z => s.live a h (by rw [z]; exact hp)
    rw [upd_ne z] at e; exact s.mt a h u e
  rw [upd_ne (ne_of_none e hp)]; exact e
theorem StR.nm {C : Store} {p : Addr} (s : StR G φ M H C) (hp : H p = none) : ¬ M p := fun z => s.live p z hp
/-- what a slot's value stands for, as it is now -/
theorem StR.see_rd {C : Store} {v : V} {x : Sv} {d : D} (s : StR G φ M H C) (r : SvR G φ M H v x) (e : see C x = some d) :
    (x = .dat d ∧ Rp G M H v d) ∨ ∃ n a c, x = .cel n ∧ v = .ref a ∧ φ[n]? = some a ∧ C[n]? = some c ∧ d = unlk c ∧ CelR G M H a c := by
  cases x with
  | dat d' => cases e; exact .inl ⟨rfl, r⟩
  | cel n =>
    obtain ⟨a, h1, h2⟩ := r
    have e' : (C[n]?).map unlk = some d := e
    cases hc : C[n]? with
    | none => rw [hc] at e'; cases e'
    | some c =>
      rw [hc] at e'
      cases e'
      exact .inr ⟨n, a, c, rfl, h2, h1, hc, rfl, s.cel n c a hc h1⟩
/-- for reading alone: whatever the mask -/
theorem StR.see_rp {C : Store} {v : V} {x : Sv} {d : D} (s : StR G φ M H C) (r : SvR G φ M H v x) (e : see C x = some d) : Rp G (fun _ => False) H v d := by
  have k : Keeps M (fun _ => False) H H := ⟨fun _ _ _ z => z, fun _ _ _ e => e⟩
  rcases s.see_rd r e with ⟨_, h⟩ | ⟨n, a, c, _, rfl, _, _, rfl, h⟩
  · exact h.keeps k
  · exact (h.keeps k fun _ e => e).rp fun z => z
theorem CelR.nt {a : Addr} {d : D} (h : CelR G M H a d) : ∀ u, H a = some u → noTup u = true := by
  intro u e
  cases d with
  | lst ds => obtain ⟨vs, h1, _⟩ := h; rw [h1] at e; cases e; rfl
  | dK ds => obtain ⟨vs, h1, _⟩ := h; rw [h1] at e; cases e; rfl
  | dT ds => obtain ⟨vs, h1, _⟩ := h; rw [h1] at e; cases e; rfl
  | ins c ds => obtain ⟨dx, fs, _, h1, _⟩ := h; rw [h1] at e; cases e; rfl
  | lk d =>
    rcases h.lk_inv with ⟨ds, rfl⟩ | ⟨ds, rfl⟩
    · obtain ⟨od, vs, h1, _⟩ := h; rw [h1] at e; cases e; rfl
    · obtain ⟨od, vs, h1, _⟩ := h; rw [h1] at e; cases e; rfl
  | non => exact h.elim
  | bl b => exact h.elim
  | int b => exact h.elim
  | str b => exact h.elim
  | tup b => exact h.elim
  | scr b => exact h.elim
  | kt b => exact h.elim
/-- a smaller mask -/
theorem StR.less {C : Store} (s : StR G φ M' H C) (up : ∀ a, M a → M' a) (sub : ∀ a ∈ φ, M a) : StR G φ M H C :=
  ⟨s.len, s.nd, sub, fun a h => s.live a (up a h), fun n d a h1 h2 => (s.cel n d a h1 h2).keeps ⟨fun a n _ z => n (up a z), fun _ _ _ e => e⟩ fun _ e => e, fun a h u e => s.mt a (up a h) u e⟩
/-- a new object, masked at once -/
theorem keepsM {p : Addr} {o : HO} (hp : H p = none) : Keeps M (fun a => M a ∨ a = p) H (upd H p o) :=
  ⟨fun a n l z => by
    rcases z with z | z
    · exact n z
    · rw [z] at l; exact l hp, fun a u n e => by rw [upd_ne (ne_of_none e hp)]; exact e⟩
theorem StR.laidM {C : Store} {p : Addr} {o : HO} (s : StR G φ M H C) (hp : H p = none) (ho : noTup o = true := by rfl) : StR G φ (fun a => M a ∨ a = p) (upd H p o) C :=
  ⟨s.len, s.nd, fun a h => .inl (s.sub a h), fun a h => by
    by_cases z : a = p
    · subst z; rw [upd_same]; simp
    · rw [upd_ne z]
      rcases h with h | h
      · exact s.live a h
      · exact absurd h z, fun n d a h1 h2 => (s.cel n d a h1 h2).keeps (keepsM hp) fun u e => (by rw [upd_ne (ne_of_none e hp)]; exact e), fun a h u e => by
    by_cases z : a = p
    · subst z; rw [upd_same] at e; cases e; exact ho
    · rw [upd_ne z] at e
      rcases h with h | h
      · exact s.mt a h u e
      · exact absurd h z⟩
/-- what is masked and none of ours is changed -/
theorem keepsW {p : Addr} {o : HO} (hp : M p) : Keeps M M H (upd H p o) := ⟨fun a n _ => n, fun a u n e => by rw [upd_ne (fun z => n (by rw [z]; exact hp))]; exact e⟩
theorem StR.wroteM {C : Store} {p : Addr} {o : HO} (s : StR G φ M H C) (hp : M p) (hn : p ∉ φ) (ho : noTup o = true := by rfl) : StR G φ M (upd H p o) C :=
  ⟨s.len, s.nd, s.sub, fun a h => by
    by_cases z : a = p
    · subst z; rw [upd_same]; simp
    · rw [upd_ne z]; exact s.live a h, fun n d a h1 h2 => (s.cel n d a h1 h2).keeps (keepsW hp) fun u e => by
      rw [upd_ne (fun z => hn (by rw [← z]; exact List.mem_of_getElem? h2))]; exact e, fun a h u e => by
    by_cases z : a = p
    · subst z; rw [upd_same] at e; cases e; exact ho
    · rw [upd_ne z] at e; exact s.mt a h u e⟩
end
end DX

/-! DSim: readings of expressions, and what they reckon. -/
namespace DX
open PySem PySem.Spec L2

/-- an expression's change: the mask and the addresses stay -/
structure Ext (φ : List Addr) (H H' : Hp) : Prop where
  keep : ∀ a u, H a = some u → a ∉ φ → H' a = some u
  live : ∀ a, H a ≠ none → H' a ≠ none
section
variable {G : Gm} {φ φ' : List Addr} {M M' : Addr → Prop} {H H' H'' : Hp} {C C' : Store} {σ : L2.St} {ρ : Env}
theorem Ext.refl : Ext φ H H := ⟨fun _ _ h _ => h, fun _ h => h⟩
theorem Ext.trans (a : Ext φ H H') (b : Ext φ H' H'') : Ext φ H H'' := ⟨fun c u e n => b.keep c u (a.keep c u e n) n, fun c h => b.live c (a.live c h)⟩
theorem Ext.grow (e : Ext φ H H') : Grow φ M H φ M H' := ⟨⟨[], by simp, fun _ h => by cases h⟩, e.keep, e.live, fun _ h => h, fun _ h => .inl h⟩
theorem Ext.laid {p : Addr} {o : HO} (hp : H p = none) : Ext φ H (upd H p o) := let g : Grow φ (fun _ => False) H φ (fun _ => False) (upd H p o) := Grow.laid hp; ⟨g.keep, g.live⟩
theorem Ext.wrote {p : Addr} {o : HO} (hp : p ∈ φ) : Ext φ H (upd H p o) := let g : Grow φ (fun _ => False) H φ (fun _ => False) (upd H p o) := Grow.wrote hp; ⟨g.keep, g.live⟩
theorem Ext.keeps (e : Ext φ H H') (sub : ∀ a ∈ φ, M a) : Keeps M M H H' := e.grow.keeps sub
theorem Ext.none_ (e : Ext φ H H') {p : Addr} (h : H' p = none) : H p = none := Classical.byContradiction fun z => e.live p z h
theorem EnvR.ext (r : EnvR G φ M H σ ρ) (e : Ext φ H H') (sub : ∀ a ∈ φ, M a) : EnvR G φ M H' σ ρ := r.grow e.grow sub
theorem SvR.ext {v : V} {s : Sv} (r : SvR G φ M H v s) (e : Ext φ H H') (sub : ∀ a ∈ φ, M a) : SvR G φ M H' v s := r.grow e.grow sub
end

def SimE (G : Gm) (t : TE) (f : SE) : Prop :=
  ∀ φ M H C σ ρ s C', EnvR G φ M H σ ρ → StR G φ M H C → f ρ C = some (s, C') → ∀ Q : VK, (∀ v H', Ext φ H H' → StR G φ M H' C' → SvR G φ M H' v s → Q v H') → t σ H Q
def SimT (G : Gm) (t : TT) (f : ST) : Prop :=
  ∀ φ M H C σ ρ b C', EnvR G φ M H σ ρ → StR G φ M H C → f ρ C = some (b, C') → ∀ Q : Bool → Hp → Prop, (∀ H', Ext φ H H' → StR G φ M H' C' → Q b H') → t σ H Q
def SimA (G : Gm) (t : TA) (f : SA) : Prop :=
  ∀ φ M H C σ ρ ss C', EnvR G φ M H σ ρ → StR G φ M H C → f ρ C = some (ss, C') → ∀ Q : List V → Hp → Prop, (∀ vs H', Ext φ H H' → StR G φ M H' C' → SvsR G φ M H' vs ss → Q vs H') → t σ H Q
/-- a new object, that nothing else knows -/
def SimN (G : Gm) (t : TE) (f : SN) : Prop :=
  ∀ φ M H C σ ρ d C', EnvR G φ M H σ ρ → StR G φ M H C → f ρ C = some (d, C') → ∀ Q : VK, (∀ p H', H p = none → Ext φ H H' → StR G φ (fun a => M a ∨ a = p) H' C' → CelR G (fun a => M a ∨ a = p) H' p d → Q (.ref p) H') → t σ H Q

section
variable {G : Gm}
theorem unlk_of {d : D} (h : ∀ e, d ≠ .lk e) : unlk d = d := by
  cases d <;> first | rfl | exact absurd rfl (h _)
theorem SimN.e {t : TE} {f : SN} (h : SimN G t f) : SimE G t (eFr f) := by
  intro φ M H C σ ρ s C' he hs e Q hQ
  obtain ⟨d, C1, h1, e⟩ := bnd_i e
  obtain ⟨nl, e⟩ := gd_i e
  cases e
  refine h φ M H C σ ρ d C' he hs h1 Q fun p H' hp x hs' hc => hQ _ _ x (hs'.less (fun _ h => .inl h) hs.sub) ?_
  have k : Keeps (fun a => M a ∨ a = p) M H' H' := ⟨fun a n _ z => n (.inl z), fun _ _ _ e => e⟩
  have r := (hc.keeps k fun _ e => e).rp (hs.nm hp)
  rw [unlk_of fun x z => by subst z; cases nl] at r
  exact r

/-! ### names, constants -/
theorem sim_var {i : Nat} : SimE G (tVar i) (eVar i) := by
  intro φ M H C σ ρ s C' he hs e Q hQ
  obtain ⟨v, h1, e⟩ := bn1_i e
  cases e
  have h2 : ρ[i]? = some (some s) := by
    cases z : ρ[i]? with
    | none => rw [z] at h1; cases h1
    | some o => rw [z] at h1; cases o with
      | none => cases h1
      | some x => cases h1; rfl
  obtain ⟨w, h3, h4⟩ := he.at_ i s h2
  exact ⟨w, h3, hQ w H Ext.refl hs h4⟩
theorem sim_c {v : V} {d : D} (h : ∀ M H, Rp G M H v d) : SimE G (tC v) (eC d) := by
  intro φ M H C σ ρ s C' he hs e Q hQ
  cases e
  exact hQ v H Ext.refl hs (h M H)
theorem sim_int {i : Int} : SimE G (tC (.int i)) (eC (.int i)) := sim_c fun _ _ => .int i
theorem sim_bl {i : Bool} : SimE G (tC (.bl i)) (eC (.bl i)) := sim_c fun _ _ => .bl i
theorem sim_str {i : Str} : SimE G (tC (.str i)) (eC (.str i)) := sim_c fun _ _ => .str i
theorem sim_non : SimE G (tC .non) (eC .non) := sim_c fun _ _ => .non

/-! ### two values, one value: what a rule of values asks -/
/-- a rule over two values: what it reckons of two data -/
def Sim2 (G : Gm) (r : R2) (g : D → D → Option D) : Prop :=
  ∀ φ M H C x y d e z, StR G φ M H C → Rp G (fun _ => False) H x d → Rp G (fun _ => False) H y e → g d e = some z → ∀ Q : VK, (∀ v H', Ext φ H H' → StR G φ M H' C → Rp G M H' v z → Q v H') → r x y H Q
/-- .. where a part of the data is handed on -/
def Sim2M (G : Gm) (r : R2) (g : D → D → Option D) : Prop :=
  ∀ φ M H C x y sx sy d e z, StR G φ M H C → SvR G φ M H x sx → SvR G φ M H y sy → see C sx = some d → see C sy = some e → g d e = some z → ∀ Q : VK, (∀ v H', Ext φ H H' → StR G φ M H' C → Rp G M H' v z → Q v H') → r x y H Q
theorem Sim2.m {r : R2} {g : D → D → Option D} (h : Sim2 G r g) : Sim2M G r g := by
  intro φ M H C x y sx sy d e z hs rx ry ex ey hg Q hQ
  exact h φ M H C x y d e z hs (hs.see_rp rx ex) (hs.see_rp ry ey) hg Q hQ
theorem sim_op {r : R2} {ta tb : TE} {f g : SE} {k : D → D → Option D} (hr : Sim2M G r k) (ha : SimE G ta f) (hb : SimE G tb g) : SimE G (tOp r ta tb) (eBin k f g) := by
  intro φ M H C σ ρ s C' he hs e Q hQ
  obtain ⟨v, C1, h1, e⟩ := bnd_i e
  obtain ⟨w, C2, h2, e⟩ := bnd_i e
  obtain ⟨d, h3, e⟩ := bn1_i e
  obtain ⟨d', h4, e⟩ := bn1_i e
  obtain ⟨z, h5, e⟩ := bn1_i e
  cases e
  refine ha φ M H C σ ρ v C1 he hs h1 _ fun x H1 x1 s1 r1 => ?_
  refine hb φ M H1 C1 σ ρ w C' (he.ext x1 hs.sub) s1 h2 _ fun y H2 x2 s2 r2 => ?_
  exact hr φ M H2 C' x y v w d d' z s2 (r1.ext x2 hs.sub) r2 h3 h4 h5 Q fun u H3 x3 s3 r3 => hQ u H3 ((x1.trans x2).trans x3) s3 r3
def Sim1 (G : Gm) (r : V → Hp → VK → Prop) (g : D → Option D) : Prop :=
  ∀ φ M H C x sx d z, StR G φ M H C → SvR G φ M H x sx → see C sx = some d → g d = some z → ∀ Q : VK, (∀ v H', Ext φ H H' → StR G φ M H' C → Rp G M H' v z → Q v H') → r x H Q
theorem sim_un {r : V → Hp → VK → Prop} {ta : TE} {f : SE} {k : D → Option D} (hr : Sim1 G r k) (ha : SimE G ta f) : SimE G (tUn r ta) (eUn k f) := by
  intro φ M H C σ ρ s C' he hs e Q hQ
  obtain ⟨v, C1, h1, e⟩ := bnd_i e
  obtain ⟨d, h2, e⟩ := bn1_i e
  obtain ⟨z, h3, e⟩ := bn1_i e
  cases e
  refine ha φ M H C σ ρ v C' he hs h1 _ fun x H1 x1 s1 r1 => ?_
  exact hr φ M H1 C' x v d z s1 r1 h2 h3 Q fun u H3 x3 s3 r3 => hQ u H3 (x1.trans x3) s3 r3

/-! ### arguments -/
theorem sim_anil : SimA G tNil aNil := by
  intro φ M H C σ ρ ss C' he hs e Q hQ
  cases e
  exact hQ [] H Ext.refl hs .nil
theorem sim_acons {ta : TE} {tr : TA} {f : SE} {g : SA} (ha : SimE G ta f) (hr : SimA G tr g) : SimA G (tCons ta tr) (aCons f g) := by
  intro φ M H C σ ρ ss C' he hs e Q hQ
  obtain ⟨v, C1, h1, e⟩ := bnd_i e
  obtain ⟨vs, C2, h2, e⟩ := bnd_i e
  cases e
  refine ha φ M H C σ ρ v C1 he hs h1 _ fun x H1 x1 s1 r1 => ?_
  refine hr φ M H1 C1 σ ρ vs C' (he.ext x1 hs.sub) s1 h2 _ fun ys H2 x2 s2 r2 => ?_
  exact hQ _ H2 (x1.trans x2) s2 (.cons (r1.ext x2 hs.sub) r2)
/-- a built-in by values -/
def Sim1s (G : Gm) (r : List V → Hp → VK → Prop) (g : List D → Option D) : Prop :=
  ∀ φ M H C xs ss ds z, StR G φ M H C → SvsR G φ M H xs ss → sees C ss = some ds → g ds = some z → ∀ Q : VK, (∀ v H', Ext φ H H' → StR G φ M H' C → Rp G M H' v z → Q v H') → r xs H Q
theorem sim_b {r : List V → Hp → VK → Prop} {ta : TA} {a : SA} {k : List D → Option D} (hr : Sim1s G r k) (ha : SimA G ta a) : SimE G (tCB r ta) (eB k a) := by
  intro φ M H C σ ρ s C' he hs e Q hQ
  obtain ⟨ss, C1, h1, e⟩ := bnd_i e
  obtain ⟨ds, h2, e⟩ := bn1_i e
  obtain ⟨z, h3, e⟩ := bn1_i e
  cases e
  refine ha φ M H C σ ρ ss C' he hs h1 _ fun x H1 x1 s1 r1 => ?_
  exact hr φ M H1 C' x ss ds z s1 r1 h2 h3 Q fun u H3 x3 s3 r3 => hQ u H3 (x1.trans x3) s3 r3

/-! ### displays -/
theorem CelR.newL {φ : List Addr} {M : Addr → Prop} {H : Hp} {C : Store} {p : Addr} {vs : List V} {ds : List D} (hs : StR G φ M H C) (hp : H p = none) (l : vs.length ≤ sizeLine) (r : RpL G M H vs ds) :
    CelR G (fun a => M a ∨ a = p) (upd H p (.lst vs)) p (.lst ds) := by
  refine ⟨vs, upd_same, l, r.keeps ⟨fun a n h z => ?_, fun a u _ e => ?_⟩⟩
  · rcases z with z | z
    · exact n z
    · rw [z] at h; exact h hp
  · rw [upd_ne (ne_of_none e hp)]; exact e
theorem small_line {n : Nat} (h : n ≤ 1000) : n ≤ sizeLine := Nat.le_trans h (by decide)
theorem sim_nlst {ta : TA} {a : SA} (ha : SimA G ta a) : SimN G (tLst ta) (nLst a) := by
  intro φ M H C σ ρ d C' he hs e Q hQ
  obtain ⟨ss, C1, h1, e⟩ := bnd_i e
  obtain ⟨ds, h2, e⟩ := bn1_i e
  obtain ⟨h3, e⟩ := gd_i e
  cases e
  refine ha φ M H C σ ρ ss C' he hs h1 _ fun xs H1 x1 s1 r1 => ?_
  have r2 := r1.dats h2
  have l := r2.length
  refine ⟨small_line (by omega), fun p hp => ?_⟩
  exact hQ p _ (x1.none_ hp) (x1.trans (Ext.laid hp)) (s1.laidM hp) (CelR.newL s1 hp (small_line (by omega)) r2)
theorem sim_tup {ta : TA} {a : SA} (ha : SimA G ta a) : SimE G (tTup ta) (eTup a) := by
  intro φ M H C σ ρ d C' he hs e Q hQ
  obtain ⟨ss, C1, h1, e⟩ := bnd_i e
  obtain ⟨ds, h2, e⟩ := bn1_i e
  obtain ⟨h3, e⟩ := gd_i e
  cases e
  refine ha φ M H C σ ρ ss C' he hs h1 _ fun xs H1 x1 s1 r1 => ?_
  have r2 := r1.dats h2
  have l := r2.length
  refine ⟨small_line (by omega), fun p hp => ?_⟩
  have x2 : Ext φ H1 (upd H1 p (.tup xs)) := Ext.laid hp
  exact hQ _ _ (x1.trans x2) (s1.laid hp) (.tup ⟨s1.nm hp, upd_same⟩ (small_line (by omega)) (r2.keeps (x2.keeps s1.sub)))
end
end DX

/-! DOps: operators over data. -/
namespace DX
open PySem PySem.Spec L2

section
variable {G : Gm} {φ : List Addr} {M : Addr → Prop} {H : Hp} {C : Store} {x : V} {s : Sv}
abbrev M0 : Addr → Prop := fun _ => False
theorem StR.seeL {ds : List D} (st : StR G φ M H C) (r : SvR G φ M H x s) (e : see C s = some (.lst ds)) : ∃ a vs, x = .ref a ∧ Rd H a (.lst vs) ∧ vs.length ≤ sizeLine ∧ RpL G M H vs ds := by
  rcases st.see_rd r e with ⟨_, h⟩ | ⟨n, a, c, _, rfl, _, _, hu, h⟩
  · cases h with
    | lst n h l r => exact ⟨_, _, rfl, h, l, r⟩
  · cases c with
    | lst ds' =>
      cases hu
      obtain ⟨vs, h1, h2, h3⟩ := h
      exact ⟨a, vs, rfl, .inl h1, h2, h3⟩
    | lk d =>
      have hu' : D.lst ds = d := hu
      subst hu'
      exact h.elim
    | _ => cases hu
theorem StR.seeT {ds : List D} (st : StR G φ M H C) (r : SvR G φ M H x s) (e : see C s = some (.tup ds)) : ∃ a vs, x = .ref a ∧ TupAt G M H a vs ∧ vs.length ≤ sizeLine ∧ RpL G M H vs ds := by
  rcases st.see_rd r e with ⟨_, h⟩ | ⟨n, a, c, _, rfl, _, _, hu, h⟩
  · cases h with
    | tup h l r => exact ⟨_, _, rfl, h, l, r⟩
  · cases c with
    | lk d =>
      have hu' : D.tup ds = d := hu
      subst hu'
      exact h.elim
    | tup _ => exact h.elim
    | _ => cases hu
theorem Rp.intI {i : Int} (h : Rp G M H x (.int i)) : x = .int i := by cases h; rfl
theorem Rp.strI {i : Str} (h : Rp G M H x (.str i)) : x = .str i := by cases h; rfl
theorem Rp.blI {i : Bool} (h : Rp G M H x (.bl i)) : x = .bl i := by cases h; rfl
theorem Rp.nonI (h : Rp G M H x .non) : x = .non := by cases h; rfl
theorem RpL.ints : ∀ {vs : List V} {ns : List Int}, RpL G M H vs (ns.map D.int) → vs = ns.map V.int
  | _, [], h => by cases h; rfl
  | _, n :: ns, h => by cases h with | cons r t => rw [r.intI, RpL.ints t]; rfl
theorem RpL.strs : ∀ {vs : List V} {ns : List Str}, RpL G M H vs (ns.map D.str) → vs = ns.map V.str
  | _, [], h => by cases h; rfl
  | _, n :: ns, h => by cases h with | cons r t => rw [r.strI, RpL.strs t]; rfl
theorem RpL.bls : ∀ {vs : List V} {ns : List Bool}, RpL G M H vs (ns.map D.bl) → vs = ns.map V.bl
  | _, [], h => by cases h; rfl
  | _, n :: ns, h => by cases h with | cons r t => rw [r.blI, RpL.bls t]; rfl
end

/-! ### + -/
def rCatG : R2 := fun x y H Q => ∃ l b xs zs, x = .ref l ∧ y = .ref b ∧ Rd H l (.lst xs) ∧ Rd H b (.lst zs) ∧ xs.length + zs.length ≤ sizeLine ∧ ∀ p, H p = none → Q (.ref p) (upd H p (.lst (xs ++ zs)))
theorem op_catG {X : Cx} : OpR X (binaryOp .Add) rCatG := by
  intro pins s σ H x y v u Q I rx ry h
  obtain ⟨l, b, xs, zs, rfl, rfl, hH, hB, hz, q⟩ := h
  cases rx
  cases ry
  obtain ⟨z, its, n, r, e⟩ := hH.ok I.hok
  obtain ⟨z2, its2, n2, r2, e2⟩ := hB.ok I.hok
  have l1 := r.length
  have l2 := r2.length
  refine PySem.P.add_list e e2 ?_ (by rw [List.size_toArray, List.size_toArray]; omega)
  have ea : its.toArray ++ its2.toArray = (its ++ its2).toArray := by simp
  rw [ea]
  exact ⟨.ref _, _, I.lnew (t' := s.toks) (r.append r2) (by rw [List.length_append]; omega), rfl, q _ I.fresh⟩
def rAdd0 (K : PySem.W.Frag) : R2 := fun x y H Q =>
  (∃ i j, x = .int i ∧ y = .int j ∧ Q (.int (i + j)) H) ∨ (∃ i j, x = .str i ∧ y = .str j ∧ i.length + j.length ≤ sizeLine ∧ Q (.str (i ++ j)) H) ∨ rCatA K x y H Q ∨ rCatG x y H Q
theorem op_add0 {X : Cx} : OpR X (binaryOp .Add) (rAdd0 X.K) := op_add.or (op_add_str.or (op_catA.or op_catG))
def dAdd : D → D → Option D
  | .int i, .int j => some (.int (i + j))
  | .str x, .str y => gd (x.length + y.length ≤ sizeLine) (some (.str (x ++ y)))
  | .tup xs, .tup ys => gd (xs.length + ys.length ≤ sizeLine) (some (.tup (xs ++ ys)))
  | .lst xs, .lst ys => gd (xs.length + ys.length ≤ sizeLine) (some (.lst (xs ++ ys)))
  | _, _ => none
def dCat : D → D → Option D
  | .lst xs, .lst ys => gd (xs.length + ys.length ≤ sizeLine) (some (.lst (xs ++ ys)))
  | _, _ => none
section
variable {G : Gm}
theorem sim_cat {φ : List Addr} {M : Addr → Prop} {H : Hp} {C : Store} {x y : V} {sx sy : Sv} {d e z : D} (hs : StR G φ M H C) (rx : SvR G φ M H x sx) (ry : SvR G φ M H y sy) (ex : see C sx = some d) (ey : see C sy = some e) (hg : dCat d e = some z) :
    ∃ vs zs, z = .lst zs ∧ vs.length ≤ sizeLine ∧ RpL G M H vs zs ∧ ∀ Q : VK, (∀ p, H p = none → Q (.ref p) (upd H p (.lst vs))) → rCatG x y H Q := by
  unfold dCat at hg
  split at hg
  · rename_i xs ys
    obtain ⟨hl, hg⟩ := gd_i hg
    cases hg
    obtain ⟨a, vs, rfl, h1, l1, r1⟩ := hs.seeL rx ex
    obtain ⟨b, ws, rfl, h2, l2, r2⟩ := hs.seeL ry ey
    have e1 := r1.length
    have e2 := r2.length
    refine ⟨vs ++ ws, _, rfl, by rw [List.length_append]; omega, r1.append r2, fun Q hQ => ⟨a, b, vs, ws, rfl, rfl, h1, h2, by omega, hQ⟩⟩
  · cases hg
theorem sim2_add : Sim2M G (rAdd0 G.K) dAdd := by
  intro φ M H C x y sx sy d e z hs rx ry ex ey hg Q hQ
  cases d with
  | int i =>
    cases e with
    | int j =>
      cases hg
      have h1 := (hs.see_rp rx ex).intI
      have h2 := (hs.see_rp ry ey).intI
      exact .inl ⟨i, j, h1, h2, hQ _ H Ext.refl hs (.int _)⟩
    | _ => cases hg
  | str i =>
    cases e with
    | str j =>
      obtain ⟨hl, hg⟩ := gd_i hg
      cases hg
      have h1 := (hs.see_rp rx ex).strI
      have h2 := (hs.see_rp ry ey).strI
      exact .inr (.inl ⟨i, j, h1, h2, hl, hQ _ H Ext.refl hs (.str _)⟩)
    | _ => cases hg
  | tup xs =>
    cases e with
    | tup ys =>
      obtain ⟨hl, hg⟩ := gd_i hg
      cases hg
      obtain ⟨a, vs, rfl, h1, l1, r1⟩ := hs.seeT rx ex
      obtain ⟨b, ws, rfl, h2, l2, r2⟩ := hs.seeT ry ey
      have e1 := r1.length
      have e2 := r2.length
      refine .inr (.inr (.inl ⟨a, b, vs, ws, rfl, rfl, h1.sq, h2.sq, by omega, fun z => ?_, fun z z2 => ?_, fun z z2 p hp => ?_⟩))
      · subst z
        cases r1
        exact hQ _ H Ext.refl hs (.tup h2 l2 r2)
      · subst z2
        cases r2
        exact hQ _ H Ext.refl hs (.tup h1 l1 (by simpa using r1))
      · have x2 : Ext φ H (upd H p (.tup (vs ++ ws))) := Ext.laid hp
        exact hQ _ _ x2 (hs.laid hp) (.tup ⟨hs.nm hp, upd_same⟩ (by rw [List.length_append]; omega) ((r1.append r2).keeps (x2.keeps hs.sub)))
    | _ => cases hg
  | lst xs =>
    cases e with
    | lst ys =>
      obtain ⟨vs, zs, rfl, l, r, h⟩ := sim_cat hs rx ry ex ey (show dCat (.lst xs) (.lst ys) = some z from hg)
      refine .inr (.inr (.inr (h Q fun p hp => ?_)))
      have x2 : Ext φ H (upd H p (.lst vs)) := Ext.laid hp
      exact hQ _ _ x2 (hs.laid hp) (.lst (hs.nm hp) (.inl upd_same) l (r.keeps (x2.keeps hs.sub)))
    | _ => cases hg
  | _ => cases hg
theorem sim_add {ta tb : TE} {f g : SE} (ha : SimE G ta f) (hb : SimE G tb g) : SimE G (tOp (rAdd0 G.K) ta tb) (eBin dAdd f g) := sim_op sim2_add ha hb
theorem sim_ncat {ta tb : TE} {f g : SE} (ha : SimE G ta f) (hb : SimE G tb g) : SimN G (tOp (rAdd0 G.K) ta tb) (nBin dCat f g) := by
  intro φ M H C σ ρ s C' he hs e Q hQ
  obtain ⟨v, C1, h1, e⟩ := bnd_i e
  obtain ⟨w, C2, h2, e⟩ := bnd_i e
  obtain ⟨d, h3, e⟩ := bn1_i e
  obtain ⟨d', h4, e⟩ := bn1_i e
  obtain ⟨z, h5, e⟩ := bn1_i e
  cases e
  refine ha φ M H C σ ρ v C1 he hs h1 _ fun x H1 x1 s1 r1 => ?_
  refine hb φ M H1 C1 σ ρ w C' (he.ext x1 hs.sub) s1 h2 _ fun y H2 x2 s2 r2 => ?_
  obtain ⟨vs, zs, rfl, l, r, h⟩ := sim_cat s2 (r1.ext x2 hs.sub) r2 h3 h4 h5
  refine .inr (.inr (.inr (h Q fun p hp => ?_)))
  exact hQ p _ ((x1.trans x2).none_ hp) ((x1.trans x2).trans (Ext.laid hp)) (s2.laidM hp) (CelR.newL s2 hp l r)

/-! ### ints -/
def dI (g : Int → Int → Option D) : D → D → Option D
  | .int i, .int j => g i j
  | _, _ => none
theorem dI_some {g : Int → Int → Option D} {d e z : D} (h : dI g d e = some z) : ∃ i j, d = .int i ∧ e = .int j ∧ g i j = some z := by
  cases d <;> cases e <;> first | exact ⟨_, _, rfl, rfl, h⟩ | cases h
def dSub : D → D → Option D := dI fun i j => some (.int (i - j))
instance {i j : Int} : Decidable (CMul i j) := inferInstanceAs (Decidable (_ ∨ _))
instance {i j : Int} : Decidable (CDivN i j) := inferInstanceAs (Decidable (_ ∧ _))
instance {i j : Int} : Decidable (CPow i j) := inferInstanceAs (Decidable (_ ∧ _))
def dDiv : D → D → Option D := dI fun i j => gd (CDivN i j) (some (.int (i.fdiv j)))
def dMod : D → D → Option D := dI fun i j => gd (j ≠ 0) (some (.int (i.fmod j)))
def dPow : D → D → Option D := dI fun i j => gd (CPow i j) (some (.int (i ^ j.toNat)))
def dLt : D → D → Option D := dI fun i j => some (.bl (decide (i < j)))
def dLe : D → D → Option D := dI fun i j => some (.bl (decide (i ≤ j)))
def dGt : D → D → Option D := dI fun i j => some (.bl (decide (j < i)))
def dGe : D → D → Option D := dI fun i j => some (.bl (decide (j ≤ i)))
theorem sim2_I {k : Int → Int → V} {k' : Int → Int → D} {c : Int → Int → Prop} [∀ i j, Decidable (c i j)] (hk : ∀ i j M H, Rp G M H (k i j) (k' i j)) : Sim2M G (rI c k) (dI fun i j => gd (c i j) (some (k' i j))) := by
  refine Sim2.m ?_
  intro φ M H C x y d e z hs rx ry hg Q hQ
  obtain ⟨i, j, rfl, rfl, h⟩ := dI_some hg
  obtain ⟨hc, h⟩ := gd_i h
  cases h
  exact ⟨i, j, rx.intI, ry.intI, hc, hQ _ H Ext.refl hs (hk i j M H)⟩
theorem sim2_I0 {k : Int → Int → V} {k' : Int → Int → D} (hk : ∀ i j M H, Rp G M H (k i j) (k' i j)) : Sim2M G (rI0 k) (dI fun i j => some (k' i j)) := by
  refine Sim2.m ?_
  intro φ M H C x y d e z hs rx ry hg Q hQ
  obtain ⟨i, j, rfl, rfl, h⟩ := dI_some hg
  cases h
  exact ⟨i, j, rx.intI, ry.intI, hQ _ H Ext.refl hs (hk i j M H)⟩
variable {ta tb : TE} {f g : SE}
theorem sim_sub (ha : SimE G ta f) (hb : SimE G tb g) : SimE G (tOp (rI0 fun i j => .int (i - j)) ta tb) (eBin dSub f g) := sim_op (sim2_I0 fun _ _ _ _ => .int _) ha hb
theorem sim_div (ha : SimE G ta f) (hb : SimE G tb g) : SimE G (tOp (rI CDivN fun i j => .int (i.fdiv j)) ta tb) (eBin dDiv f g) := sim_op (sim2_I fun _ _ _ _ => .int _) ha hb
theorem sim_mod (ha : SimE G ta f) (hb : SimE G tb g) : SimE G (tOp (rI (fun _ j => j ≠ 0) fun i j => .int (i.fmod j)) ta tb) (eBin dMod f g) := sim_op (sim2_I fun _ _ _ _ => .int _) ha hb
theorem sim_pow (ha : SimE G ta f) (hb : SimE G tb g) : SimE G (tOp (rI CPow fun i j => .int (i ^ j.toNat)) ta tb) (eBin dPow f g) := sim_op (sim2_I fun _ _ _ _ => .int _) ha hb
theorem sim_lt (ha : SimE G ta f) (hb : SimE G tb g) : SimE G (tOp (rI0 fun i j => .bl (decide (i < j))) ta tb) (eBin dLt f g) := sim_op (sim2_I0 fun _ _ _ _ => .bl _) ha hb
theorem sim_le (ha : SimE G ta f) (hb : SimE G tb g) : SimE G (tOp (rI0 fun i j => .bl (decide (i ≤ j))) ta tb) (eBin dLe f g) := sim_op (sim2_I0 fun _ _ _ _ => .bl _) ha hb
theorem sim_gt (ha : SimE G ta f) (hb : SimE G tb g) : SimE G (tOp (rI0 fun i j => .bl (decide (j < i))) ta tb) (eBin dGt f g) := sim_op (sim2_I0 fun _ _ _ _ => .bl _) ha hb
theorem sim_ge (ha : SimE G ta f) (hb : SimE G tb g) : SimE G (tOp (rI0 fun i j => .bl (decide (j ≤ i))) ta tb) (eBin dGe f g) := sim_op (sim2_I0 fun _ _ _ _ => .bl _) ha hb
def dNeg : D → Option D
  | .int i => some (.int (-i))
  | _ => none
theorem sim_neg (ha : SimE G ta f) : SimE G (tUn (rU fun i => .int (-i)) ta) (eUn dNeg f) := by
  refine sim_un ?_ ha
  intro φ M H C x sx d z hs rx ex hg Q hQ
  cases d with
  | int i => cases hg; exact ⟨i, (hs.see_rp rx ex).intI, hQ _ H Ext.refl hs (.int _)⟩
  | _ => cases hg

/-! ### * : ints, a list times an int -/
def rRepG : R2 := fun x y H Q => ∃ l k xs, x = .ref l ∧ y = .int k ∧ Rd H l (.lst xs) ∧ -(2 ^ 63) ≤ k ∧ k < 2 ^ 63 ∧ xs.length * k.toNat ≤ sizeLine ∧
  ∀ p, H p = none → Q (.ref p) (upd H p (.lst (List.replicate k.toNat xs).flatten))
theorem op_repG {X : Cx} : OpR X (binaryOp .Mult) rRepG := by
  intro pins s σ H x y v u Q I rx ry h
  obtain ⟨l, k, xs, rfl, rfl, hH, h1, h2, hz, q⟩ := h
  cases rx
  obtain ⟨t, rfl⟩ := ry
  obtain ⟨z, its, n, r, e⟩ := hH.ok I.hok
  have hl := r.length
  have hlen : its.toArray.size * k.toNat ≤ sizeLine := by rw [List.size_toArray, ← hl]; exact hz
  have hcap : ¬ its.toArray.size * k.toNat > (2 ^ 63 - 1) / 8 := by
    have : (sizeLine : Nat) ≤ (2 ^ 63 - 1) / 8 := by decide
    omega
  have hfit : ¬ (!Builtin.List.listFitsIndex k) = true := by
    rw [fitsIndex_both h1 h2]
    exact Bool.false_ne_true
  have hlong : ¬ Builtin.List.listTooLong (its.toArray.size * k.toNat) = true := by
    rw [notLongL hlen]
    exact Bool.false_ne_true
  have hnew : List.foldl (fun x1 x2 => x1 ++ x2) #[] (List.replicate (if its.toArray.isEmpty = true then 0 else k.toNat) its.toArray) = (List.replicate k.toNat its).flatten.toArray := by
    have f0 : ∀ m : Nat, List.foldl (fun x1 x2 => x1 ++ x2) #[] (List.replicate m its.toArray) = (List.replicate m its).flatten.toArray := fun m => by
      have := foldl_rep its m []
      rw [List.nil_append] at this
      exact this
    rw [f0]
    cases its with
    | nil => simp
    | cons a r' => rw [if_neg (by simp)]
  refine wpAny_binaryOp_repeat_ref (T := "list") (U := "int") (by decide) ⟨_, e, rfl⟩ (fun s' => typeIs_int s' k t) noFill_list_mul F.fills_int_mul F.slot_int_rmul repeat_list F.slot_int_index.lookup
    (call_meets F.slot_int_rmul (typeIs_int s k t) F.entry_int_rmul (F.args_int_rmul_2 _ _) (int___rmul___int_list k t l its.toArray n)
      ⟨e, rfl, ⟨_, e, rfl⟩, call_meets F.slot_list_mul ⟨_, e, rfl⟩ F.entry_list_mul (F.args_list_mul_2 _ _) (AutoListH.list___mul___list_int_3 l its.toArray n k t hfit hcap hlong) ⟨e, ?_⟩⟩)
  rw [hnew]
  exact ⟨.ref _, _, I.lnew (t' := s.toks) (r.rep k.toNat) (by rw [PyProof.Rows.lm_len_rep_flat, Nat.mul_comm]; exact hz), rfl, q _ I.fresh⟩
def rMul0 : R2 := fun x y H Q => rI CMul (fun i j => .int (i * j)) x y H Q ∨ rRepG x y H Q
theorem op_mul0 {X : Cx} : OpR X (binaryOp .Mult) rMul0 := op_mul.or op_repG
def dMul : D → D → Option D
  | .int i, .int j => gd (CMul i j) (some (.int (i * j)))
  | .lst xs, .int k => gd (k ≤ 1000000 ∧ -1000000 ≤ k ∧ xs.length * k.toNat ≤ sizeLine) (some (.lst (List.replicate k.toNat xs).flatten))
  | _, _ => none
theorem flat_len {α : Type} (xs : List α) : ∀ k : Nat, (List.replicate k xs).flatten.length = xs.length * k
  | 0 => by simp
  | k + 1 => by rw [List.replicate_succ, List.flatten_cons, List.length_append, flat_len xs k, Nat.mul_succ, Nat.add_comm]
theorem sim2_mul : Sim2M G rMul0 dMul := by
  intro φ M H C x y sx sy d e z hs rx ry ex ey hg Q hQ
  cases d with
  | int i =>
    cases e with
    | int j =>
      obtain ⟨hc, hg⟩ := gd_i hg
      cases hg
      exact .inl ⟨i, j, (hs.see_rp rx ex).intI, (hs.see_rp ry ey).intI, hc, hQ _ H Ext.refl hs (.int _)⟩
    | _ => cases hg
  | lst xs =>
    cases e with
    | int k =>
      obtain ⟨⟨h1, h2, hl⟩, hg⟩ := gd_i hg
      cases hg
      obtain ⟨a, vs, rfl, h3, l1, r1⟩ := hs.seeL rx ex
      have e1 := r1.length
      refine .inr ⟨a, k, vs, rfl, (hs.see_rp ry ey).intI, h3, by omega, by omega, by rw [e1]; exact hl, fun p hp => ?_⟩
      have x2 : Ext φ H (upd H p (.lst (List.replicate k.toNat vs).flatten)) := Ext.laid hp
      exact hQ _ _ x2 (hs.laid hp) (.lst (hs.nm hp) (.inl upd_same) (by rw [flat_len, e1]; exact hl) ((r1.flat _).keeps (x2.keeps hs.sub)))
    | _ => cases hg
  | _ => cases hg
theorem sim_mul (ha : SimE G ta f) (hb : SimE G tb g) : SimE G (tOp rMul0 ta tb) (eBin dMul f g) := sim_op sim2_mul ha hb

/-! ### ==, != -/
mutual
theorem Rp.dp {M : Addr → Prop} {H : Hp} : ∀ {v : V} {d : D}, Rp G M H v d → (toPy d).canLay0 = true → Dp G.K H v (toPy d)
  | _, _, .non, _ => by rw [toPy]; exact .non
  | _, _, .bl b, _ => by rw [toPy]; exact .bl b
  | _, _, .int b, _ => by rw [toPy]; exact .int b
  | _, _, .str b, _ => by rw [toPy]; exact .str b
  | _, _, .tup h l r, c => by rw [toPy]; exact .tup h.sq (RpL.dp r (by simpa [toPy, PyData.canLay0] using c))
  | _, _, .lst n h l r, c => by rw [toPy]; exact .lst (.inl h) (RpL.dp r (by simpa [toPy, PyData.canLay0] using c))
  | _, _, .scr _ _, c => by simp [toPy, PyData.canLay0] at c
  | _, _, .kt _ _, c => by simp [toPy, PyData.canLay0] at c
  | _, _, .dK _ _ _ _ _, c => by simp [toPy, PyData.canLay0] at c
  | _, _, .dT _ _ _ _ _, c => by simp [toPy, PyData.canLay0] at c
  | _, _, .ins _ _ _ _ _ _, c => by simp [toPy, PyData.canLay0] at c
theorem RpL.dp {M : Addr → Prop} {H : Hp} : ∀ {vs : List V} {ds : List D}, RpL G M H vs ds → PyData.canLayAll0 (toPyL ds) = true → DpAll G.K H vs (toPyL ds)
  | _, _, .nil, _ => by rw [toPyL]; exact .nil
  | _, _, .cons r t, c => by
    rw [toPyL, PyData.canLayAll0] at c
    rw [toPyL]
    have c' := Bool.and_eq_true_iff.mp c
    exact .cons (Rp.dp r c'.1) (RpL.dp t c'.2)
end
abbrev shp (d : D) : Bool := SeqAt.shaped (toPy d)
theorem Rp.dpS {M : Addr → Prop} {H : Hp} {v : V} {d : D} (r : Rp G M H v d) (h : shp d = true) : Dp G.K H v (toPy d) := r.dp (SeqAt.canLay_of_shaped h)
abbrev eqvD (d e : D) : Bool := PyData.eqv (toPy d) (toPy e)
def dEq (d e : D) : Option D := gd (shp d = true ∧ shp e = true) (some (.bl (eqvD d e)))
def dNe (d e : D) : Option D := gd (shp d = true ∧ shp e = true) (some (.bl (!eqvD d e)))
theorem sim_eq (ha : SimE G ta f) (hb : SimE G tb g) : SimE G (tOp (rEqD G.K) ta tb) (eBin dEq f g) := by
  refine sim_op (Sim2.m ?_) ha hb
  intro φ M H C x y d e z hs rx ry hg Q hQ
  obtain ⟨⟨h1, h2⟩, hg⟩ := gd_i hg
  cases hg
  exact ⟨_, _, rx.dpS h1, ry.dpS h2, h1, h2, hQ _ H Ext.refl hs (.bl _)⟩
theorem sim_ne (ha : SimE G ta f) (hb : SimE G tb g) : SimE G (tOp (rNeD G.K) ta tb) (eBin dNe f g) := by
  refine sim_op (Sim2.m ?_) ha hb
  intro φ M H C x y d e z hs rx ry hg Q hQ
  obtain ⟨⟨h1, h2⟩, hg⟩ := gd_i hg
  cases hg
  exact ⟨_, _, rx.dpS h1, ry.dpS h2, h1, h2, hQ _ H Ext.refl hs (.bl _)⟩

/-! ### is None, is True .. -/
def isN : D → Bool
  | .non => true
  | _ => false
def dIsN (d e : D) : Option D := gd (isN e = true) (some (.bl (isN d)))
def dIsNotN (d e : D) : Option D := gd (isN e = true) (some (.bl (!isN d)))
theorem Rp.isN {M : Addr → Prop} {H : Hp} {v : V} {d : D} (r : Rp G M H v d) : decide (v = .non) = DX.isN d := by
  cases r <;> first | rfl | simp [DX.isN]
theorem Rp.nonB {M : Addr → Prop} {H : Hp} {v : V} {d : D} (r : Rp G M H v d) (h : DX.isN d = true) : v = .non := by
  cases r <;> first | rfl | simp [DX.isN] at h
theorem sim_isN (ha : SimE G ta f) (hb : SimE G tb g) : SimE G (tOp (fun x y H Q => y = .non ∧ Q (.bl (decide (x = .non))) H) ta tb) (eBin dIsN f g) := by
  refine sim_op (Sim2.m ?_) ha hb
  intro φ M H C x y d e z hs rx ry hg Q hQ
  obtain ⟨h1, hg⟩ := gd_i hg
  cases hg
  refine ⟨ry.nonB h1, ?_⟩
  rw [rx.isN]
  exact hQ _ H Ext.refl hs (.bl _)
theorem sim_notN (ha : SimE G ta f) (hb : SimE G tb g) : SimE G (tOp (fun x y H Q => y = .non ∧ Q (.bl (!decide (x = .non))) H) ta tb) (eBin dIsNotN f g) := by
  refine sim_op (Sim2.m ?_) ha hb
  intro φ M H C x y d e z hs rx ry hg Q hQ
  obtain ⟨h1, hg⟩ := gd_i hg
  cases hg
  refine ⟨ry.nonB h1, ?_⟩
  rw [rx.isN]
  exact hQ _ H Ext.refl hs (.bl _)

/-! ### is, is not: a bool -/
def dIsB : D → D → Option D
  | .bl a, .bl b => some (.bl (decide (a = b)))
  | _, _ => none
end
end DX

/-! DOps2: in, subscripts, slices, built-ins over data. -/
namespace DX
open PySem PySem.Spec L2

/-! ### in, not in -/
def rDIn (neg : Bool) : R2 := fun y x H Q => ∃ a o, x = .ref a ∧ DGet H a y o ∧ Q (.bl (if neg then !o.isSome else o.isSome)) H
theorem op_dIn {X : Cx} (hu : X.A.units + 1 < cLine) : OpR X (compareOp .In) (rDIn false) := by
  intro pins s σ H x y v u Q I rx ry h
  obtain ⟨a, o, rfl, g, q⟩ := h
  cases ry
  exact d_in hu I g rx fun s' I' => ⟨.bl _, H, I', rfl, q⟩
theorem op_dNotIn {X : Cx} (hu : X.A.units + 1 < cLine) : OpR X (compareOp .NotIn) (rDIn true) := by
  intro pins s σ H x y v u Q I rx ry h
  obtain ⟨a, o, rfl, g, q⟩ := h
  cases ry
  exact d_notIn hu I g rx fun s' I' => ⟨.bl _, H, I', rfl, q⟩
def rSIn (neg : Bool) : R2 := fun x y H Q => ∃ i j, x = .str i ∧ y = .str j ∧ Q (.bl (if neg then !(!(Builtin.Str.occurrences j i 0 j.length 1).isEmpty) else !(Builtin.Str.occurrences j i 0 j.length 1).isEmpty)) H
def rIn0 (K : PySem.W.Frag) : R2 := fun x y H Q => rInD K x y H Q ∨ rIn K false x y H Q ∨ rDIn false x y H Q ∨ rSIn false x y H Q
def rNotIn0 (K : PySem.W.Frag) : R2 := fun x y H Q => rNotInD K x y H Q ∨ rIn K true x y H Q ∨ rDIn true x y H Q ∨ rSIn true x y H Q
theorem op_in0 {X : Cx} (hu : X.A.units + 65 < cLine) : OpR X (compareOp .In) (rIn0 X.K) := (op_inD hu).or (op_in_seq.or ((op_dIn (by omega)).or op_in_str))
theorem op_notIn0 {X : Cx} (hu : X.A.units + 65 < cLine) : OpR X (compareOp .NotIn) (rNotIn0 X.K) := (op_notInD hu).or (op_notIn_seq.or ((op_dNotIn (by omega)).or op_notin_str))
def flatD : D → Bool
  | .non => true
  | .bl _ => true
  | .int _ => true
  | .str _ => true
  | _ => false
/-- whether d is in e -/
def inB (d e : D) : Option Bool := match e with
  | .lst es => gd (shp d = true ∧ shp (.lst es) = true) (some (es.any fun z => eqvD z d))
  | .tup es => gd (flatD d = true ∧ es.all flatD = true) (some (es.any fun z => eqvD z d))
  | .kt es => gd (flatD d = true ∧ es.all flatD = true) (some (es.any fun z => eqvD z d))
  | .dK kvs => bn1 (dKey d) fun k => some (dGet kvs k).isSome
  | .dT kvs => match d with
    | .tup ks => bn1 (dKeys ks) fun k => some (dGet kvs k).isSome
    | _ => none
  | .str z => match d with
    | .str x => some (!(Builtin.Str.occurrences z x 0 z.length 1).isEmpty)
    | _ => none
  | _ => none
def dIn (d e : D) : Option D := bn1 (inB d e) fun b => some (.bl b)
def dNotIn (d e : D) : Option D := bn1 (inB d e) fun b => some (.bl (!b))

section
variable {G : Gm} {φ : List Addr} {M : Addr → Prop} {H : Hp} {C : Store} {x y : V} {s : Sv}
theorem Rp.flat {v : V} {d : D} (r : Rp G M H v d) (f : flatD d = true) : flatV v = true := by
  cases r <;> first | rfl | simp [flatD] at f
theorem Rp.eqV {v w : V} {d e : D} (r : Rp G M H v d) (q : Rp G M H w e) (f : flatD d = true) (g : flatD e = true) : L2.eqV v w = eqvD d e := by
  cases r <;> cases q <;> first | rfl | (simp [flatD] at f g; done) | (simp [eqvD, toPy, PyData.eqv, L2.eqV])
theorem RpL.flat' : ∀ {vs : List V} {ds : List D}, RpL G M H vs ds → ds.all flatD = true → vs.all flatV = true
  | _, _, .nil, _ => rfl
  | _, _, .cons r t, f => by
    rw [List.all_cons, Bool.and_eq_true] at f ⊢
    exact ⟨r.flat f.1, RpL.flat' t f.2⟩
theorem RpL.inV {v : V} {d : D} (r : Rp G M H v d) (f : flatD d = true) : ∀ {vs : List V} {ds : List D}, RpL G M H vs ds → ds.all flatD = true → L2.inV v vs = ds.any fun z => eqvD z d
  | _, _, .nil, _ => rfl
  | _, _, .cons q t, g => by
    rw [List.all_cons, Bool.and_eq_true] at g
    have ih := RpL.inV r f t g.2
    unfold L2.inV at ih ⊢
    rw [List.any_cons, List.any_cons, ih, q.eqV r g.1 f]
theorem Rp.key {v : V} {d : D} {k : Key} (r : Rp G M H v d) (h : dKey d = some k) : v = kV k := by
  rw [dKey_some h] at r
  cases k with
  | inl i => exact r.intI
  | inr z => exact r.strI
theorem RpL.keys : ∀ {vs : List V} {ds : List D} {ks : List Key}, RpL G M H vs ds → dKeys ds = some ks → vs = ks.map kV
  | _, _, ks, .nil, h => by simp [dKeys] at h; subst h; rfl
  | _, _, ks, .cons (d := d) (ds := ds) r t, h => by
    unfold dKeys at h
    split at h
    · rename_i k ks' h1 h2
      cases h
      rw [r.key h1, RpL.keys t h2]; rfl
    · cases h
/-- a look-up in a dict's pairs, by values -/
theorem RpL.look {κ : Type} [DecidableEq κ] : ∀ {kvs : List (κ × V)} {ds : List (κ × D)}, kvs.map (·.1) = ds.map (·.1) → RpL G M H (kvs.map (·.2)) (ds.map (·.2)) → ∀ k : κ,
    (dGet ds k = none ∧ valV kvs k = none) ∨ ∃ d v, dGet ds k = some d ∧ valV kvs k = some v ∧ Rp G M H v d
  | [], [], _, _, k => .inl ⟨rfl, rfl⟩
  | [], _ :: _, e, _, _ => by simp at e
  | _ :: _, [], e, _, _ => by simp at e
  | (k1, v) :: kvs, (k2, d) :: ds, e, r, k => by
    simp only [List.map_cons, List.cons.injEq] at e
    simp only [List.map_cons] at r
    obtain ⟨e1, e2⟩ := e
    subst e1
    cases r with
    | cons r t =>
      by_cases h : k1 = k
      · refine .inr ⟨d, v, ?_, valV_pos h, r⟩
        simp [dGet, List.find?_cons, h]
      · have h1 : valV ((k1, v) :: kvs) k = valV kvs k := valV_neg h
        have h2 : dGet ((k1, d) :: ds) k = dGet ds k := by simp [dGet, List.find?_cons, h]
        rw [h1, h2]
        exact RpL.look e2 t k
/-- what a dict holds at a key -/
theorem StR.dget {sd sk : Sv} {d k : D} {o : Option D} (st : StR G φ M H C) (rd : SvR G φ M H x sd) (rk : SvR G φ M H y sk) (ed : see C sd = some d) (ek : see C sk = some k) (h : dictAt d k = some o) :
    ∃ a, x = .ref a ∧ ∃ u, DGet H a y u ∧ ((o = none ∧ u = none) ∨ ∃ e v, o = some e ∧ u = some v ∧ Rp G M H v e) := by
  -- the dict's place
  have hd : ((∃ ds, d = .dK ds ∧ ∃ a kvs, x = .ref a ∧ Rd H a (.dK kvs) ∧ kvs.map (·.1) = ds.map (·.1) ∧ RpL G M H (kvs.map (·.2)) (ds.map (·.2))) ∨
      ∃ ds, d = .dT ds ∧ ∃ a kvs, x = .ref a ∧ Rd H a (.dT kvs) ∧ kvs.map (·.1) = ds.map (·.1) ∧ RpL G M H (kvs.map (·.2)) (ds.map (·.2))) := by
    cases d with
    | dK ds =>
      refine .inl ⟨ds, rfl, ?_⟩
      rcases st.see_rd rd ed with ⟨_, h⟩ | ⟨n, a, c, _, rfl, _, _, hu, h⟩
      · cases h with
        | dK n h l e r => exact ⟨_, _, rfl, h, e, r⟩
      · cases c with
        | dK ds' => cases hu; obtain ⟨kvs, h1, h2, h3, h4⟩ := h; exact ⟨a, kvs, rfl, .inl h1, h3, h4⟩
        | lk z =>
          have hu' : D.dK ds = z := hu
          subst hu'
          obtain ⟨od, kvs, h1, h2, h3, h4⟩ := h
          exact ⟨a, kvs, rfl, .inr ⟨od, h1⟩, h3, h4⟩
        | _ => cases hu
    | dT ds =>
      refine .inr ⟨ds, rfl, ?_⟩
      rcases st.see_rd rd ed with ⟨_, h⟩ | ⟨n, a, c, _, rfl, _, _, hu, h⟩
      · cases h with
        | dT n h l e r => exact ⟨_, _, rfl, h, e, r⟩
      · cases c with
        | dT ds' => cases hu; obtain ⟨kvs, h1, h2, h3, h4⟩ := h; exact ⟨a, kvs, rfl, .inl h1, h3, h4⟩
        | lk z =>
          have hu' : D.dT ds = z := hu
          subst hu'
          obtain ⟨od, kvs, h1, h2, h3, h4⟩ := h
          exact ⟨a, kvs, rfl, .inr ⟨od, h1⟩, h3, h4⟩
        | _ => cases hu
    | _ => cases h
  rcases hd with ⟨ds, rfl, a, kvs, rfl, h1, h2, h3⟩ | ⟨ds, rfl, a, kvs, rfl, h1, h2, h3⟩
  · refine ⟨a, rfl, ?_⟩
    have h' : (dKey k).map (dGet ds) = some o := h
    cases hk : dKey k with
    | none => rw [hk] at h'; cases h'
    | some kk =>
      rw [hk] at h'
      cases h'
      have ey := (st.see_rp rk ek).key hk
      refine ⟨valV kvs kk, .inl ⟨kvs, kk, h1, ey, rfl⟩, ?_⟩
      rcases RpL.look h2 h3 kk with ⟨q1, q2⟩ | ⟨e, v, q1, q2, q3⟩
      · exact .inl ⟨q1, q2⟩
      · exact .inr ⟨e, v, q1, q2, q3⟩
  · refine ⟨a, rfl, ?_⟩
    cases k with
    | tup ks =>
      have h' : (dKeys ks).map (dGet ds) = some o := h
      cases hk : dKeys ks with
      | none => rw [hk] at h'; cases h'
      | some kk =>
        rw [hk] at h'
        cases h'
        obtain ⟨b, vs, rfl, t1, t2, t3⟩ := st.seeT rk ek
        have ev := t3.keys hk
        subst ev
        refine ⟨valV kvs kk, .inr ⟨kvs, kk, b, h1, rfl, t1.2, rfl⟩, ?_⟩
        rcases RpL.look h2 h3 kk with ⟨q1, q2⟩ | ⟨e, v, q1, q2, q3⟩
        · exact .inl ⟨q1, q2⟩
        · exact .inr ⟨e, v, q1, q2, q3⟩
    | _ => cases h
theorem inB_dict {d e : D} {b : Bool} (h : inB d e = some b) (hd : (∃ kvs, e = .dK kvs) ∨ ∃ kvs, e = .dT kvs) : ∃ o, dictAt e d = some o ∧ b = o.isSome := by
  rcases hd with ⟨kvs, rfl⟩ | ⟨kvs, rfl⟩
  · obtain ⟨k, h1, h⟩ := bn1_i (show bn1 (dKey d) (fun k => some (dGet kvs k).isSome) = some b from h)
    cases h
    exact ⟨dGet kvs k, by simp [dictAt, h1], rfl⟩
  · cases d with
    | tup ks =>
      obtain ⟨k, h1, h⟩ := bn1_i (show bn1 (dKeys ks) (fun k => some (dGet kvs k).isSome) = some b from h)
      cases h
      exact ⟨dGet kvs k, by simp [dictAt, h1], rfl⟩
    | _ => cases h
theorem isSome_of {o : Option D} {u : Option V} (h : (o = none ∧ u = none) ∨ ∃ e v, o = some e ∧ u = some v ∧ Rp G M H v e) : o.isSome = u.isSome := by
  rcases h with ⟨rfl, rfl⟩ | ⟨e, v, rfl, rfl, _⟩ <;> rfl
/-- both at once: the two answers of in and not in -/
theorem sim_inAny (neg : Bool) {sx sy : Sv} {d e : D} {b : Bool} (hs : StR G φ M H C) (rx : SvR G φ M H x sx) (ry : SvR G φ M H y sy) (ex : see C sx = some d) (ey : see C sy = some e) (h : inB d e = some b) {Q : VK} (hQ : Q (.bl (if neg then !b else b)) H) :
    (if neg then rNotIn0 G.K x y H Q else rIn0 G.K x y H Q) := by
  have rx' := hs.see_rp rx ex
  have ry' := hs.see_rp ry ey
  have fin : (rInD G.K x y H Q ∧ neg = false ∨ rNotInD G.K x y H Q ∧ neg = true) ∨ rIn G.K neg x y H Q ∨ rDIn neg x y H Q ∨ rSIn neg x y H Q := by
    cases e with
    | lst es =>
      obtain ⟨⟨h1, h2⟩, h⟩ := gd_i (show gd _ _ = some b from h)
      cases h
      have d1 := rx'.dpS h1
      have d2 := ry'.dpS h2
      have e2 : toPy (.lst es) = .list (es.map toPy) := by rw [toPy, toPyL_map]
      rw [e2] at d2
      have ea : (es.any fun z => eqvD z d) = ((es.map toPy).any fun z => PyData.eqv z (toPy d)) := by rw [List.any_map]; rfl
      have h2' : SeqAt.shaped (.list (es.map toPy)) = true := by rw [← e2]; exact h2
      rw [ea] at hQ
      cases neg with
      | false => exact .inl (.inl ⟨⟨_, _, d1, d2, h1, h2', hQ⟩, rfl⟩)
      | true => exact .inl (.inr ⟨⟨_, _, d1, d2, h1, h2', hQ⟩, rfl⟩)
    | tup es =>
      obtain ⟨⟨h1, h2⟩, h⟩ := gd_i (show gd _ _ = some b from h)
      cases h
      cases ry' with
      | tup t1 t2 t3 =>
        have q := RpL.inV rx' h1 t3 h2
        refine .inr (.inl ⟨_, _, rfl, .inr t1.sq, rx'.flat h1, t3.flat' h2, ?_⟩)
        rw [q]
        exact hQ
    | kt es =>
      obtain ⟨⟨h1, h2⟩, h⟩ := gd_i (show gd _ _ = some b from h)
      cases h
      cases ry' with
      | kt t1 t3 =>
        have q := RpL.inV rx' h1 t3 h2
        refine .inr (.inl ⟨_, _, rfl, .inr (t1 H), rx'.flat h1, t3.flat' h2, ?_⟩)
        rw [q]
        exact hQ
    | dK kvs =>
      obtain ⟨o, h1, rfl⟩ := inB_dict h (.inl ⟨_, rfl⟩)
      obtain ⟨a, rfl, u, g, w⟩ := hs.dget ry rx ey ex h1
      rw [isSome_of w] at hQ
      exact .inr (.inr (.inl ⟨a, u, rfl, g, hQ⟩))
    | dT kvs =>
      obtain ⟨o, h1, rfl⟩ := inB_dict h (.inr ⟨_, rfl⟩)
      obtain ⟨a, rfl, u, g, w⟩ := hs.dget ry rx ey ex h1
      rw [isSome_of w] at hQ
      exact .inr (.inr (.inl ⟨a, u, rfl, g, hQ⟩))
    | str z =>
      cases d with
      | str c =>
        cases h
        exact .inr (.inr (.inr ⟨c, z, rx'.strI, ry'.strI, hQ⟩))
      | _ => cases h
    | _ => cases h
  cases neg with
  | false =>
    rcases fin with (⟨q, _⟩ | ⟨_, q⟩) | q
    · exact .inl q
    · cases q
    · exact .inr q
  | true =>
    rcases fin with (⟨_, q⟩ | ⟨q, _⟩) | q
    · cases q
    · exact .inl q
    · exact .inr q
theorem sim_in {ta tb : TE} {f g : SE} (ha : SimE G ta f) (hb : SimE G tb g) : SimE G (tOp (rIn0 G.K) ta tb) (eBin dIn f g) := by
  refine sim_op ?_ ha hb
  intro φ M H C x y sx sy d e z hs rx ry ex ey hg Q hQ
  obtain ⟨b, h1, hg⟩ := bn1_i hg
  cases hg
  exact sim_inAny false hs rx ry ex ey h1 (hQ _ H Ext.refl hs (.bl _))
theorem sim_notIn {ta tb : TE} {f g : SE} (ha : SimE G ta f) (hb : SimE G tb g) : SimE G (tOp (rNotIn0 G.K) ta tb) (eBin dNotIn f g) := by
  refine sim_op ?_ ha hb
  intro φ M H C x y sx sy d e z hs rx ry ex ey hg Q hQ
  obtain ⟨b, h1, hg⟩ := bn1_i hg
  cases hg
  exact sim_inAny true hs rx ry ex ey h1 (hQ _ H Ext.refl hs (.bl _))

/-! ### subscripts -/
def rIxD : R2 := fun x y H Q => ∃ a v, x = .ref a ∧ DGet H a y (some v) ∧ Q v H
end
theorem ix_dict {X : Cx} (hu : X.A.units + 1 < cLine) : IxR X rIxD := by
  intro value slice pins s σ H x y v u Q I rx ry h hs
  obtain ⟨a, w, rfl, g, q⟩ := h
  cases rx
  have hT := dict_typeIs I g
  have hg : wpAny (model X.prog X.w) X.A (getItem (.ref a) u) (EP X pins σ Q) X.xe s := d_getItem hu I g ry fun w' s' I' r' => ⟨w, H, I', r', q⟩
  unfold PyProof.Rows.subscriptTail
  refine wpAny_bind ?_
  rw [getitemInPython_of_ne hT.not_modules]
  refine wpAny_bind (wpAny_specialOf hT PySem.F.slot_dict_getitem.lookup ?_)
  have fin : wpAny (model X.prog X.w) X.A (subscripted slice false (.ref a) u) (fun r s₃ => wpAny (model X.prog X.w) X.A (letTemporaryGo value (.ref a) r >>= fun _ => pure r) (EP X pins σ Q) X.xe s₃) X.xe s := by
    rw [hs]
    exact wpAny_operating (wpAny_mono hg (fun r s₃ h₃ => wpAny_bind (wpAny_letTemporaryGo (wpAny_pure h₃))) fun _ _ x => x)
  first
    | exact wpAny_pure (wpAny_bind fin)
    | exact wpAny_bind (wpAny_pure (wpAny_bind fin))
    | exact wpAny_bind fin
def rIx0 (K : PySem.W.Frag) : R2 := fun x y H Q => rIx K x y H Q ∨ rIxD x y H Q
theorem ix_0 {X : Cx} (hu : X.A.units + 1 < cLine) : IxR X (rIx0 X.K) := ix_seq.or (ix_dict hu)
/-- d[e] -/
def dIx (d e : D) : Option D := match d with
  | .lst xs => match e with
    | .int i => atI xs i
    | _ => none
  | .tup xs => match e with
    | .int i => atI xs i
    | _ => none
  | .kt xs => match e with
    | .int i => atI xs i
    | _ => none
  | .scr ns => match e with
    | .int i => bn1 (atI ns i) fun n => some (.int n)
    | _ => none
  | .str z => match e with
    | .int i => gd (z.length ≤ sizeLine) (bn1 (atI z.cps.toList i) fun c => some (.str ⟨#[c]⟩))
    | _ => none
  | .dK _ => (dictAt d e).join
  | .dT _ => (dictAt d e).join
  | _ => none
section
variable {G : Gm} {φ : List Addr} {M : Addr → Prop} {H : Hp} {C : Store} {x y : V} {s : Sv}
theorem ixN_lt {n : Nat} {i : Int} {j : Nat} (h : ixN n i = some j) : j < n := (ixN_seq h).2.1
theorem RpL.at_ {vs : List V} {ds : List D} (r : RpL G M H vs ds) {i : Int} {d : D} (h : atI ds i = some d) : ∃ v, atI vs i = some v ∧ Rp G M H v d := by
  unfold atI at h ⊢
  rw [r.length]
  cases hj : ixN ds.length i with
  | none => rw [hj] at h; cases h
  | some j =>
    rw [hj] at h
    exact r.get h
theorem join_some {α : Type} {o : Option (Option α)} {z : α} (h : o.join = some z) : o = some (some z) := by
  cases o with
  | none => cases h
  | some p => cases p with
    | none => cases h
    | some q => cases h; rfl
theorem sim2_ix : Sim2M G (rIx0 G.K) dIx := by
  intro φ M H C x y sx sy d e z hs rx ry ex ey hg Q hQ
  have dict : ∀ o, dictAt d e = some o → o = some z → rIx0 G.K x y H Q := fun o h1 h2 => by
    obtain ⟨a, rfl, u, g, w⟩ := hs.dget rx ry ex ey h1
    subst h2
    rcases w with ⟨q, _⟩ | ⟨e', v, q1, rfl, q3⟩
    · cases q
    · cases q1
      exact .inr ⟨a, v, rfl, g, hQ v H Ext.refl hs q3⟩
  cases d with
  | lst xs =>
    cases e with
    | int i =>
      obtain ⟨a, vs, rfl, h1, l, r⟩ := hs.seeL rx ex
      obtain ⟨v, q1, q2⟩ := r.at_ hg
      exact .inl (.inl ⟨a, vs, i, v, rfl, (hs.see_rp ry ey).intI, .inl h1, q1, hQ v H Ext.refl hs q2⟩)
    | _ => cases hg
  | tup xs =>
    cases e with
    | int i =>
      obtain ⟨a, vs, rfl, h1, l, r⟩ := hs.seeT rx ex
      obtain ⟨v, q1, q2⟩ := r.at_ hg
      exact .inl (.inr (.inl ⟨a, vs, i, v, rfl, (hs.see_rp ry ey).intI, h1.sq, q1, hQ v H Ext.refl hs q2⟩))
    | _ => cases hg
  | kt xs =>
    cases e with
    | int i =>
      rcases hs.see_rd rx ex with ⟨_, h⟩ | ⟨n, a, c, _, rfl, _, _, hu, h⟩
      · cases h with
        | kt h r =>
          obtain ⟨v, q1, q2⟩ := r.at_ hg
          exact .inl (.inr (.inl ⟨_, _, i, v, rfl, (hs.see_rp ry ey).intI, h H, q1, hQ v H Ext.refl hs q2⟩))
      · cases c with
        | lk d =>
          have hu' : D.kt xs = d := hu
          subst hu'
          exact h.elim
        | kt _ => exact h.elim
        | _ => cases hu
    | _ => cases hg
  | scr ns =>
    cases e with
    | int i =>
      obtain ⟨n, h1, hg⟩ := bn1_i hg
      cases hg
      have r := hs.see_rp rx ex
      cases r with
      | scr h l =>
        have q1 : atI (ns.map V.int) i = some (.int n) := by
          unfold atI at h1 ⊢
          rw [List.length_map]
          cases hj : ixN ns.length i with
          | none => rw [hj] at h1; cases h1
          | some j =>
            rw [hj] at h1
            have h1' : ns[j]? = some n := h1
            show (ns.map V.int)[j]? = _
            rw [List.getElem?_map, h1']; rfl
        exact .inl (.inl ⟨_, _, i, _, rfl, (hs.see_rp ry ey).intI, h.sq, q1, hQ _ H Ext.refl hs (.int _)⟩)
    | _ => cases hg
  | str z' =>
    cases e with
    | int i =>
      obtain ⟨hl, hg⟩ := gd_i hg
      obtain ⟨c, h1, hg⟩ := bn1_i hg
      cases hg
      exact .inl (.inr (.inr ⟨z', i, c, (hs.see_rp rx ex).strI, (hs.see_rp ry ey).intI, hl, h1, hQ _ H Ext.refl hs (.str _)⟩))
    | _ => cases hg
  | dK kvs => exact dict _ (join_some hg) rfl
  | dT kvs => exact dict _ (join_some hg) rfl
  | _ => cases hg
theorem sim_ix {ta tb : TE} {f g : SE} (ha : SimE G ta f) (hb : SimE G tb g) : SimE G (tOp (rIx0 G.K) ta tb) (eBin dIx f g) := sim_op sim2_ix ha hb

/-! ### slices -/
abbrev SO := Env → Store → Option (Option Int × Store)
def SimO (G : Gm) (t : TO) (f : SO) : Prop :=
  ∀ φ M H C σ ρ o C', EnvR G φ M H σ ρ → StR G φ M H C → f ρ C = some (o, C') → ∀ Q : Option Int → Hp → Prop, (∀ H', Ext φ H H' → StR G φ M H' C' → Q o H') → t σ H Q
def oNone : SO := fun _ C => some (none, C)
def oSome (f : SE) : SO := fun ρ C => bnd (f ρ C) fun v C1 => match v with
  | .dat (.int i) => some (some i, C1)
  | _ => none
theorem sim_onone : SimO G tNoPart oNone := by
  intro φ M H C σ ρ o C' he hs e Q hQ
  cases e
  exact hQ H Ext.refl hs
theorem sim_osome {te : TE} {f : SE} (h : SimE G te f) : SimO G (tPart te) (oSome f) := by
  intro φ M H C σ ρ o C' he hs e Q hQ
  obtain ⟨v, C1, h1, e⟩ := bnd_i e
  refine h φ M H C σ ρ v C1 he hs h1 _ fun x H1 x1 s1 r1 => ?_
  cases v with
  | dat d =>
    cases d with
    | int i =>
      cases e
      exact ⟨i, Rp.intI r1, hQ H1 x1 s1⟩
    | _ => cases e
  | cel n => cases e
/-- the part of a list -/
def cutD {α : Type} (xs : List α) (lo hi : Option Int) : List α := (xs.drop (HT.sIx xs.length 0 lo)).take (HT.sIx xs.length xs.length hi - HT.sIx xs.length 0 lo)
theorem cutD_len {α : Type} (xs : List α) (lo hi : Option Int) : (cutD xs lo hi).length ≤ xs.length := by
  unfold cutD
  rw [List.length_take, List.length_drop]
  omega
theorem RpL.cut {vs : List V} {ds : List D} (r : RpL G M H vs ds) (lo hi : Option Int) : RpL G M H (cutV vs lo hi) (cutD ds lo hi) := by
  unfold cutV cutD
  rw [r.length]
  exact (r.drop _).take _
def dSl (d : D) (lo hi : Option Int) : Option D := match d with
  | .lst xs => some (.lst (cutD xs lo hi))
  | .scr ns => some (.lst ((cutD ns lo hi).map D.int))
  | .tup xs => some (.tup (cutD xs lo hi))
  | .str z => gd (z.length ≤ sizeLine) (some (.str (cutS z lo hi)))
  | _ => none
def rSl0 (K : PySem.W.Frag) : V → Option Int → Option Int → Hp → VK → Prop := fun x lo hi H Q => rSlL K x lo hi H Q ∨ rSlA K x lo hi H Q ∨ rSlS x lo hi H Q
theorem sl_0 {X : Cx} : SlR X (rSl0 X.K) := sl_list.or (sl_tupA.or sl_str)
def eSl (f : SE) (lo hi : SO) : SE := fun ρ C => bnd (f ρ C) fun v C1 => bnd (lo ρ C1) fun a C2 => bnd (hi ρ C2) fun b C3 => bn1 (see C3 v) fun d => bn1 (dSl d a b) fun z => some (.dat z, C3)
/-- a list's slice as a new object -/
def nSl (f : SE) (lo hi : SO) : SN := fun ρ C => bnd (f ρ C) fun v C1 => bnd (lo ρ C1) fun a C2 => bnd (hi ρ C2) fun b C3 => bn1 (see C3 v) fun d => match d with
  | .lst xs => some (.lst (cutD xs a b), C3)
  | .scr ns => some (.lst ((cutD ns a b).map D.int), C3)
  | _ => none
/-- the list's slice, at a new place -/
theorem slL {sx : Sv} {d : D} (hs : StR G φ M H C) (rx : SvR G φ M H x sx) (ex : see C sx = some d) {zs : List D} (lo hi : Option Int) (h : d = .lst zs ∨ ∃ ns : List Int, d = .scr ns ∧ zs = ns.map D.int) :
    ∃ vs, vs.length ≤ sizeLine ∧ RpL G M H vs (cutD zs lo hi) ∧ ∀ Q : VK, (∀ p, H p = none → Q (.ref p) (upd H p (.lst vs))) → rSlL G.K x lo hi H Q := by
  rcases h with rfl | ⟨ns, rfl, rfl⟩
  · obtain ⟨a, vs, rfl, h1, l, r⟩ := hs.seeL rx ex
    refine ⟨cutV vs lo hi, Nat.le_trans (cutV_length vs lo hi) l, r.cut lo hi, fun Q q => ⟨a, vs, rfl, .inl h1, q⟩⟩
  · have r := hs.see_rp rx ex
    cases r with
    | scr h l =>
      have r0 : ∀ ks : List Int, RpL G M H (ks.map V.int) (ks.map D.int) := fun ks => by
        induction ks with
        | nil => exact .nil
        | cons k ks ih => exact .cons (.int k) ih
      refine ⟨cutV (ns.map V.int) lo hi, Nat.le_trans (cutV_length _ lo hi) (by rw [List.length_map]; exact small_line (by omega)), (r0 ns).cut lo hi, fun Q q => ⟨_, _, rfl, h.sq, q⟩⟩
theorem cutD_map {α β : Type} (f : α → β) (xs : List α) (lo hi : Option Int) : cutD (xs.map f) lo hi = (cutD xs lo hi).map f := by
  unfold cutD
  rw [List.length_map, List.map_take, List.map_drop]
theorem sim_sl {te : TE} {tl th : TO} {f : SE} {lo hi : SO} (he : SimE G te f) (hl : SimO G tl lo) (hh : SimO G th hi) : SimE G (tSl (rSl0 G.K) te tl th) (eSl f lo hi) := by
  intro φ M H C σ ρ s C' hE hs e Q hQ
  obtain ⟨v, C1, h1, e⟩ := bnd_i e
  obtain ⟨a, C2, h2, e⟩ := bnd_i e
  obtain ⟨b, C3, h3, e⟩ := bnd_i e
  obtain ⟨d, h4, e⟩ := bn1_i e
  obtain ⟨z, h5, e⟩ := bn1_i e
  cases e
  refine he φ M H C σ ρ v C1 hE hs h1 _ fun x H1 x1 s1 r1 => ?_
  refine hl φ M H1 C1 σ ρ a C2 (hE.ext x1 hs.sub) s1 h2 _ fun H2 x2 s2 => ?_
  refine hh φ M H2 C2 σ ρ b C' (hE.ext (x1.trans x2) hs.sub) s2 h3 _ fun H3 x3 s3 => ?_
  have r3 := r1.ext (x2.trans x3) hs.sub
  have xx := (x1.trans x2).trans x3
  have newL : ∀ vs ds, vs.length ≤ sizeLine → RpL G M H3 vs ds → z = .lst ds → ∀ p, H3 p = none → Q (.ref p) (upd H3 p (.lst vs)) := fun vs ds l r ez p hp => by
    subst ez
    have x4 : Ext φ H3 (upd H3 p (.lst vs)) := Ext.laid hp
    exact hQ _ _ (xx.trans x4) (s3.laid hp) (.lst (s3.nm hp) (.inl upd_same) l (r.keeps (x4.keeps hs.sub)))
  cases d with
  | lst zs =>
    obtain ⟨vs, l, r, q⟩ := slL s3 r3 h4 a b (.inl rfl)
    exact .inl (q Q (newL vs _ l r (by cases h5; rfl)))
  | scr ns =>
    obtain ⟨vs, l, r, q⟩ := slL s3 r3 h4 a b (.inr ⟨ns, rfl, rfl⟩)
    exact .inl (q Q (newL vs _ l r (by cases h5; rw [cutD_map])))
  | tup zs =>
    cases h5
    obtain ⟨p, vs, rfl, t1, l, r⟩ := s3.seeT r3 h4
    have rc := r.cut a b
    refine .inr (.inl ⟨p, vs, rfl, t1.sq, fun hw => ?_, fun _ q hq => ?_⟩)
    · have e1 : cutV vs a b = vs := by unfold cutV; rw [hw.1, hw.2]; simp
      rw [e1] at rc
      exact hQ _ H3 xx s3 (.tup t1 l rc)
    · have x4 : Ext φ H3 (upd H3 q (.tup (cutV vs a b))) := Ext.laid hq
      exact hQ _ _ (xx.trans x4) (s3.laid hq) (.tup ⟨s3.nm hq, upd_same⟩ (Nat.le_trans (cutV_length vs a b) l) (rc.keeps (x4.keeps hs.sub)))
  | str w =>
    obtain ⟨hw, h5⟩ := gd_i h5
    cases h5
    exact .inr (.inr ⟨w, (s3.see_rp r3 h4).strI, hw, hQ _ H3 xx s3 (.str _)⟩)
  | _ => cases h5
theorem sim_nsl {te : TE} {tl th : TO} {f : SE} {lo hi : SO} (he : SimE G te f) (hl : SimO G tl lo) (hh : SimO G th hi) : SimN G (tSl (rSl0 G.K) te tl th) (nSl f lo hi) := by
  intro φ M H C σ ρ s C' hE hs e Q hQ
  obtain ⟨v, C1, h1, e⟩ := bnd_i e
  obtain ⟨a, C2, h2, e⟩ := bnd_i e
  obtain ⟨b, C3, h3, e⟩ := bnd_i e
  obtain ⟨d, h4, e⟩ := bn1_i e
  refine he φ M H C σ ρ v C1 hE hs h1 _ fun x H1 x1 s1 r1 => ?_
  refine hl φ M H1 C1 σ ρ a C2 (hE.ext x1 hs.sub) s1 h2 _ fun H2 x2 s2 => ?_
  refine hh φ M H2 C2 σ ρ b C3 (hE.ext (x1.trans x2) hs.sub) s2 h3 _ fun H3 x3 s3 => ?_
  have r3 := r1.ext (x2.trans x3) hs.sub
  have xx := (x1.trans x2).trans x3
  cases d with
  | lst zs =>
    cases e
    obtain ⟨vs, l, r, q⟩ := slL s3 r3 h4 a b (.inl rfl)
    exact .inl (q Q fun p hp => hQ p _ (xx.none_ hp) (xx.trans (Ext.laid hp)) (s3.laidM hp) (CelR.newL s3 hp l r))
  | scr ns =>
    cases e
    obtain ⟨vs, l, r, q⟩ := slL s3 r3 h4 a b (.inr ⟨ns, rfl, rfl⟩)
    rw [cutD_map] at r
    exact .inl (q Q fun p hp => hQ p _ (xx.none_ hp) (xx.trans (Ext.laid hp)) (s3.laidM hp) (CelR.newL s3 hp l r))
  | _ => cases e
end
end DX

/-! DBlt: built-ins over data. -/
namespace DX
open PySem PySem.Spec L2

/-! ### len -/
def rLenD : List V → Hp → VK → Prop := fun xs H Q => ∃ a kvs, xs = [.ref a] ∧ Rd H a (.dK kvs) ∧ Q (.int (kvs.length : Nat)) H
theorem call_lenDK {X : Cx} : CallR X (.builtin "len") rLenD := by
  intro pins s σ H xs us Q I r h
  obtain ⟨a, kvs, rfl, e, q⟩ := h
  obtain ⟨u, rfl, rx⟩ := vals1 r
  cases rx
  exact d_len I e fun t s' I' => ⟨.int _, H, I', ⟨t, rfl⟩, q⟩
def rLen0 (K : PySem.W.Frag) : List V → Hp → VK → Prop := fun xs H Q => (∃ x n, xs = [x] ∧ LenV K x H n ∧ Q (.int n) H) ∨ rLenD xs H Q
theorem call_len0 {X : Cx} : CallR X (.builtin "len") (rLen0 X.K) := call_len.or call_lenDK
def dLen : List D → Option D
  | [.lst xs] => some (.int (xs.length : Nat))
  | [.tup xs] => some (.int (xs.length : Nat))
  | [.kt xs] => some (.int (xs.length : Nat))
  | [.scr ns] => some (.int (ns.length : Nat))
  | [.dK kvs] => some (.int (kvs.length : Nat))
  | [.str z] => gd (z.length ≤ sizeLine) (some (.int (z.length : Nat)))
  | _ => none
section
variable {G : Gm} {φ : List Addr} {M : Addr → Prop} {H : Hp} {C : Store} {x y : V} {s : Sv}
theorem sees1 {ss : List Sv} {xs : List V} {d : D} (r : SvsR G φ M H xs ss) (e : sees C ss = some [d]) : ∃ x s, xs = [x] ∧ ss = [s] ∧ SvR G φ M H x s ∧ see C s = some d := by
  cases r with
  | nil => cases e
  | cons r t =>
    unfold sees at e
    obtain ⟨d', h1, e⟩ := bn1_i e
    obtain ⟨ds, h2, e⟩ := bn1_i e
    cases e
    cases t with
    | nil => exact ⟨_, _, rfl, rfl, r, h1⟩
    | cons r2 t2 =>
      unfold sees at h2
      obtain ⟨_, _, h2⟩ := bn1_i h2
      obtain ⟨_, _, h2⟩ := bn1_i h2
      cases h2
theorem sees2 {ss : List Sv} {xs : List V} {d e' : D} (r : SvsR G φ M H xs ss) (e : sees C ss = some [d, e']) : ∃ x y s t, xs = [x, y] ∧ ss = [s, t] ∧ SvR G φ M H x s ∧ SvR G φ M H y t ∧ see C s = some d ∧ see C t = some e' := by
  cases r with
  | nil => cases e
  | cons r t =>
    unfold sees at e
    obtain ⟨d', h1, e⟩ := bn1_i e
    obtain ⟨ds, h2, e⟩ := bn1_i e
    cases e
    obtain ⟨y, s2, rfl, rfl, r2, h3⟩ := sees1 t h2
    exact ⟨_, _, _, _, rfl, rfl, r, r2, h1, h3⟩
/-- lists, by their one argument -/
theorem sim1s_one {r : List V → Hp → VK → Prop} {g : List D → Option D} (h0 : ∀ ds z, g ds = some z → ∃ d, ds = [d])
    (h : ∀ φ M H C x s d z, StR G φ M H C → SvR G φ M H x s → see C s = some d → g [d] = some z → ∀ Q : VK, (∀ v H', Ext φ H H' → StR G φ M H' C → Rp G M H' v z → Q v H') → r [x] H Q) : Sim1s G r g := by
  intro φ M H C xs ss ds z hs rr e hg Q hQ
  obtain ⟨d, rfl⟩ := h0 ds z hg
  obtain ⟨x, s, rfl, rfl, r1, h1⟩ := sees1 rr e
  exact h φ M H C x s d z hs r1 h1 hg Q hQ
theorem StR.seeKT {ds : List D} (st : StR G φ M H C) (r : SvR G φ M H x s) (e : see C s = some (.kt ds)) : ∃ a vs, x = .ref a ∧ (∀ H', SqT G.K H' a vs) ∧ RpL G M H vs ds := by
  rcases st.see_rd r e with ⟨_, h⟩ | ⟨n, a, c, _, rfl, _, _, hu, h⟩
  · cases h with
    | kt h r => exact ⟨_, _, rfl, h, r⟩
  · cases c with
    | lk d =>
      have hu' : D.kt ds = d := hu
      subst hu'
      exact h.elim
    | kt _ => exact h.elim
    | _ => cases hu
theorem StR.seeDK {ds : List (Key × D)} (st : StR G φ M H C) (r : SvR G φ M H x s) (e : see C s = some (.dK ds)) : ∃ a kvs, x = .ref a ∧ Rd H a (.dK kvs) ∧ kvs.length ≤ sizeLine ∧ kvs.map (·.1) = ds.map (·.1) ∧ RpL G M H (kvs.map (·.2)) (ds.map (·.2)) := by
  rcases st.see_rd r e with ⟨_, h⟩ | ⟨n, a, c, _, rfl, _, _, hu, h⟩
  · cases h with
    | dK n h l e r => exact ⟨_, _, rfl, h, l, e, r⟩
  · cases c with
    | dK ds' => cases hu; obtain ⟨kvs, h1, h2, h3, h4⟩ := h; exact ⟨a, kvs, rfl, .inl h1, h2, h3, h4⟩
    | lk z =>
      have hu' : D.dK ds = z := hu
      subst hu'
      obtain ⟨od, kvs, h1, h2, h3, h4⟩ := h
      exact ⟨a, kvs, rfl, .inr ⟨od, h1⟩, h2, h3, h4⟩
    | _ => cases hu
theorem StR.seeDT {ds : List (List Key × D)} (st : StR G φ M H C) (r : SvR G φ M H x s) (e : see C s = some (.dT ds)) : ∃ a kvs, x = .ref a ∧ Rd H a (.dT kvs) ∧ kvs.length ≤ sizeLine ∧ kvs.map (·.1) = ds.map (·.1) ∧ RpL G M H (kvs.map (·.2)) (ds.map (·.2)) := by
  rcases st.see_rd r e with ⟨_, h⟩ | ⟨n, a, c, _, rfl, _, _, hu, h⟩
  · cases h with
    | dT n h l e r => exact ⟨_, _, rfl, h, l, e, r⟩
  · cases c with
    | dT ds' => cases hu; obtain ⟨kvs, h1, h2, h3, h4⟩ := h; exact ⟨a, kvs, rfl, .inl h1, h2, h3, h4⟩
    | lk z =>
      have hu' : D.dT ds = z := hu
      subst hu'
      obtain ⟨od, kvs, h1, h2, h3, h4⟩ := h
      exact ⟨a, kvs, rfl, .inr ⟨od, h1⟩, h2, h3, h4⟩
    | _ => cases hu
theorem lenKeys {κ α β : Type} {kvs : List (κ × α)} {ds : List (κ × β)} (h : kvs.map (·.1) = ds.map (·.1)) : kvs.length = ds.length := by
  have := congrArg List.length h
  simpa using this
theorem one_of {g : List D → Option D} {ds : List D} {z : D} (h : g ds = some z) (h0 : g [] = none) (h2 : ∀ a b r, g (a :: b :: r) = none) : ∃ d, ds = [d] := by
  cases ds with
  | nil => rw [h0] at h; cases h
  | cons d r => cases r with
    | nil => exact ⟨d, rfl⟩
    | cons b r => rw [h2] at h; cases h
theorem sim1_len : Sim1s G (rLen0 G.K) dLen := by
  refine sim1s_one (fun ds z h => one_of h rfl fun a b r => by cases a <;> rfl) ?_
  intro φ M H C x s d z hs r e hg Q hQ
  cases d with
  | lst xs =>
    cases hg
    obtain ⟨a, vs, rfl, h1, l, r1⟩ := hs.seeL r e
    exact .inl ⟨_, _, rfl, .inl ⟨vs, .inl h1, rfl⟩, by rw [r1.length]; exact hQ _ H Ext.refl hs (.int _)⟩
  | tup xs =>
    cases hg
    obtain ⟨a, vs, rfl, h1, l, r1⟩ := hs.seeT r e
    exact .inl ⟨_, _, rfl, .inr ⟨vs, h1.sq, rfl⟩, by rw [r1.length]; exact hQ _ H Ext.refl hs (.int _)⟩
  | kt xs =>
    cases hg
    obtain ⟨a, vs, rfl, h1, r1⟩ := hs.seeKT r e
    exact .inl ⟨_, _, rfl, .inr ⟨vs, h1 H, rfl⟩, by rw [r1.length]; exact hQ _ H Ext.refl hs (.int _)⟩
  | scr ns =>
    cases hg
    have r1 := hs.see_rp r e
    cases r1 with
    | scr h l => exact .inl ⟨_, _, rfl, .inl ⟨_, h.sq, rfl⟩, by rw [List.length_map]; exact hQ _ H Ext.refl hs (.int _)⟩
  | dK kvs =>
    cases hg
    obtain ⟨a, vs, rfl, h1, l, h2, r1⟩ := hs.seeDK r e
    exact .inr ⟨a, vs, rfl, h1, by rw [lenKeys h2]; exact hQ _ H Ext.refl hs (.int _)⟩
  | str z =>
    obtain ⟨h1, hg⟩ := gd_i (show gd _ _ = some _ from hg)
    cases hg
    have ex := (hs.see_rp r e).strI
    subst ex
    exact .inl ⟨.str z, z.length, rfl, ⟨h1, rfl⟩, hQ _ H Ext.refl hs (.int _)⟩
  | _ => cases hg
theorem sim_len {ta : TA} {a : SA} (ha : SimA G ta a) : SimE G (tCB (rLen0 G.K) ta) (eB dLen a) := sim_b sim1_len ha

/-! ### abs, int -/
def dAbs : List D → Option D
  | [.int i] => some (.int (if i < 0 then -i else i))
  | _ => none
theorem sim_abs {ta : TA} {a : SA} (ha : SimA G ta a) : SimE G (tCB (fun xs H Q => ∃ i, xs = [.int i] ∧ Q (.int (if i < 0 then -i else i)) H) ta) (eB dAbs a) := by
  refine sim_b (sim1s_one (fun ds z h => one_of h rfl fun a b r => by cases a <;> rfl) ?_) ha
  intro φ M H C x s d z hs r e hg Q hQ
  cases d with
  | int i => cases hg; exact ⟨i, by rw [(hs.see_rp r e).intI], hQ _ H Ext.refl hs (.int _)⟩
  | _ => cases hg
def dInt : List D → Option D
  | [.int i] => some (.int i)
  | [.bl b] => some (.int (if b = true then 1 else 0))
  | _ => none
theorem sim_int' {ta : TA} {a : SA} (ha : SimA G ta a) : SimE G (tCB (fun xs H Q => (∃ i, xs = [.int i] ∧ Q (.int i) H) ∨ ∃ k, xs = [.bl k] ∧ Q (.int (if k then 1 else 0)) H) ta) (eB dInt a) := by
  refine sim_b (sim1s_one (fun ds z h => one_of h rfl fun a b r => by cases a <;> rfl) ?_) ha
  intro φ M H C x s d z hs r e hg Q hQ
  cases d with
  | int i => cases hg; exact .inl ⟨i, by rw [(hs.see_rp r e).intI], hQ _ H Ext.refl hs (.int _)⟩
  | bl i => cases hg; exact .inr ⟨i, by rw [(hs.see_rp r e).blI], hQ _ H Ext.refl hs (.int _)⟩
  | _ => cases hg

/-! ### list(..), tuple(..) -/
abbrev rListOf (K : PySem.W.Frag) : List V → Hp → VK → Prop := fun xs H Q => ∃ p ys, xs = [.ref p] ∧ (SqL K H p ys ∨ SqT K H p ys) ∧ ∀ l, H l = none → Q (.ref l) (upd H l (.lst ys))
def dList : List D → Option D
  | [.lst xs] => some (.lst xs)
  | [.tup xs] => some (.lst xs)
  | _ => none
theorem sim_nlist {ta : TA} {a : SA} (ha : SimA G ta a) : SimN G (tCB (rListOf G.K) ta) (nB dList a) := by
  intro φ M H C σ ρ s C' he hs e Q hQ
  obtain ⟨ss, C1, h1, e⟩ := bnd_i e
  obtain ⟨ds, h2, e⟩ := bn1_i e
  obtain ⟨z, h3, e⟩ := bn1_i e
  cases e
  refine ha φ M H C σ ρ ss C' he hs h1 _ fun xs H1 x1 s1 r1 => ?_
  obtain ⟨d, rfl⟩ := one_of h3 rfl fun a b r => by cases a <;> rfl
  obtain ⟨x, s, rfl, rfl, r2, h4⟩ := sees1 r1 h2
  cases d with
  | lst xs =>
    cases h3
    obtain ⟨p, vs, rfl, t1, l, r⟩ := s1.seeL r2 h4
    exact ⟨p, vs, rfl, .inl (.inl t1), fun q hq => hQ q _ (x1.none_ hq) (x1.trans (Ext.laid hq)) (s1.laidM hq) (CelR.newL s1 hq l r)⟩
  | tup xs =>
    cases h3
    obtain ⟨p, vs, rfl, t1, l, r⟩ := s1.seeT r2 h4
    exact ⟨p, vs, rfl, .inr t1.sq, fun q hq => hQ q _ (x1.none_ hq) (x1.trans (Ext.laid hq)) (s1.laidM hq) (CelR.newL s1 hq l r)⟩
  | _ => cases h3
abbrev rTupOf (K : PySem.W.Frag) : List V → Hp → VK → Prop := fun xs H Q => ∃ p ys, xs = [.ref p] ∧ ((SqL K H p ys ∧ ∀ l, H l = none → Q (.ref l) (upd H l (.tup ys))) ∨ (SqT K H p ys ∧ Q (.ref p) H))
def dTuple : List D → Option D
  | [.lst xs] => some (.tup xs)
  | [.tup xs] => some (.tup xs)
  | _ => none
theorem sim_tuple {ta : TA} {a : SA} (ha : SimA G ta a) : SimE G (tCB (rTupOf G.K) ta) (eB dTuple a) := by
  refine sim_b (sim1s_one (fun ds z h => one_of h rfl fun a b r => by cases a <;> rfl) ?_) ha
  intro φ M H C x s d z hs r e hg Q hQ
  cases d with
  | lst xs =>
    cases hg
    obtain ⟨p, vs, rfl, t1, l, r⟩ := hs.seeL r e
    refine ⟨p, vs, rfl, .inl ⟨.inl t1, fun q hq => ?_⟩⟩
    have x4 : Ext φ H (upd H q (.tup vs)) := Ext.laid hq
    exact hQ _ _ x4 (hs.laid hq) (.tup ⟨hs.nm hq, upd_same⟩ l (r.keeps (x4.keeps hs.sub)))
  | tup xs =>
    cases hg
    obtain ⟨p, vs, rfl, t1, l, r⟩ := hs.seeT r e
    exact ⟨p, vs, rfl, .inr ⟨t1.sq, hQ _ H Ext.refl hs (.tup t1 l r)⟩⟩
  | _ => cases hg

/-! ### all, any -/
def dBools : List D → Option (List Bool)
  | [] => some []
  | .bl b :: ds => bn1 (dBools ds) fun bs => some (b :: bs)
  | _ :: _ => none
theorem dBools_some : ∀ {ds : List D} {bs : List Bool}, dBools ds = some bs → ds = bs.map D.bl
  | [], bs, h => by cases h; rfl
  | .bl b :: ds, bs, h => by
    unfold dBools at h
    obtain ⟨bs', h1, h⟩ := bn1_i h
    cases h
    rw [dBools_some h1]; rfl
  | .non :: _, _, h => by cases h
  | .int _ :: _, _, h => by cases h
  | .str _ :: _, _, h => by cases h
  | .tup _ :: _, _, h => by cases h
  | .lst _ :: _, _, h => by cases h
  | .dK _ :: _, _, h => by cases h
  | .dT _ :: _, _, h => by cases h
  | .ins _ _ :: _, _, h => by cases h
  | .scr _ :: _, _, h => by cases h
  | .kt _ :: _, _, h => by cases h
  | .lk _ :: _, _, h => by cases h
@[simp] theorem dBools_map (bs : List Bool) : dBools (bs.map D.bl) = some bs := by
  induction bs with
  | nil => rfl
  | cons b bs ih => simp [dBools, ih]
def dAll : List D → Option D
  | [.lst xs] => bn1 (dBools xs) fun bs => some (.bl (bs.all id))
  | _ => none
def dAny : List D → Option D
  | [.lst xs] => bn1 (dBools xs) fun bs => some (.bl (bs.any id))
  | _ => none
theorem sim_all {ta : TA} {a : SA} (ha : SimA G ta a) : SimE G (tCB (rAll G.K) ta) (eB dAll a) := by
  refine sim_b (sim1s_one (fun ds z h => one_of h rfl fun a b r => by cases a <;> rfl) ?_) ha
  intro φ M H C x s d z hs r e hg Q hQ
  cases d with
  | lst xs =>
    obtain ⟨bs, h1, hg⟩ := bn1_i (show bn1 (dBools xs) _ = some z from hg)
    cases hg
    have ex := dBools_some h1
    subst ex
    obtain ⟨p, vs, rfl, t1, l, r⟩ := hs.seeL r e
    have ev := r.bls
    subst ev
    exact ⟨p, bs, rfl, .inl t1, hQ _ H Ext.refl hs (.bl _)⟩
  | _ => cases hg
theorem sim_any {ta : TA} {a : SA} (ha : SimA G ta a) : SimE G (tCB (rAny G.K) ta) (eB dAny a) := by
  refine sim_b (sim1s_one (fun ds z h => one_of h rfl fun a b r => by cases a <;> rfl) ?_) ha
  intro φ M H C x s d z hs r e hg Q hQ
  cases d with
  | lst xs =>
    obtain ⟨bs, h1, hg⟩ := bn1_i (show bn1 (dBools xs) _ = some z from hg)
    cases hg
    have ex := dBools_some h1
    subst ex
    obtain ⟨p, vs, rfl, t1, l, r⟩ := hs.seeL r e
    have ev := r.bls
    subst ev
    exact ⟨p, bs, rfl, .inl t1, hQ _ H Ext.refl hs (.bl _)⟩
  | _ => cases hg
/-! ### sum -/
def dInts : List D → Option (List Int)
  | [] => some []
  | .int b :: ds => bn1 (dInts ds) fun bs => some (b :: bs)
  | _ :: _ => none
theorem dInts_some : ∀ {ds : List D} {bs : List Int}, dInts ds = some bs → ds = bs.map D.int
  | [], bs, h => by cases h; rfl
  | .int b :: ds, bs, h => by
    unfold dInts at h
    obtain ⟨bs', h1, h⟩ := bn1_i h
    cases h
    rw [dInts_some h1]; rfl
  | .non :: _, _, h => by cases h
  | .bl _ :: _, _, h => by cases h
  | .str _ :: _, _, h => by cases h
  | .tup _ :: _, _, h => by cases h
  | .lst _ :: _, _, h => by cases h
  | .dK _ :: _, _, h => by cases h
  | .dT _ :: _, _, h => by cases h
  | .ins _ _ :: _, _, h => by cases h
  | .scr _ :: _, _, h => by cases h
  | .kt _ :: _, _, h => by cases h
  | .lk _ :: _, _, h => by cases h
@[simp] theorem dInts_map (bs : List Int) : dInts (bs.map D.int) = some bs := by
  induction bs with
  | nil => rfl
  | cons b bs ih => simp [dInts, ih]
def dSum : List D → Option D
  | [.lst xs] => bn1 (dInts xs) fun bs => some (.int bs.sum)
  | _ => none
theorem sim_sum {ta : TA} {a : SA} (ha : SimA G ta a) : SimE G (tCB (rSum G.K) ta) (eB dSum a) := by
  refine sim_b (sim1s_one (fun ds z h => one_of h rfl fun a b r => by cases a <;> rfl) ?_) ha
  intro φ M H C x s d z hs r e hg Q hQ
  cases d with
  | lst xs =>
    obtain ⟨bs, h1, hg⟩ := bn1_i (show bn1 (dInts xs) _ = some z from hg)
    cases hg
    have ex := dInts_some h1
    subst ex
    obtain ⟨p, vs, rfl, t1, l, r⟩ := hs.seeL r e
    have ev := r.ints
    subst ev
    exact ⟨p, bs, rfl, .inl t1, hQ _ H Ext.refl hs (.int _)⟩
  | _ => cases hg

/-! ### isinstance -/
inductive Ty where
  | int | str | bool | list | tuple | dict
def tyN : Ty → String
  | .int => "int" | .str => "str" | .bool => "bool" | .list => "list" | .tuple => "tuple" | .dict => "dict"
def isTy (d : D) (t : Ty) : Option Bool := match d with
  | .non => some false
  | .bl _ => match t with | .bool => some true | .int => some true | _ => some false
  | .int _ => match t with | .int => some true | _ => some false
  | .str _ => match t with | .str => some true | _ => some false
  | .tup _ => match t with | .tuple => some true | _ => some false
  | .lst _ => match t with | .list => some true | _ => some false
  | .dK _ => match t with | .dict => some true | _ => some false
  | _ => none
def tyD : D → String
  | .non => "NoneType" | .bl _ => "bool" | .int _ => "int" | .str _ => "str" | .tup _ => "tuple" | .lst _ => "list" | _ => "dict"
theorem kit_all : ∀ (d : D) (t : Ty) (b : Bool), isTy d t = some b → kitB (tyD d) (tyN t) = some b := by
  have h : ∀ (t : Ty), kitB "NoneType" (tyN t) = some false ∧ kitB "bool" (tyN t) = some (match t with | .bool => true | .int => true | _ => false) ∧ kitB "int" (tyN t) = some (match t with | .int => true | _ => false) ∧
      kitB "str" (tyN t) = some (match t with | .str => true | _ => false) ∧ kitB "tuple" (tyN t) = some (match t with | .tuple => true | _ => false) ∧ kitB "list" (tyN t) = some (match t with | .list => true | _ => false) ∧ kitB "dict" (tyN t) = some (match t with | .dict => true | _ => false) := by
    intro t
    cases t <;> decide +kernel
  intro d t b hb
  obtain ⟨h1, h2, h3, h4, h5, h6, h7⟩ := h t
  cases d <;> simp only [isTy, tyD] at hb ⊢ <;> first | (cases hb; assumption) | (cases t <;> (cases hb; assumption)) | cases hb
theorem Rp.ty {v : V} {d : D} {t : Ty} {b : Bool} (r : Rp G M H v d) (ht : isTy d t = some b) : TyX G.K H v (.type (tyD d)) := by
  cases r with
  | non => exact .base .non
  | bl b => exact .base (.bl b)
  | int i => exact .base (.int i)
  | str x => exact .base (.str x)
  | tup h l r => exact .base (.tup h.2)
  | lst n h l r =>
    rcases h with h | ⟨o, h⟩
    · exact .base (.lst h)
    · exact .base (.frz h)
  | dK n h l e r =>
    rcases h with h | ⟨o, h⟩
    · exact .base (.dK h)
    · exact .fDict h
  | dT n h l e r => cases ht
  | ins a b c d e f => cases ht
  | kt a b => cases ht
  | scr a b => cases ht
def eIsi (t : Ty) (f : SE) : SE := fun ρ C => bnd (f ρ C) fun v C1 => bn1 (see C1 v) fun d => bn1 (isTy d t) fun b => some (.dat (.bl b), C1)
theorem sim_isi {t : Ty} {te : TE} {f : SE} (he : SimE G te f) : SimE G (tCB (rIsi G.K) (tCons te (tCons (tC (.ty (tyN t))) tNil))) (eIsi t f) := by
  intro φ M H C σ ρ s C' hE hs e Q hQ
  obtain ⟨v, C1, h1, e⟩ := bnd_i e
  obtain ⟨d, h2, e⟩ := bn1_i e
  obtain ⟨b, h3, e⟩ := bn1_i e
  cases e
  refine he φ M H C σ ρ v C' hE hs h1 _ fun x H1 x1 s1 r1 => ?_
  exact ⟨x, _, _, _, b, rfl, .ty _, (s1.see_rp r1 h2).ty h3, kit_ty (kit_all d t b h3), hQ _ H1 x1 s1 (.bl b)⟩
/-- isinstance(x, (list, tuple)) -/
def eIsi2 (t u : Ty) (f : SE) : SE := fun ρ C => bnd (f ρ C) fun v C1 => bn1 (see C1 v) fun d => bn1 (isTy d t) fun b => bn1 (isTy d u) fun c => some (.dat (.bl (b || c)), C1)
theorem sim_isi2 {t u : Ty} {te : TE} {f : SE} (he : SimE G te f) : SimE G (tCB (rIsiT G.K) (tCons te (tCons (tTup (tCons (tC (.ty (tyN t))) (tCons (tC (.ty (tyN u))) tNil))) tNil))) (eIsi2 t u f) := by
  intro φ M H C σ ρ s C' hE hs e Q hQ
  obtain ⟨v, C1, h1, e⟩ := bnd_i e
  obtain ⟨d, h2, e⟩ := bn1_i e
  obtain ⟨b, h3, e⟩ := bn1_i e
  obtain ⟨c, h4, e⟩ := bn1_i e
  cases e
  refine he φ M H C σ ρ v C' hE hs h1 _ fun x H1 x1 s1 r1 => ?_
  refine ⟨by show 2 ≤ sizeLine; rw [sizeLine_eq]; omega, fun p hp => ?_⟩
  have x2 : Ext φ H1 (upd H1 p (.tup [.ty (tyN t), .ty (tyN u)])) := Ext.laid hp
  have s2 := s1.laid (o := .tup [.ty (tyN t), .ty (tyN u)]) hp
  have r2 := r1.ext x2 hs.sub
  refine ⟨x, p, [.ty (tyN t), .ty (tyN u)], _, [.type (tyN t), .type (tyN u)], b || c, rfl, upd_same, .cons (.ty _) (.cons (.ty _) .nil), (s2.see_rp r2 h2).ty h3, ?_, hQ _ _ (x1.trans x2) s2 (.bl _)⟩
  refine kitAny_cons (kit_ty (kit_all d t b h3)) (fun hb => ?_) (fun hb => by rw [hb]; rfl)
  rw [hb]
  refine kitAny_cons (kit_ty (kit_all d u c h4)) (fun hc => ?_) (fun hc => by rw [hc]; rfl)
  rw [hc]
  exact kitAny_nil
end
end DX

/-! DTst: tests. -/
namespace DX
open PySem PySem.Spec L2
section
variable {G : Gm} {ta tb te : TE} {f g : SE} {t u : TT} {p q : ST}
theorem sim_tTest (he : SimE G te f) : SimT G (tTest te) (tB' f) := by
  intro φ M H C σ ρ b C' hE hs e Q hQ
  obtain ⟨v, C1, h1, e⟩ := bnd_i e
  refine he φ M H C σ ρ v C1 hE hs h1 _ fun x H1 x1 s1 r1 => ?_
  cases v with
  | dat d =>
    cases d with
    | bl k => cases e; exact ⟨_, Rp.blI r1, hQ H1 x1 s1⟩
    | _ => cases e
  | cel n => cases e
theorem sim_tB (he : SimE G te f) : SimT G (tB te) (tB' f) := sim_tTest he
theorem sim_tAnd (h1 : SimT G t p) (h2 : SimT G u q) : SimT G (tAnd t u) (tAnd' p q) := by
  intro φ M H C σ ρ b C' hE hs e Q hQ
  obtain ⟨c, C1, q1, e⟩ := bnd_i e
  refine h1 φ M H C σ ρ c C1 hE hs q1 _ fun H1 x1 s1 => ?_
  cases c with
  | true => exact h2 φ M H1 C1 σ ρ b C' (hE.ext x1 hs.sub) s1 e Q fun H2 x2 s2 => hQ H2 (x1.trans x2) s2
  | false => cases e; exact hQ H1 x1 s1
theorem sim_tOr (h1 : SimT G t p) (h2 : SimT G u q) : SimT G (tOr t u) (tOr' p q) := by
  intro φ M H C σ ρ b C' hE hs e Q hQ
  obtain ⟨c, C1, q1, e⟩ := bnd_i e
  refine h1 φ M H C σ ρ c C1 hE hs q1 _ fun H1 x1 s1 => ?_
  cases c with
  | false => exact h2 φ M H1 C1 σ ρ b C' (hE.ext x1 hs.sub) s1 e Q fun H2 x2 s2 => hQ H2 (x1.trans x2) s2
  | true => cases e; exact hQ H1 x1 s1
theorem sim_tNot (h1 : SimT G t p) : SimT G (tNot t) (tNot' p) := by
  intro φ M H C σ ρ b C' hE hs e Q hQ
  obtain ⟨c, C1, q1, e⟩ := bnd_i e
  cases e
  exact h1 φ M H C σ ρ c C' hE hs q1 _ fun H1 x1 s1 => hQ H1 x1 s1
theorem tru_ok' {φ : List Addr} {M : Addr → Prop} {H : Hp} {C : Store} {x : V} {s : Sv} {d : D} {k : Bool} (hs : StR G φ M H C) (r : SvR G φ M H x s) (e : see C s = some d) (h : truD d = some k) : TruV G.K x H k := by
  cases d with
  | non => cases h; rw [(hs.see_rp r e).nonI]; exact rfl
  | bl b => cases h; rw [(hs.see_rp r e).blI]; exact rfl
  | int b => cases h; rw [(hs.see_rp r e).intI]; exact rfl
  | str b =>
    have h' : (if b.length ≤ sizeLine then some ((b.length : Int) != 0) else none) = some k := h
    by_cases hc : b.length ≤ sizeLine
    · rw [if_pos hc] at h'
      cases h'
      rw [(hs.see_rp r e).strI]
      exact ⟨hc, rfl⟩
    · rw [if_neg hc] at h'; cases h'
  | tup xs =>
    cases h
    obtain ⟨a, vs, rfl, h1, l, r1⟩ := hs.seeT r e
    refine .inr (.inl ⟨vs, h1.sq, ?_⟩)
    cases r1 <;> rfl
  | lst xs =>
    cases h
    obtain ⟨a, vs, rfl, h1, l, r1⟩ := hs.seeL r e
    refine .inl ⟨vs, .inl h1, ?_⟩
    cases r1 <;> rfl
  | _ => cases h
theorem sim_tTru (he : SimE G te f) : SimT G (fun σ H Q => te σ H fun x H' => ∃ k, TruV G.K x H' k ∧ Q k H') (tTru f) := by
  intro φ M H C σ ρ b C' hE hs e Q hQ
  obtain ⟨v, C1, h1, e⟩ := bnd_i e
  obtain ⟨d, h2, e⟩ := bn1_i e
  obtain ⟨k, h3, e⟩ := bn1_i e
  cases e
  refine he φ M H C σ ρ v C' hE hs h1 _ fun x H1 x1 s1 r1 => ⟨b, tru_ok' s1 r1 h2 h3, hQ H1 x1 s1⟩
theorem sim_tIf (hc : SimT G t p) (ha : SimE G ta f) (hb : SimE G tb g) : SimE G (tIf t ta tb) (eIf p f g) := by
  intro φ M H C σ ρ s C' hE hs e Q hQ
  obtain ⟨c, C1, q1, e⟩ := bnd_i e
  refine hc φ M H C σ ρ c C1 hE hs q1 _ fun H1 x1 s1 => ?_
  cases c with
  | true => exact ha φ M H1 C1 σ ρ s C' (hE.ext x1 hs.sub) s1 e Q fun v H2 x2 s2 r2 => hQ v H2 (x1.trans x2) s2 r2
  | false => exact hb φ M H1 C1 σ ρ s C' (hE.ext x1 hs.sub) s1 e Q fun v H2 x2 s2 r2 => hQ v H2 (x1.trans x2) s2 r2
theorem sim_nIf {f g : SN} (hc : SimT G t p) (ha : SimN G ta f) (hb : SimN G tb g) : SimN G (tIf t ta tb) (nIf p f g) := by
  intro φ M H C σ ρ s C' hE hs e Q hQ
  obtain ⟨c, C1, q1, e⟩ := bnd_i e
  refine hc φ M H C σ ρ c C1 hE hs q1 _ fun H1 x1 s1 => ?_
  cases c with
  | true => exact ha φ M H1 C1 σ ρ s C' (hE.ext x1 hs.sub) s1 e Q fun v H2 q2 x2 s2 r2 => hQ v H2 (x1.none_ q2) (x1.trans x2) s2 r2
  | false => exact hb φ M H1 C1 σ ρ s C' (hE.ext x1 hs.sub) s1 e Q fun v H2 q2 x2 s2 r2 => hQ v H2 (x1.none_ q2) (x1.trans x2) s2 r2
theorem sim_andV (ha : SimE G ta f) (hb : SimE G tb g) : SimE G (tAndV ta tb) (eAndV f g) := by
  intro φ M H C σ ρ s C' hE hs e Q hQ
  obtain ⟨v, C1, q1, e⟩ := bnd_i e
  refine ha φ M H C σ ρ v C1 hE hs q1 _ fun x H1 x1 s1 r1 => ?_
  cases v with
  | dat d =>
    cases d with
    | bl k =>
      refine ⟨k, Rp.blI r1, ?_⟩
      cases k with
      | true => exact hb φ M H1 C1 σ ρ s C' (hE.ext x1 hs.sub) s1 e Q fun v H2 x2 s2 r2 => hQ v H2 (x1.trans x2) s2 r2
      | false => cases e; exact hQ _ H1 x1 s1 (Rp.bl _)
    | _ => cases e
  | cel n => cases e
theorem sim_orV (ha : SimE G ta f) (hb : SimE G tb g) : SimE G (tOrV ta tb) (eOrV f g) := by
  intro φ M H C σ ρ s C' hE hs e Q hQ
  obtain ⟨v, C1, q1, e⟩ := bnd_i e
  refine ha φ M H C σ ρ v C1 hE hs q1 _ fun x H1 x1 s1 r1 => ?_
  cases v with
  | dat d =>
    cases d with
    | bl k =>
      refine ⟨k, Rp.blI r1, ?_⟩
      cases k with
      | false => exact hb φ M H1 C1 σ ρ s C' (hE.ext x1 hs.sub) s1 e Q fun v H2 x2 s2 r2 => hQ v H2 (x1.trans x2) s2 r2
      | true => cases e; exact hQ _ H1 x1 s1 (Rp.bl _)
    | _ => cases e
  | cel n => cases e
theorem sim_notV (ha : SimE G ta f) : SimE G (tNotV ta) (eNotV f) := by
  intro φ M H C σ ρ s C' hE hs e Q hQ
  obtain ⟨v, C1, q1, e⟩ := bnd_i e
  refine ha φ M H C σ ρ v C1 hE hs q1 _ fun x H1 x1 s1 r1 => ?_
  cases v with
  | dat d =>
    cases d with
    | bl k => cases e; exact ⟨k, Rp.blI r1, hQ _ H1 x1 s1 (Rp.bl _)⟩
    | _ => cases e
  | cel n => cases e
/-- x or y, new lists both: the one that is not empty -/
def nOrT (f g : SN) : SN := fun ρ C => bnd (f ρ C) fun d C1 => match d with
  | .lst [] => g ρ C1
  | .lst (x :: xs) => some (.lst (x :: xs), C1)
  | _ => none
theorem sim_nOrT {f g : SN} (ha : SimN G ta f) (hb : SimN G tb g) : SimN G (tOrT G.K ta tb) (nOrT f g) := by
  intro φ M H C σ ρ s C' hE hs e Q hQ
  obtain ⟨d, C1, q1, e⟩ := bnd_i e
  refine ha φ M H C σ ρ d C1 hE hs q1 _ fun p H1 hp x1 s1 r1 => ?_
  cases d with
  | lst xs =>
    cases xs with
    | nil =>
      obtain ⟨vs, h1, h2, h3⟩ := r1
      cases h3
      exact ⟨false, .inl ⟨[], .inl (.inl h1), rfl⟩, hb φ M H1 C1 σ ρ s C' (hE.ext x1 hs.sub) (s1.less (fun _ h => .inl h) hs.sub) e Q fun v H2 q2 x2 s2 r2 => hQ v H2 (x1.none_ q2) (x1.trans x2) s2 r2⟩
    | cons x xs =>
      have e' : some (D.lst (x :: xs), C1) = some (s, C') := e
      cases e'
      refine ⟨true, ?_, hQ p H1 hp x1 s1 r1⟩
      obtain ⟨vs, h1, h2, h3⟩ := r1
      refine .inl ⟨vs, .inl (.inl h1), ?_⟩
      cases h3; rfl
  | _ => cases e
end
end DX

/-! DIt: what a loop or a comprehension goes over; targets. -/
namespace DX
open PySem PySem.Spec L2

mutual
def sameD : D → D → Bool
  | .non, .non => true
  | .bl a, .bl b => decide (a = b)
  | .int a, .int b => decide (a = b)
  | .str a, .str b => decide (a = b)
  | .tup a, .tup b => sameL a b
  | .lst a, .lst b => sameL a b
  | .dK a, .dK b => sameK a b
  | .dT a, .dT b => sameT a b
  | .ins c a, .ins d b => decide (c = d) && sameF a b
  | .scr a, .scr b => decide (a = b)
  | .kt a, .kt b => sameL a b
  | .lk a, .lk b => sameD a b
  | _, _ => false
def sameL : List D → List D → Bool
  | [], [] => true
  | a :: as, b :: bs => sameD a b && sameL as bs
  | _, _ => false
def sameK : List (Key × D) → List (Key × D) → Bool
  | [], [] => true
  | (k, a) :: as, (l, b) :: bs => decide (k = l) && sameD a b && sameK as bs
  | _, _ => false
def sameT : List (List Key × D) → List (List Key × D) → Bool
  | [], [] => true
  | (k, a) :: as, (l, b) :: bs => decide (k = l) && sameD a b && sameT as bs
  | _, _ => false
def sameF : List (Str × D) → List (Str × D) → Bool
  | [], [] => true
  | (k, a) :: as, (l, b) :: bs => decide (k = l) && sameD a b && sameF as bs
  | _, _ => false
end
mutual
theorem sameD_eq : ∀ (a b : D), sameD a b = true → a = b
  | .non, b, h => by
    cases b with
    | non => rfl
    | _ => simp [sameD] at h
  | .bl a, b, h => by
    cases b with
    | bl b => rw [show a = b by simpa [sameD] using h]
    | _ => simp [sameD] at h
  | .int a, b, h => by
    cases b with
    | int b => rw [show a = b by simpa [sameD] using h]
    | _ => simp [sameD] at h
  | .str a, b, h => by
    cases b with
    | str b => rw [show a = b by simpa [sameD] using h]
    | _ => simp [sameD] at h
  | .scr a, b, h => by
    cases b with
    | scr b => rw [show a = b by simpa [sameD] using h]
    | _ => simp [sameD] at h
  | .tup a, b, h => by
    cases b with
    | tup b => rw [sameL_eq a b (by simpa [sameD] using h)]
    | _ => simp [sameD] at h
  | .lst a, b, h => by
    cases b with
    | lst b => rw [sameL_eq a b (by simpa [sameD] using h)]
    | _ => simp [sameD] at h
  | .kt a, b, h => by
    cases b with
    | kt b => rw [sameL_eq a b (by simpa [sameD] using h)]
    | _ => simp [sameD] at h
  | .dK a, b, h => by
    cases b with
    | dK b => rw [sameK_eq a b (by simpa [sameD] using h)]
    | _ => simp [sameD] at h
  | .dT a, b, h => by
    cases b with
    | dT b => rw [sameT_eq a b (by simpa [sameD] using h)]
    | _ => simp [sameD] at h
  | .ins c a, b, h => by
    cases b with
    | ins d b => 
      have h' : c = d ∧ sameF a b = true := by simpa [sameD] using h
      rw [h'.1, sameF_eq a b h'.2]
    | _ => simp [sameD] at h
  | .lk a, b, h => by
    cases b with
    | lk b => rw [sameD_eq a b (by simpa [sameD] using h)]
    | _ => simp [sameD] at h
theorem sameL_eq : ∀ (a b : List D), sameL a b = true → a = b
  | [], b, h => by
    cases b with
    | nil => rfl
    | cons _ _ => simp [sameL] at h
  | a :: as, b, h => by
    cases b with
    | nil => simp [sameL] at h
    | cons b bs =>
      have h' : sameD a b = true ∧ sameL as bs = true := by simpa [sameL] using h
      rw [sameD_eq a b h'.1, sameL_eq as bs h'.2]
theorem sameK_eq : ∀ (a b : List (Key × D)), sameK a b = true → a = b
  | [], b, h => by
    cases b with
    | nil => rfl
    | cons p _ => obtain ⟨_, _⟩ := p; simp [sameK] at h
  | (k, a) :: as, b, h => by
    cases b with
    | nil => simp [sameK] at h
    | cons p bs =>
      obtain ⟨l, b⟩ := p
      have h' : (k = l ∧ sameD a b = true) ∧ sameK as bs = true := by simpa [sameK] using h
      rw [h'.1.1, sameD_eq a b h'.1.2, sameK_eq as bs h'.2]
theorem sameT_eq : ∀ (a b : List (List Key × D)), sameT a b = true → a = b
  | [], b, h => by
    cases b with
    | nil => rfl
    | cons p _ => obtain ⟨_, _⟩ := p; simp [sameT] at h
  | (k, a) :: as, b, h => by
    cases b with
    | nil => simp [sameT] at h
    | cons p bs =>
      obtain ⟨l, b⟩ := p
      have h' : (k = l ∧ sameD a b = true) ∧ sameT as bs = true := by simpa [sameT] using h
      rw [h'.1.1, sameD_eq a b h'.1.2, sameT_eq as bs h'.2]
theorem sameF_eq : ∀ (a b : List (Str × D)), sameF a b = true → a = b
  | [], b, h => by
    cases b with
    | nil => rfl
    | cons p _ => obtain ⟨_, _⟩ := p; simp [sameF] at h
  | (k, a) :: as, b, h => by
    cases b with
    | nil => simp [sameF] at h
    | cons p bs =>
      obtain ⟨l, b⟩ := p
      have h' : (k = l ∧ sameD a b = true) ∧ sameF as bs = true := by simpa [sameF] using h
      rw [h'.1.1, sameD_eq a b h'.1.2, sameF_eq as bs h'.2]
end
mutual
theorem sameD_rfl : ∀ a : D, sameD a a = true
  | .non => by simp [sameD]
  | .bl a => by simp [sameD]
  | .int a => by simp [sameD]
  | .str a => by simp [sameD]
  | .tup a => by simp [sameD, sameL_rfl a]
  | .lst a => by simp [sameD, sameL_rfl a]
  | .kt a => by simp [sameD, sameL_rfl a]
  | .dK a => by simp [sameD, sameK_rfl a]
  | .dT a => by simp [sameD, sameT_rfl a]
  | .ins c a => by simp [sameD, sameF_rfl a]
  | .scr a => by simp [sameD]
  | .lk a => by simp [sameD, sameD_rfl a]
theorem sameL_rfl : ∀ a : List D, sameL a a = true
  | [] => by simp [sameL]
  | a :: as => by simp [sameL, sameD_rfl a, sameL_rfl as]
theorem sameK_rfl : ∀ a : List (Key × D), sameK a a = true
  | [] => by simp [sameK]
  | (k, a) :: as => by simp [sameK, sameD_rfl a, sameK_rfl as]
theorem sameT_rfl : ∀ a : List (List Key × D), sameT a a = true
  | [] => by simp [sameT]
  | (k, a) :: as => by simp [sameT, sameD_rfl a, sameT_rfl as]
theorem sameF_rfl : ∀ a : List (Str × D), sameF a a = true
  | [] => by simp [sameF]
  | (k, a) :: as => by simp [sameF, sameD_rfl a, sameF_rfl as]
end

/-- what is gone over: its items, and what must stay as it is meanwhile -/
structure Src where
  items : List D
  cels : List (Nat × D)
def stays (C : Store) : List (Nat × D) → Bool
  | [] => true
  | (n, d) :: r => (match C[n]? with
    | some e => sameD e d
    | none => false) && stays C r
abbrev SI := Env → Store → Option (Src × Store)
section
variable {G : Gm}
/-- what a walk must live with: what is not ours stays, ours keep their places -/
structure Stp (φ : List Addr) (M : Addr → Prop) (H : Hp) (φ2 : List Addr) (M2 : Addr → Prop) (H2 : Hp) : Prop where
  keeps : Keeps M M2 H H2
  at_ : ∀ (n : Nat) (a : Addr), φ[n]? = some a → φ2[n]? = some a
theorem Stp.refl {φ : List Addr} {M : Addr → Prop} {H : Hp} : Stp φ M H φ M H := ⟨⟨fun _ n _ => n, fun _ _ _ e => e⟩, fun _ _ e => e⟩
theorem Grow.stp {φ φ2 : List Addr} {M M2 : Addr → Prop} {H H2 : Hp} (g : Grow φ M H φ2 M2 H2) (sub : ∀ a ∈ φ, M a) : Stp φ M H φ2 M2 H2 := ⟨g.keeps sub, fun _ _ e => g.at_ e⟩
/-- at each later state the walk goes through the items -/
def ItR (G : Gm) (φ : List Addr) (M : Addr → Prop) (H : Hp) (J : It) (s : Src) : Prop :=
  ∀ φ2 M2 H2 C2, Stp φ M H φ2 M2 H2 → StR G φ2 M2 H2 C2 → stays C2 s.cels = true →
    J.stop s.items.length H2 ∧ ∀ (i : Nat) (d : D), s.items[i]? = some d → J.go i H2 ∧ ∀ x H3, J.yld i H2 x H3 → (H3 = H2 ∨ ∃ T w, H2 T = none ∧ H3 = upd H2 T w) ∧ Rp G M2 H3 x d
def SimI (G : Gm) (t : TI) (f : SI) : Prop :=
  ∀ φ M H C σ ρ s C', EnvR G φ M H σ ρ → StR G φ M H C → f ρ C = some (s, C') → ∀ R : It → Hp → Prop, (∀ J H', Ext φ H H' → StR G φ M H' C' → ItR G φ M H' J s → R J H') → t σ H R

/-- what is read of a slot's value now, and later while it stays -/
def keepOf (C : Store) : Sv → List (Nat × D)
  | .dat _ => []
  | .cel n => match C[n]? with
    | some d => [(n, d)]
    | none => []
theorem stays_keep {C : Store} {n : Nat} {d : D} (hn : C[n]? = some d) {C2 : Store} (h : stays C2 (keepOf C (.cel n)) = true) : C2[n]? = some d := by
  have e : keepOf C (.cel n) = [(n, d)] := by simp [keepOf, hn]
  rw [e] at h
  simp only [stays, Bool.and_true] at h
  cases q : C2[n]? with
  | none => rw [q] at h; cases h
  | some e' => rw [q] at h; rw [sameD_eq _ _ h]
theorem stays_append {C : Store} {a b : List (Nat × D)} : stays C (a ++ b) = (stays C a && stays C b) := by
  induction a with
  | nil => rfl
  | cons p a ih => obtain ⟨n, d⟩ := p; simp only [List.cons_append, stays, ih, Bool.and_assoc]
/-- a slot's value that is a list, at each later state -/
theorem later_see {φ : List Addr} {M : Addr → Prop} {H : Hp} {C : Store} {x : V} {s : Sv} {d : D} (hs : StR G φ M H C) (r : SvR G φ M H x s) (e : see C s = some d)
    {φ2 : List Addr} {M2 : Addr → Prop} {H2 : Hp} {C2 : Store} (g : Stp φ M H φ2 M2 H2) (s2 : StR G φ2 M2 H2 C2) (k : stays C2 (keepOf C s) = true) : SvR G φ2 M2 H2 x s ∧ see C2 s = some d := by
  refine ⟨r.keeps g.keeps fun n a _ e => g.at_ n a e, ?_⟩
  cases s with
  | dat d' => exact e
  | cel n =>
    have e' : (C[n]?).map unlk = some d := e
    cases hc : C[n]? with
    | none => rw [hc] at e'; cases e'
    | some c =>
      have := stays_keep hc k
      show (C2[n]?).map unlk = some d
      rw [this, ← hc]
      exact e'

/-! ### a list, a tuple, a text as it is -/
def iSeq (K : PySem.W.Frag) (tl : TE) : TI := fun σ H R => tl σ H fun x H1 => (∃ a, x = .ref a ∧ (∃ xs, SqL K H1 a xs) ∧ R (Itl K a) H1) ∨ (∃ a, x = .ref a ∧ (∃ xs, SqT K H1 a xs) ∧ R (Itt K a) H1) ∨ ∃ z, x = .str z ∧ R (Its z) H1
end
theorem pi_seq {X : Cx} {tg l : Expr} {tl : TE} (hl : PE X l tl) : PI X tg l (iSeq X.K tl) := by
  refine ⟨fun pins s σ H R I h => ?_⟩
  refine thn (hl.run pins s σ H _ I h) fun v s1 ⟨x, H1, I1, r1, q1⟩ => ?_
  rcases q1 with ⟨a, e, ⟨xs, hq⟩, q⟩ | ⟨a, e, ⟨xs, hq⟩, q⟩ | ⟨z, e, q⟩
  · subst e
    cases r1
    obtain ⟨its, rv, p, hz⟩ := I1.list hq
    exact wpAny_pyIter_list p.isList (pi_one (tk := s1.toks) I1 _ (turn_list a _) ⟨_, Heap.get?_push_size _ rfl, rfl, rfl⟩ q)
  · subst e
    cases r1
    obtain ⟨its, rv, p, hz⟩ := I1.tuple hq
    exact wpAny_pyIter_tuple (show s1.heap.IsTuple a its.toArray from p) (pi_one (tk := s1.toks) I1 _ (turn_tuple a _) ⟨_, Heap.get?_push_size _ rfl, rfl, rfl⟩ q)
  · subst e
    obtain ⟨t, rfl⟩ := r1
    cases ha : z.cps.all (· < 128)
    · exact wpAny_pyIter_wide ha (pi_one (tk := s1.toks) I1 _ (turn_str _ z t "str_iterator" (.inr rfl)) ⟨_, Heap.get?_push_size _ rfl, rfl, rfl⟩ q)
    · exact wpAny_pyIter_ascii ha (pi_one (tk := s1.toks) I1 _ (turn_str _ z t "str_ascii_iterator" (.inl rfl)) ⟨_, Heap.get?_push_size _ rfl, rfl, rfl⟩ q)
section
variable {G : Gm}
def chars (z : Str) : List D := z.cps.toList.map fun c => .str ⟨#[c]⟩
def itemsOf : D → Option (List D)
  | .lst xs => some xs
  | .tup xs => some xs
  | .kt xs => some xs
  | .scr ns => some (ns.map D.int)
  | .str z => some (chars z)
  | _ => none
def iSq (f : SE) : SI := fun ρ C => bnd (f ρ C) fun v C1 => bn1 (see C1 v) fun d => bn1 (itemsOf d) fun xs => some (⟨xs, keepOf C1 v⟩, C1)
theorem itr_list {φ : List Addr} {M : Addr → Prop} {H : Hp} {a : Addr} {src : Src} {ds : List D} (e : src.items = ds)
    (h : ∀ φ2 M2 H2 C2, Stp φ M H φ2 M2 H2 → StR G φ2 M2 H2 C2 → stays C2 src.cels = true → ∃ vs, SqL G.K H2 a vs ∧ RpL G M2 H2 vs ds) : ItR G φ M H (Itl G.K a) src := by
  intro φ2 M2 H2 C2 g s2 k
  obtain ⟨vs, q, r⟩ := h φ2 M2 H2 C2 g s2 k
  refine ⟨⟨vs, q, by rw [e, r.length]; exact Nat.le_refl _⟩, fun i d hd => ?_⟩
  rw [e] at hd
  obtain ⟨v, hv, rv⟩ := r.get hd
  refine ⟨⟨vs, v, q, hv⟩, fun x H3 y => ⟨.inl y.1, ?_⟩⟩
  have := y.2 vs q
  rw [hv] at this
  cases this
  rw [y.1]
  exact rv
theorem itr_tup {φ : List Addr} {M : Addr → Prop} {H : Hp} {a : Addr} {src : Src} {ds : List D} (e : src.items = ds)
    (h : ∀ φ2 M2 H2 C2, Stp φ M H φ2 M2 H2 → StR G φ2 M2 H2 C2 → stays C2 src.cels = true → ∃ vs, SqT G.K H2 a vs ∧ RpL G M2 H2 vs ds) : ItR G φ M H (Itt G.K a) src := by
  intro φ2 M2 H2 C2 g s2 k
  obtain ⟨vs, q, r⟩ := h φ2 M2 H2 C2 g s2 k
  refine ⟨⟨vs, q, by rw [e, r.length]; exact Nat.le_refl _⟩, fun i d hd => ?_⟩
  rw [e] at hd
  obtain ⟨v, hv, rv⟩ := r.get hd
  refine ⟨⟨vs, v, q, hv⟩, fun x H3 y => ⟨.inl y.1, ?_⟩⟩
  have := y.2 vs q
  rw [hv] at this
  cases this
  rw [y.1]
  exact rv
theorem rpl_ints {M : Addr → Prop} {H : Hp} : ∀ ks : List Int, RpL G M H (ks.map V.int) (ks.map D.int)
  | [] => .nil
  | k :: ks => .cons (.int k) (rpl_ints ks)
/-- a sequence that a slot's value is, at each later state: where it stands, and its items -/
theorem seq_at {φ : List Addr} {M : Addr → Prop} {H : Hp} {C : Store} {x : V} {s : Sv} {d : D} {xs : List D} (hs : StR G φ M H C) (r : SvR G φ M H x s) (e : see C s = some d) (hi : itemsOf d = some xs) :
    (∃ a, x = .ref a ∧ (∀ φ2 M2 H2 C2, Stp φ M H φ2 M2 H2 → StR G φ2 M2 H2 C2 → stays C2 (keepOf C s) = true → ∃ vs, SqL G.K H2 a vs ∧ RpL G M2 H2 vs xs)) ∨
    (∃ a, x = .ref a ∧ (∀ φ2 M2 H2 C2, Stp φ M H φ2 M2 H2 → StR G φ2 M2 H2 C2 → stays C2 (keepOf C s) = true → ∃ vs, SqT G.K H2 a vs ∧ RpL G M2 H2 vs xs)) ∨
    ∃ z, x = .str z ∧ xs = chars z := by
  have self : SvR G φ M H x s ∧ see C s = some d := ⟨r, e⟩
  cases d with
  | lst ds =>
    cases hi
    obtain ⟨a, vs, rfl, _, _, _⟩ := hs.seeL r e
    refine .inl ⟨a, rfl, fun φ2 M2 H2 C2 g s2 k => ?_⟩
    obtain ⟨r2, e2⟩ := later_see hs r e g s2 k
    obtain ⟨b, ws, eb, h1, _, h2⟩ := s2.seeL r2 e2
    cases eb
    exact ⟨ws, .inl h1, h2⟩
  | tup ds =>
    cases hi
    obtain ⟨a, vs, rfl, _, _, _⟩ := hs.seeT r e
    refine .inr (.inl ⟨a, rfl, fun φ2 M2 H2 C2 g s2 k => ?_⟩)
    obtain ⟨r2, e2⟩ := later_see hs r e g s2 k
    obtain ⟨b, ws, eb, h1, _, h2⟩ := s2.seeT r2 e2
    cases eb
    exact ⟨ws, h1.sq, h2⟩
  | kt ds =>
    cases hi
    obtain ⟨a, vs, rfl, _, _⟩ := hs.seeKT r e
    refine .inr (.inl ⟨a, rfl, fun φ2 M2 H2 C2 g s2 k => ?_⟩)
    obtain ⟨r2, e2⟩ := later_see hs r e g s2 k
    obtain ⟨b, ws, eb, h1, h2⟩ := s2.seeKT r2 e2
    cases eb
    exact ⟨ws, h1 H2, h2⟩
  | scr ns =>
    cases hi
    have r1 := hs.see_rp r e
    cases r1 with
    | @scr a ns h l =>
      refine .inl ⟨_, rfl, fun φ2 M2 H2 C2 g s2 k => ?_⟩
      obtain ⟨r2, e2⟩ := later_see hs r e g s2 k
      have r3 := s2.see_rp r2 e2
      cases r3 with
      | scr h2 l2 => exact ⟨_, h2.sq, rpl_ints ns⟩
  | str z =>
    cases hi
    exact .inr (.inr ⟨z, (hs.see_rp r e).strI, rfl⟩)
  | _ => cases hi
theorem itr_str {φ : List Addr} {M : Addr → Prop} {H : Hp} {z : Str} {src : Src} (e : src.items = chars z) : ItR G φ M H (Its z) src := by
  intro φ2 M2 H2 C2 g s2 k
  refine ⟨?_, fun i d hd => ?_⟩
  · show z.cps.size ≤ src.items.length
    rw [e]; unfold chars; rw [List.length_map, Array.length_toList]; exact Nat.le_refl _
  · rw [e] at hd
    unfold chars at hd
    rw [List.getElem?_map, Array.getElem?_toList] at hd
    cases hc : z.cps[i]? with
    | none => rw [hc] at hd; cases hd
    | some c =>
      rw [hc] at hd
      cases hd
      refine ⟨(Array.getElem?_eq_some_iff.mp hc).1, fun x H3 y => ⟨.inl y.1, ?_⟩⟩
      obtain ⟨c', h1, rfl⟩ := y.2
      rw [hc] at h1
      cases h1
      rw [y.1]
      exact .str _
theorem sim_iseq {te : TE} {f : SE} (he : SimE G te f) : SimI G (iSeq G.K te) (iSq f) := by
  intro φ M H C σ ρ src C' hE hs e R hR
  obtain ⟨v, C1, h1, e⟩ := bnd_i e
  obtain ⟨d, h2, e⟩ := bn1_i e
  obtain ⟨xs, h3, e⟩ := bn1_i e
  cases e
  refine he φ M H C σ ρ v C' hE hs h1 _ fun x H1 x1 s1 r1 => ?_
  rcases seq_at s1 r1 h2 h3 with ⟨a, rfl, q⟩ | ⟨a, rfl, q⟩ | ⟨z, rfl, q⟩
  · obtain ⟨vs, h4, _⟩ := q φ M H1 C' Stp.refl s1 (by
      cases v with
      | dat d => rfl
      | cel n =>
        have e' : (C'[n]?).map unlk = some d := h2
        cases hc : C'[n]? with
        | none => rw [hc] at e'; cases e'
        | some c => simp [keepOf, hc, stays, sameD_rfl])
    exact .inl ⟨a, rfl, ⟨vs, h4⟩, hR _ H1 x1 s1 (itr_list rfl q)⟩
  · obtain ⟨vs, h4, _⟩ := q φ M H1 C' Stp.refl s1 (by
      cases v with
      | dat d => rfl
      | cel n =>
        have e' : (C'[n]?).map unlk = some d := h2
        cases hc : C'[n]? with
        | none => rw [hc] at e'; cases e'
        | some c => simp [keepOf, hc, stays, sameD_rfl])
    exact .inr (.inl ⟨a, rfl, ⟨vs, h4⟩, hR _ H1 x1 s1 (itr_tup rfl q)⟩)
  · exact .inr (.inr ⟨z, rfl, hR _ H1 x1 s1 (itr_str q)⟩)
end
end DX

/-! DIt2: ranges, enumerate, zip; targets. -/
namespace DX
open PySem PySem.Spec L2
section
variable {G : Gm}
/-! ### range -/
def rngD (lo hi : Int) : List D := (List.range (hi - lo).toNat).map fun i => .int (lo + (i : Nat))
theorem itr_rng {φ : List Addr} {M : Addr → Prop} {H : Hp} {lo hi : Int} {src : Src} (e : src.items = rngD lo hi) : ItR G φ M H (Itr lo (hi - lo).toNat) src := by
  intro φ2 M2 H2 C2 g s2 k
  refine ⟨?_, fun i d hd => ?_⟩
  · show (hi - lo).toNat ≤ src.items.length
    rw [e]; unfold rngD; rw [List.length_map, List.length_range]; exact Nat.le_refl _
  · rw [e] at hd
    unfold rngD at hd
    rw [List.getElem?_map] at hd
    cases hc : (List.range (hi - lo).toNat)[i]? with
    | none => rw [hc] at hd; cases hd
    | some c =>
      rw [hc] at hd
      cases hd
      obtain ⟨h1, h2⟩ := List.getElem?_eq_some_iff.mp hc
      rw [List.getElem_range] at h2
      subst h2
      rw [List.length_range] at h1
      refine ⟨h1, fun x H3 y => ⟨.inl y.1, ?_⟩⟩
      rw [y.2, y.1]
      exact .int _
def smI (i : Int) : Prop := i.natAbs < 4611686018427387904
instance {i : Int} : Decidable (smI i) := inferInstanceAs (Decidable (_ < _))
theorem smI_b {i : Int} (h : smI i) : -(2 ^ 62) ≤ i ∧ i < 2 ^ 62 := by
  have e : (2 : Int) ^ 62 = 4611686018427387904 := rfl
  rw [e]
  unfold smI at h
  omega
theorem smI_nat {t : Nat} (h : t < 100000) : smI (t : Int) := by
  unfold smI
  omega
def iRg1 (a : SA) : SI := fun ρ C => bnd (a ρ C) fun vs C1 => match vs with
  | [.dat (.int j)] => gd (smI j) (some (⟨rngD 0 j, []⟩, C1))
  | _ => none
def iRg2 (a : SA) : SI := fun ρ C => bnd (a ρ C) fun vs C1 => match vs with
  | [.dat (.int i), .dat (.int j)] => gd (smI i ∧ smI j) (some (⟨rngD i j, []⟩, C1))
  | _ => none
theorem sim_irg1 {ta : TA} {a : SA} (ha : SimA G ta a) : SimI G (iRng1 ta) (iRg1 a) := by
  intro φ M H C σ ρ src C' hE hs e R hR
  obtain ⟨vs, C1, h1, e⟩ := bnd_i e
  refine ha φ M H C σ ρ vs C1 hE hs h1 _ fun xs H1 x1 s1 r1 => ?_
  split at e
  · rename_i j
    obtain ⟨h0, e⟩ := gd_i e
    obtain ⟨h3, h4⟩ := smI_b h0
    cases e
    cases r1 with
    | cons r t =>
      cases t
      refine ⟨j, by rw [Rp.intI r], h3, h4, ?_⟩
      have := hR _ H1 x1 s1 (itr_rng (lo := 0) (hi := j) rfl)
      simpa using this
  · cases e
theorem sim_irg2 {ta : TA} {a : SA} (ha : SimA G ta a) : SimI G (iRng2 ta) (iRg2 a) := by
  intro φ M H C σ ρ src C' hE hs e R hR
  obtain ⟨vs, C1, h1, e⟩ := bnd_i e
  refine ha φ M H C σ ρ vs C1 hE hs h1 _ fun xs H1 x1 s1 r1 => ?_
  split at e
  · rename_i i j
    obtain ⟨⟨h0, h00⟩, e⟩ := gd_i e
    obtain ⟨h3, h4⟩ := smI_b h0
    obtain ⟨h5, h6⟩ := smI_b h00
    cases e
    cases r1 with
    | cons r t =>
      cases t with
      | cons r2 t =>
        cases t
        exact ⟨i, j, by rw [Rp.intI r, Rp.intI r2], ⟨h3, h4, h5, h6⟩, hR _ H1 x1 s1 (itr_rng rfl)⟩
  · cases e

/-! ### enumerate, zip: pairs -/
def enumD (xs : List D) : List D := (List.range xs.length).zipWith (fun (i : Nat) x => .tup [.int (i : Nat), x]) xs
def zipD (xs ys : List D) : List D := xs.zipWith (fun x y => .tup [x, y]) ys
theorem stays_self {φ : List Addr} {M : Addr → Prop} {H : Hp} {C : Store} {v : Sv} {d : D} (h : see C v = some d) : stays C (keepOf C v) = true := by
  cases v with
  | dat d => rfl
  | cel n =>
    have e' : (C[n]?).map unlk = some d := h
    cases hc : C[n]? with
    | none => rw [hc] at e'; cases e'
    | some c => simp [keepOf, hc, stays, sameD_rfl]
theorem newPair {φ : List Addr} {M : Addr → Prop} {H : Hp} {C : Store} {T : Addr} {x y : V} {d e : D} (s : StR G φ M H C) (hT : H T = none) (r : Rp G M H x d) (q : Rp G M H y e) : Rp G M (upd H T (.tup [x, y])) (.ref T) (.tup [d, e]) := by
  have k := (Ext.laid (φ := φ) (o := .tup [x, y]) hT).keeps s.sub
  exact .tup ⟨s.nm hT, upd_same⟩ (by show 2 ≤ sizeLine; rw [sizeLine_eq]; omega) (.cons (r.keeps k) (.cons (q.keeps k) .nil))
def iEn (a : SA) : SI := fun ρ C => bnd (a ρ C) fun vs C1 => match vs with
  | [v] => bn1 (see C1 v) fun d => match d with
    | .lst xs => some (⟨enumD xs, keepOf C1 v⟩, C1)
    | .scr xs => some (⟨enumD (xs.map D.int), keepOf C1 v⟩, C1)
    | _ => none
  | _ => none
theorem itr_enum {φ : List Addr} {M : Addr → Prop} {H : Hp} {a : Addr} {src : Src} {ds : List D} (e : src.items = enumD ds)
    (h : ∀ φ2 M2 H2 C2, Stp φ M H φ2 M2 H2 → StR G φ2 M2 H2 C2 → stays C2 src.cels = true → ∃ vs, SqL G.K H2 a vs ∧ RpL G M2 H2 vs ds) : ItR G φ M H (Ite G.K a) src := by
  intro φ2 M2 H2 C2 g s2 k
  obtain ⟨vs, q, r⟩ := h φ2 M2 H2 C2 g s2 k
  refine ⟨⟨vs, q, by rw [e, r.length]; simp [enumD]⟩, fun i d hd => ?_⟩
  rw [e] at hd
  unfold enumD at hd
  rw [List.getElem?_zipWith] at hd
  cases h1 : (List.range ds.length)[i]? with
  | none => rw [h1] at hd; cases hd
  | some c =>
    cases h2 : ds[i]? with
    | none => rw [h1, h2] at hd; cases hd
    | some w =>
      rw [h1, h2] at hd
      cases hd
      have hc : c = i := by
        obtain ⟨_, z⟩ := List.getElem?_eq_some_iff.mp h1
        rw [List.getElem_range] at z
        exact z.symm
      subst hc
      obtain ⟨v, hv, rv⟩ := r.get h2
      refine ⟨⟨vs, v, q, hv⟩, fun x H3 y => ?_⟩
      obtain ⟨T, u, rfl, hT, rfl, hu⟩ := y
      have := hu vs q
      rw [hv] at this
      cases this
      exact ⟨.inr ⟨T, _, hT, rfl⟩, newPair s2 hT (.int _) rv⟩
theorem seqL_of {φ : List Addr} {M : Addr → Prop} {H : Hp} {C : Store} {x : V} {s : Sv} {d : D} {xs : List D} (hs : StR G φ M H C) (r : SvR G φ M H x s) (e : see C s = some d) (hi : d = .lst xs ∨ ∃ ns : List Int, d = .scr ns ∧ xs = ns.map D.int) :
    ∃ a, x = .ref a ∧ (∀ φ2 M2 H2 C2, Stp φ M H φ2 M2 H2 → StR G φ2 M2 H2 C2 → stays C2 (keepOf C s) = true → ∃ vs, SqL G.K H2 a vs ∧ RpL G M2 H2 vs xs) := by
  have hi' : itemsOf d = some xs := by
    rcases hi with rfl | ⟨ns, rfl, rfl⟩ <;> rfl
  rcases seq_at hs r e hi' with h | ⟨a, rfl, q⟩ | ⟨z, rfl, _⟩
  · exact h
  · have r0 := hs.see_rp r e
    rcases hi with rfl | ⟨ns, rfl, rfl⟩
    · obtain ⟨b, vs, eb, _⟩ := hs.seeL r e
      refine ⟨a, rfl, fun φ2 M2 H2 C2 g s2 k => ?_⟩
      obtain ⟨r2, e2⟩ := later_see hs r e g s2 k
      obtain ⟨b, ws, eb, h1, _, h2⟩ := s2.seeL r2 e2
      cases eb
      exact ⟨ws, .inl h1, h2⟩
    · cases r0 with
      | scr h l =>
        refine ⟨a, rfl, fun φ2 M2 H2 C2 g s2 k => ?_⟩
        obtain ⟨r2, e2⟩ := later_see hs r e g s2 k
        have r3 := s2.see_rp r2 e2
        cases r3 with
        | scr h2 l2 => exact ⟨_, h2.sq, rpl_ints ns⟩
  · have r0 := hs.see_rp r e
    rcases hi with rfl | ⟨ns, rfl, rfl⟩ <;> cases r0
theorem sim_ien {ta : TA} {a : SA} (ha : SimA G ta a) : SimI G (iEnum G.K ta) (iEn a) := by
  intro φ M H C σ ρ src C' hE hs e R hR
  obtain ⟨vs, C1, h1, e⟩ := bnd_i e
  refine ha φ M H C σ ρ vs C1 hE hs h1 _ fun xs H1 x1 s1 r1 => ?_
  split at e
  · rename_i v
    obtain ⟨d, h2, e⟩ := bn1_i e
    cases r1 with
    | cons r t =>
      cases t
      cases d with
      | lst ds =>
        cases e
        obtain ⟨p, rfl, q⟩ := seqL_of s1 r h2 (.inl rfl)
        obtain ⟨ws, h4, _⟩ := q φ M H1 C' Stp.refl s1 (stays_self (φ := φ) (M := M) (H := H1) h2)
        exact ⟨p, ws, rfl, h4, hR _ H1 x1 s1 (itr_enum rfl q)⟩
      | scr ns =>
        cases e
        obtain ⟨p, rfl, q⟩ := seqL_of s1 r h2 (.inr ⟨ns, rfl, rfl⟩)
        obtain ⟨ws, h4, _⟩ := q φ M H1 C' Stp.refl s1 (stays_self (φ := φ) (M := M) (H := H1) h2)
        exact ⟨p, ws, rfl, h4, hR _ H1 x1 s1 (itr_enum rfl q)⟩
      | _ => cases e
  · cases e
/-- zip: both lists, or both tuples -/
def iZp (a : SA) : SI := fun ρ C => bnd (a ρ C) fun vs C1 => match vs with
  | [v, w] => bn1 (see C1 v) fun d => bn1 (see C1 w) fun e => match d, e with
    | .lst xs, .lst ys => some (⟨zipD xs ys, keepOf C1 v ++ keepOf C1 w⟩, C1)
    | .tup xs, .tup ys => some (⟨zipD xs ys, keepOf C1 v ++ keepOf C1 w⟩, C1)
    | _, _ => none
  | _ => none
theorem zip_get {xs ys : List D} {i : Nat} {d : D} (h : (zipD xs ys)[i]? = some d) : ∃ x y, xs[i]? = some x ∧ ys[i]? = some y ∧ d = .tup [x, y] := by
  unfold zipD at h
  rw [List.getElem?_zipWith] at h
  cases h1 : xs[i]? with
  | none => rw [h1] at h; cases h
  | some c =>
    cases h2 : ys[i]? with
    | none => rw [h1, h2] at h; cases h
    | some w => rw [h1, h2] at h; cases h; exact ⟨c, w, rfl, rfl, rfl⟩
theorem itr_zip {φ : List Addr} {M : Addr → Prop} {H : Hp} {a b : Addr} {src : Src} {ds es : List D} (e : src.items = zipD ds es)
    (h : ∀ φ2 M2 H2 C2, Stp φ M H φ2 M2 H2 → StR G φ2 M2 H2 C2 → stays C2 src.cels = true → ∃ vs ws, SqL G.K H2 a vs ∧ RpL G M2 H2 vs ds ∧ SqL G.K H2 b ws ∧ RpL G M2 H2 ws es) : ItR G φ M H (Itz G.K a b) src := by
  intro φ2 M2 H2 C2 g s2 k
  obtain ⟨vs, ws, q1, r1, q2, r2⟩ := h φ2 M2 H2 C2 g s2 k
  have l1 := r1.length
  have l2 := r2.length
  refine ⟨⟨vs, ws, q1, q2, by rw [e]; simp only [zipD, List.length_zipWith]; omega⟩, fun i d hd => ?_⟩
  rw [e] at hd
  obtain ⟨x, y, hx, hy, rfl⟩ := zip_get hd
  obtain ⟨v, hv, rv⟩ := r1.get hx
  obtain ⟨w, hw, rw'⟩ := r2.get hy
  refine ⟨⟨vs, ws, v, w, q1, q2, hv, hw⟩, fun z H3 y => ?_⟩
  obtain ⟨T, u, u2, rfl, hT, rfl, hu, hu2⟩ := y
  have e1 := hu vs q1
  have e2 := hu2 ws q2
  rw [hv] at e1
  rw [hw] at e2
  cases e1
  cases e2
  exact ⟨.inr ⟨T, _, hT, rfl⟩, newPair s2 hT rv rw'⟩
theorem itr_zipT {φ : List Addr} {M : Addr → Prop} {H : Hp} {a b : Addr} {src : Src} {ds es : List D} (e : src.items = zipD ds es)
    (h : ∀ φ2 M2 H2 C2, Stp φ M H φ2 M2 H2 → StR G φ2 M2 H2 C2 → stays C2 src.cels = true → ∃ vs ws, SqT G.K H2 a vs ∧ RpL G M2 H2 vs ds ∧ SqT G.K H2 b ws ∧ RpL G M2 H2 ws es) : ItR G φ M H (RZ.ItzT G.K a b) src := by
  intro φ2 M2 H2 C2 g s2 k
  obtain ⟨vs, ws, q1, r1, q2, r2⟩ := h φ2 M2 H2 C2 g s2 k
  have l1 := r1.length
  have l2 := r2.length
  refine ⟨⟨vs, ws, q1, q2, by rw [e]; simp only [zipD, List.length_zipWith]; omega⟩, fun i d hd => ?_⟩
  rw [e] at hd
  obtain ⟨x, y, hx, hy, rfl⟩ := zip_get hd
  obtain ⟨v, hv, rv⟩ := r1.get hx
  obtain ⟨w, hw, rw'⟩ := r2.get hy
  refine ⟨⟨vs, ws, v, w, q1, q2, hv, hw⟩, fun z H3 y => ?_⟩
  obtain ⟨T, u, u2, rfl, hT, rfl, hu, hu2⟩ := y
  have e1 := hu vs q1
  have e2 := hu2 ws q2
  rw [hv] at e1
  rw [hw] at e2
  cases e1
  cases e2
  exact ⟨.inr ⟨T, _, hT, rfl⟩, newPair s2 hT rv rw'⟩
theorem sim_izp {ta : TA} {a : SA} (ha : SimA G ta a) : SimI G (RZ.iZipA G.K ta) (iZp a) := by
  intro φ M H C σ ρ src C' hE hs e R hR
  obtain ⟨vs, C1, h1, e⟩ := bnd_i e
  refine ha φ M H C σ ρ vs C1 hE hs h1 _ fun xs H1 x1 s1 r1 => ?_
  split at e
  · rename_i v w
    obtain ⟨d, h2, e⟩ := bn1_i e
    obtain ⟨d', h3, e⟩ := bn1_i e
    cases r1 with
    | cons r t =>
      cases t with
      | cons r' t =>
        cases t
        cases d with
        | lst ds =>
          cases d' with
          | lst es =>
            cases e
            obtain ⟨p, rfl, q⟩ := seqL_of s1 r h2 (.inl rfl)
            obtain ⟨p', rfl, q'⟩ := seqL_of s1 r' h3 (.inl rfl)
            have both : ∀ φ2 M2 H2 C2, Stp φ M H1 φ2 M2 H2 → StR G φ2 M2 H2 C2 → stays C2 (keepOf C' v ++ keepOf C' w) = true → ∃ vs ws, SqL G.K H2 p vs ∧ RpL G M2 H2 vs ds ∧ SqL G.K H2 p' ws ∧ RpL G M2 H2 ws es := fun φ2 M2 H2 C2 g s2 k => by
              rw [stays_append, Bool.and_eq_true] at k
              obtain ⟨vs, a1, a2⟩ := q φ2 M2 H2 C2 g s2 k.1
              obtain ⟨ws, b1, b2⟩ := q' φ2 M2 H2 C2 g s2 k.2
              exact ⟨vs, ws, a1, a2, b1, b2⟩
            obtain ⟨vs, ws, a1, _, b1, _⟩ := both φ M H1 C' Stp.refl s1 (by rw [stays_append, stays_self (φ := φ) (M := M) (H := H1) h2, stays_self (φ := φ) (M := M) (H := H1) h3]; rfl)
            exact ⟨p, p', vs, ws, rfl, .inl ⟨a1, b1, hR _ H1 x1 s1 (itr_zip rfl both)⟩⟩
          | _ => cases e
        | tup ds =>
          cases d' with
          | tup es =>
            cases e
            obtain ⟨p, vs, rfl, t1, l1, q1⟩ := s1.seeT r h2
            obtain ⟨p', ws, rfl, t2, l2, q2⟩ := s1.seeT r' h3
            refine ⟨p, p', vs, ws, rfl, .inr ⟨t1.sq, t2.sq, hR _ H1 x1 s1 (itr_zipT rfl fun φ2 M2 H2 C2 g s2 k => ?_)⟩⟩
            rw [stays_append, Bool.and_eq_true] at k
            obtain ⟨r2, e2⟩ := later_see s1 r h2 g s2 k.1
            obtain ⟨r3, e3⟩ := later_see s1 r' h3 g s2 k.2
            obtain ⟨_, vs2, eb, a1, _, a2⟩ := s2.seeT r2 e2
            obtain ⟨_, ws2, eb2, b1, _, b2⟩ := s2.seeT r3 e3
            cases eb
            cases eb2
            exact ⟨vs2, ws2, a1.sq, a2, b1.sq, b2⟩
          | _ => cases e
        | _ => cases e
  · cases e

/-! ### targets -/
/-- vs: the slots that it may store -/
def SimG (G : Gm) (g : TG) (b : D → Env → Option Env) (vs : List Nat) : Prop :=
  ∀ φ M H C σ ρ x d ρ', EnvR G φ M H σ ρ → StR G φ M H C → Rp G M H x d → b d ρ = some ρ' → ∀ Q : L2.St → Hp → Prop,
    (∀ σ', EnvR G φ M H σ' ρ' → σ'.length = σ.length → (∀ i, i ∉ vs → σ'[i]? = σ[i]?) → Q σ' H) → g x σ H Q
def SimGs (G : Gm) (g : TGs) (b : List D → Env → Option Env) (vs : List Nat) : Prop :=
  ∀ φ M H C σ ρ xs ds ρ', EnvR G φ M H σ ρ → StR G φ M H C → RpL G M H xs ds → b ds ρ = some ρ' → ∀ Q : L2.St → Hp → Prop,
    (∀ σ', EnvR G φ M H σ' ρ' → σ'.length = σ.length → (∀ i, i ∉ vs → σ'[i]? = σ[i]?) → Q σ' H) → g xs σ H Q
theorem EnvR.set {φ : List Addr} {M : Addr → Prop} {H : Hp} {σ : L2.St} {ρ : Env} (e : EnvR G φ M H σ ρ) (i : Nat) {v : V} {s : Sv} (r : SvR G φ M H v s) : EnvR G φ M H (σ.set i (some v)) (ρ.set i (some s)) := by
  refine ⟨by simp [e.len], fun j s' h => ?_⟩
  by_cases hj : i = j
  · subst hj
    by_cases hl : i < ρ.length
    · rw [List.getElem?_set_self hl] at h
      cases h
      exact ⟨v, by rw [List.getElem?_set_self (by rw [← e.len]; exact hl)], r⟩
    · rw [List.getElem?_eq_none (by simpa using hl)] at h; cases h
  · rw [List.getElem?_set_ne hj] at h ⊢
    exact e.at_ j s' h
def bName (i : Nat) : D → Env → Option Env := fun d ρ => some (ρ.set i (some (.dat d)))
theorem sim_gname {i : Nat} : SimG G (gName i) (bName i) [i] := by
  intro φ M H C σ ρ x d ρ' hE hs r e Q hQ
  cases e
  refine hQ _ (hE.set i r) (by simp) fun j hj => ?_
  rw [List.getElem?_set_ne (fun z => hj (by simp [z]))]
def bNil : List D → Env → Option Env := fun ds ρ => match ds with
  | [] => some ρ
  | _ => none
def bCons (b : D → Env → Option Env) (bs : List D → Env → Option Env) : List D → Env → Option Env := fun ds ρ => match ds with
  | d :: ds => bn1 (b d ρ) fun ρ' => bs ds ρ'
  | [] => none
theorem sim_gnil : SimGs G gNil bNil [] := by
  intro φ M H C σ ρ xs ds ρ' hE hs r e Q hQ
  cases r with
  | nil => cases e; exact ⟨rfl, hQ σ hE rfl fun _ _ => rfl⟩
  | cons _ _ => cases e
theorem sim_gcons {g : TG} {gs : TGs} {b : D → Env → Option Env} {bs : List D → Env → Option Env} {vs ws : List Nat} (h1 : SimG G g b vs) (h2 : SimGs G gs bs ws) : SimGs G (gCons g gs) (bCons b bs) (vs ++ ws) := by
  intro φ M H C σ ρ xs ds ρ' hE hs r e Q hQ
  cases r with
  | nil => cases e
  | cons r t =>
    obtain ⟨ρ1, e1, e⟩ := bn1_i e
    refine ⟨_, _, rfl, h1 φ M H C σ ρ _ _ ρ1 hE hs r e1 _ fun σ1 hE1 l1 k1 => ?_⟩
    refine h2 φ M H C σ1 ρ1 _ _ ρ' hE1 hs t e _ fun σ2 hE2 l2 k2 => ?_
    refine hQ σ2 hE2 (l2.trans l1) fun i hi => ?_
    have hi' : i ∉ vs ∧ i ∉ ws := by simpa using hi
    rw [k2 i hi'.2, k1 i hi'.1]
/-- (a, b, ..) = a tuple or a list of that length -/
def gSeq (K : PySem.W.Frag) (n : Nat) (t : TGs) : TG := fun v σ H Q => ∃ a xs, v = .ref a ∧ (SqT K H a xs ∨ SqL K H a xs) ∧ xs.length = n ∧ t xs σ H Q
end
theorem pg_seq {X : Cx} {es : List Expr} {k : Nat} {t : TGs} {n : Nat} {pos : Pos} (hc : X.calm = true) (h : PGs X es t)
    (hn : (assignEach es X.env).length = n := by rfl) (hst : (assignEach es X.env).findIdx? (·.1) = none := by rfl) : PG X (.Tuple es k pos) (gSeq X.K n t) := by
  refine ⟨fun pins s σ H v u Q I r hw => ?_⟩
  obtain ⟨a, xs, e1, hq | hq, hl, hw⟩ := hw
  · exact (pg_tup hc h hn hst).run pins s σ H v u Q I r ⟨a, xs, e1, hq, hl, hw⟩
  · exact (pg_unl hc h hn hst).run pins s σ H v u Q I r ⟨a, xs, e1, hq, hl, hw⟩
section
variable {G : Gm}
def bSeq (n : Nat) (bs : List D → Env → Option Env) : D → Env → Option Env := fun d ρ => match d with
  | .tup ds => gd (ds.length = n) (bs ds ρ)
  | .lst ds => gd (ds.length = n) (bs ds ρ)
  | _ => none
theorem sim_gseq {n : Nat} {gs : TGs} {bs : List D → Env → Option Env} {vs : List Nat} (h : SimGs G gs bs vs) : SimG G (gSeq G.K n gs) (bSeq n bs) vs := by
  intro φ M H C σ ρ x d ρ' hE hs r e Q hQ
  cases r with
  | tup h1 l t =>
    obtain ⟨hn, e⟩ := gd_i e
    exact ⟨_, _, rfl, .inl h1.sq, by rw [t.length]; exact hn, h φ M H C σ ρ _ _ ρ' hE hs t e Q hQ⟩
  | lst _ h1 l t =>
    obtain ⟨hn, e⟩ := gd_i e
    exact ⟨_, _, rfl, .inr (.inl h1), by rw [t.length]; exact hn, h φ M H C σ ρ _ _ ρ' hE hs t e Q hQ⟩
  | _ => cases e
end
end DX

/-! DLc: comprehensions. -/
namespace DX
open PySem PySem.Spec L2
/-- the slots of a comprehension's own names, forgotten -/
def wipeE (ρ : Env) : List Nat → Env
  | [] => ρ
  | v :: vs => (wipeE ρ vs).set v none
section
variable {G : Gm}
theorem EnvR.wipe {φ : List Addr} {M : Addr → Prop} {H : Hp} {σ : L2.St} {ρ : Env} (e : EnvR G φ M H σ ρ) : ∀ vs : List Nat, EnvR G φ M H (L2.wipe σ vs) (wipeE ρ vs)
  | [] => e
  | v :: vs => by
    have ih := EnvR.wipe e vs
    refine ⟨by simp [wipeE, L2.wipe, ih.len], fun j s h => ?_⟩
    unfold wipeE at h
    unfold L2.wipe
    by_cases hj : v = j
    · subst hj
      by_cases hl : v < (wipeE ρ vs).length
      · rw [List.getElem?_set_self hl] at h; cases h
      · rw [List.getElem?_eq_none (by simpa using hl)] at h; cases h
    · rw [List.getElem?_set_ne hj] at h ⊢
      exact ih.at_ j s h
theorem wipe_get {σ : L2.St} {i : Nat} : ∀ {vs : List Nat}, i < σ.length → (L2.wipe σ vs)[i]? = if i ∈ vs then some none else σ[i]?
  | [], h => by simp [L2.wipe]
  | v :: vs, h => by
    unfold L2.wipe
    by_cases hv : v = i
    · subst hv
      rw [List.getElem?_set_self (by rw [wipe_length]; exact h)]
      simp
    · rw [List.getElem?_set_ne hv, wipe_get h]
      by_cases hm : i ∈ vs
      · simp [hm]
      · simp [hm, Ne.symm hv]
theorem wipe_eq {σ σ' : L2.St} {vs : List Nat} (l : σ'.length = (L2.wipe σ vs).length) (k : ∀ i, i ∉ vs → σ'[i]? = (L2.wipe σ vs)[i]?) : L2.wipe σ' vs = L2.wipe σ vs := by
  apply List.ext_getElem?
  intro i
  rw [wipe_length] at l
  by_cases hi : i < σ.length
  · rw [wipe_get (by omega), wipe_get hi]
    by_cases hm : i ∈ vs
    · simp [hm]
    · rw [if_neg hm, if_neg hm, k i hm, wipe_get hi, if_neg hm]
  · rw [List.getElem?_eq_none (by rw [wipe_length]; omega), List.getElem?_eq_none (by rw [wipe_length]; omega)]

def datOf : Sv → Option D
  | .dat d => some d
  | .cel _ => none
def compL (cels : List (Nat × D)) (b : D → Env → Option Env) (tt : ST) (te : SE) (ρ : Env) : List D → Store → Option (List D × Store)
  | [], C => gd (stays C cels = true) (some ([], C))
  | d :: ds, C => gd (stays C cels = true) (bn1 (b d ρ) fun ρ1 => bnd (tt ρ1 C) fun k C1 =>
      if k = true then bnd (te ρ1 C1) fun v C2 => bn1 (datOf v) fun z => bnd (compL cels b tt te ρ ds C2) fun zs C3 => some (z :: zs, C3)
      else compL cels b tt te ρ ds C1)
def nLc (si : SI) (b : D → Env → Option Env) (tt : ST) (te : SE) (vs : List Nat) : SN := fun ρ C => bnd (si ρ C) fun src C1 => gd (src.items.length ≤ sizeLine) (bnd (compL src.cels b tt te (wipeE ρ vs) src.items C1) fun zs C2 => some (.lst zs, C2))
def tYes' : ST := fun _ C => some (true, C)
theorem sim_tyes : SimT G tYes tYes' := by
  intro φ M H C σ ρ b C' hE hs e Q hQ
  cases e
  exact hQ H Ext.refl hs
theorem Rp.step {φ : List Addr} {M : Addr → Prop} {H H3 : Hp} {C : Store} (s : StR G φ M H C) (h : H3 = H ∨ ∃ T w, H T = none ∧ H3 = upd H T w) : Ext φ H H3 ∧ StR G φ M H3 C := by
  rcases h with rfl | ⟨T, w, hT, rfl⟩
  · exact ⟨Ext.refl, s⟩
  · exact ⟨Ext.laid hT, s.laid hT⟩
theorem lc_by {J : It} {n : Nat} {g : TG} {tt : TT} {te : TE} {vs : List Nat} {σ : L2.St} {H1 : Hp} {Dn : Addr} {Qd : Hp → Prop} (Pv : Nat → Hp → Prop) (h0 : Pv 0 (upd H1 Dn (.lst [])))
    (hs : ∀ i H, i < n → Pv i H → J.go i H ∧ ∀ x H', J.yld i H x H' → g x (L2.wipe σ vs) H' fun σ2 H2 => L2.wipe σ2 vs = L2.wipe σ vs ∧ tt σ2 H2 fun b H3 =>
      if b = true then te σ2 H3 fun y H4 => ∃ acc, H4 Dn = some (.lst acc) ∧ acc.length < sizeLine ∧ Pv (i + 1) (upd H4 Dn (.lst (acc ++ [y]))) else Pv (i + 1) H3) (hd : ∀ H, Pv n H → J.stop n H ∧ Qd H) :
    ∃ W : Nat → Nat → Hp → Prop, (∃ m, W 0 m (upd H1 Dn (.lst []))) ∧ ∀ i m H, W i m H →
      (J.stop i H ∧ Qd H) ∨ (J.go i H ∧ ∃ Nx : Hp → Prop, (∀ H', Nx H' → ∃ m', m' < m ∧ W (i + 1) m' H') ∧ ∀ x H', J.yld i H x H' → g x (L2.wipe σ vs) H' fun σ2 H2 => L2.wipe σ2 vs = L2.wipe σ vs ∧ tt σ2 H2 fun b H3 =>
        if b = true then te σ2 H3 fun y H4 => ∃ acc, H4 Dn = some (.lst acc) ∧ acc.length < sizeLine ∧ Nx (upd H4 Dn (.lst (acc ++ [y]))) else Nx H3) := by
  refine ⟨fun i m H => m = n - i ∧ i ≤ n ∧ Pv i H, ⟨n, by simp, Nat.zero_le _, h0⟩, fun i m H ⟨hm, hi, p⟩ => ?_⟩
  subst hm
  by_cases hlt : i < n
  · obtain ⟨a, b⟩ := hs i H hlt p
    exact .inr ⟨a, Pv (i + 1), fun H' p' => ⟨n - (i + 1), by omega, rfl, hlt, p'⟩, b⟩
  · have e : i = n := by omega
    subst e
    exact .inl (hd H p)
theorem lc_at {φ : List Addr} {M : Addr → Prop} {H : Hp} {C : Store} {σ : L2.St} {ρ : Env} {wi : TI} {g : TG} {tt : TT} {te : TE} {vs ws : List Nat} {b : D → Env → Option Env} {ft : ST} {fe : SE} {src : Src} {C1 C' : Store} {zs : List D} {Q : VK} (hE : EnvR G φ M H σ ρ) (hs : StR G φ M H C)
    (hI : ∀ R : It → Hp → Prop, (∀ J H', Ext φ H H' → StR G φ M H' C1 → ItR G φ M H' J src → R J H') → wi σ H R) (hG : SimG G g b ws) (hw : ∀ i ∈ ws, i ∈ vs) (hT : SimT G tt ft) (hE' : SimE G te fe)
    (hlen : src.items.length ≤ sizeLine) (h2 : compL src.cels b ft fe (wipeE ρ vs) src.items C1 = some (zs, C'))
    (hQ : ∀ p H', H p = none → Ext φ H H' → StR G φ (fun a => M a ∨ a = p) H' C' → CelR G (fun a => M a ∨ a = p) H' p (.lst zs) → Q (.ref p) H') : tLc wi g tt te vs σ H Q := by
  refine hI _ fun J H1 x1 s1 itr => fun Dn hD => ?_
  have hDφ : Dn ∉ φ := fun z => s1.live _ (s1.sub _ z) hD
  -- the word
  refine lc_by (n := src.items.length) (fun i H' => ∃ Ci acc accV zs', StR G φ (fun a => M a ∨ a = Dn) H' Ci ∧ Grow φ M H1 φ (fun a => M a ∨ a = Dn) H' ∧ H' Dn = some (.lst accV) ∧ RpL G (fun a => M a ∨ a = Dn) H' accV acc ∧ accV.length ≤ i ∧
      compL src.cels b ft fe (wipeE ρ vs) (src.items.drop i) Ci = some (zs', C') ∧ zs = acc ++ zs') ⟨C1, [], [], zs, s1.laidM hD, ?_, upd_same, .nil, Nat.le_refl _, by simpa using h2, rfl⟩ (fun i H' hlt ⟨Ci, acc, accV, zs', s', g', hDv, rv, hacc, hc, hz⟩ => ?_) (fun H' ⟨Ci, acc, accV, zs', s', g', hDv, rv, hacc, hc, hz⟩ => ?_)
  · refine ⟨⟨[], by simp, fun _ h => by cases h⟩, fun a u e _ => by rw [upd_ne (ne_of_none e hD)]; exact e, fun a h => ?_, fun _ h => .inl h, fun a h => ?_⟩
    · by_cases z : a = Dn
      · subst z; rw [upd_same]; simp
      · rw [upd_ne z]; exact h
    · rcases h with h | h
      · exact .inl h
      · rw [h]; exact .inr hD
  · have hget : src.items[i]? = some src.items[i] := List.getElem?_eq_getElem hlt
    have hdrop : src.items.drop i = src.items[i] :: src.items.drop (i + 1) := List.drop_eq_getElem_cons hlt
    rw [hdrop] at hc
    obtain ⟨hst, hc⟩ := gd_i hc
    obtain ⟨jstop, jgo⟩ := itr φ _ H' Ci (g'.stp s1.sub) s' hst
    obtain ⟨ρ1, hb, hc⟩ := bn1_i hc
    obtain ⟨k, Cb, ht, hc⟩ := bnd_i hc
    obtain ⟨go, yl⟩ := jgo i _ hget
    refine ⟨go, fun x H3 y => ?_⟩
    obtain ⟨hst3, rx⟩ := yl x H3 y
    obtain ⟨x3, s3⟩ := Rp.step s' hst3
    have g3 := g'.trans x3.grow
    have hD3 : H3 Dn = some (.lst accV) := x3.keep _ _ hDv hDφ
    have rv3 : RpL G (fun a => M a ∨ a = Dn) H3 accV acc := rv.keeps (x3.keeps s'.sub)
    have hE3 : EnvR G φ (fun a => M a ∨ a = Dn) H3 (L2.wipe σ vs) (wipeE ρ vs) := ((hE.ext x1 hs.sub).grow g3 s1.sub).wipe vs
    refine hG φ _ H3 Ci _ _ x _ ρ1 hE3 s3 rx hb _ fun σ2 hE2 l2 k2 => ⟨wipe_eq l2 fun j hj => k2 j fun z => hj (hw j z), ?_⟩
    refine hT φ _ H3 Ci σ2 ρ1 k Cb hE2 s3 ht _ fun H4 x4 s4 => ?_
    have g4 := g3.trans x4.grow
    have hD4 := x4.keep _ _ hD3 hDφ
    have rv4 := rv3.keeps (x4.keeps s3.sub)
    cases k with
    | false =>
      rw [if_neg Bool.false_ne_true] at hc ⊢
      exact ⟨Cb, acc, accV, zs', s4, g4, hD4, rv4, by omega, hc, hz⟩
    | true =>
      rw [if_pos rfl] at hc ⊢
      obtain ⟨v, Cv, hv, hc⟩ := bnd_i hc
      obtain ⟨z, hz1, hc⟩ := bn1_i hc
      obtain ⟨zs2, C3, hc2, hc⟩ := bnd_i hc
      cases hc
      cases v with
      | cel n => cases hz1
      | dat z0 =>
        cases hz1
        refine hE' φ _ H4 Cb σ2 ρ1 _ Cv (hE2.ext x4 s3.sub) s4 hv _ fun y H5 x5 s5 r5 => ?_
        have g5 := g4.trans x5.grow
        have hD5 := x5.keep _ _ hD4 hDφ
        have rv5 := rv4.keeps (x5.keeps s4.sub)
        have kw : Keeps (fun a => M a ∨ a = Dn) (fun a => M a ∨ a = Dn) H5 (upd H5 Dn (.lst (accV ++ [y]))) := keepsW (.inr rfl)
        refine ⟨accV, hD5, by omega, Cv, acc ++ [z], accV ++ [y], zs2, s5.wroteM (.inr rfl) hDφ, ?_, upd_same, ?_, ?_, hc2, by rw [hz, List.append_assoc]; rfl⟩
        · refine ⟨g5.pre, fun a u e hn => ?_, fun a h => ?_, g5.up, g5.new⟩
          · rw [upd_ne (ne_of_none e hD)]; exact g5.keep a u e hn
          · by_cases z : a = Dn
            · subst z; rw [upd_same]; simp
            · rw [upd_ne z]; exact g5.live a h
        · exact (rv5.append (.one r5)).keeps kw
        · rw [List.length_append, List.length_singleton]; omega
  · rw [List.drop_length] at hc
    obtain ⟨hst, hc⟩ := gd_i hc
    cases hc
    refine ⟨(itr φ _ H' _ (g'.stp s1.sub) s' hst).1, ?_⟩
    have xx : Ext φ H H' := x1.trans ⟨g'.keep, g'.live⟩
    refine hQ Dn H' (x1.none_ hD) xx s' ⟨accV, hDv, by omega, ?_⟩
    rw [hz, List.append_nil]
    exact rv
theorem sim_nlc {wi : TI} {g : TG} {tt : TT} {te : TE} {vs ws : List Nat} {si : SI} {b : D → Env → Option Env} {ft : ST} {fe : SE} (hI : SimI G wi si) (hG : SimG G g b ws) (hw : ∀ i ∈ ws, i ∈ vs) (hT : SimT G tt ft) (hE' : SimE G te fe) :
    SimN G (tLc wi g tt te vs) (nLc si b ft fe vs) := by
  intro φ M H C σ ρ d C' hE hs e Q hQ
  obtain ⟨src, C1, h1, e⟩ := bnd_i e
  obtain ⟨hlen, e⟩ := gd_i e
  obtain ⟨zs, C2, h2, e⟩ := bnd_i e
  cases e
  exact lc_at hE hs (hI φ M H C σ ρ src C1 hE hs h1) hG hw hT hE' hlen h2 hQ
end
end DX

/-! DStm: statements. -/
namespace DX
open PySem PySem.Spec L2
section
variable {G : Gm}
/-- what a statement's end must serve -/
def EndR (G : Gm) (φ : List Addr) (M : Addr → Prop) (H : Hp) (o : Fl) (C' : Store) (Dd : Ends) : Prop := match o with
  | .nx ρ' => ∀ φ' M' σ' H', Grow φ M H φ' M' H' → EnvR G φ' M' H' σ' ρ' → StR G φ' M' H' C' → Dd.nx σ' H'
  | .bk ρ' => ∀ φ' M' σ' H', Grow φ M H φ' M' H' → EnvR G φ' M' H' σ' ρ' → StR G φ' M' H' C' → Dd.bk σ' H'
  | .ct ρ' => ∀ φ' M' σ' H', Grow φ M H φ' M' H' → EnvR G φ' M' H' σ' ρ' → StR G φ' M' H' C' → Dd.ct σ' H'
  | .rt s => ∀ φ' M' v H', Grow φ M H φ' M' H' → StR G φ' M' H' C' → SvR G φ' M' H' v s → Dd.rt v H'
def SimS (G : Gm) (t : TS) (f : SS) : Prop :=
  ∀ φ M H C σ ρ o C', EnvR G φ M H σ ρ → StR G φ M H C → f ρ C = some (o, C') → ∀ Dd : Ends, EndR G φ M H o C' Dd → t Dd σ H
theorem EndR.grow {φ φ1 : List Addr} {M M1 : Addr → Prop} {H H1 : Hp} {o : Fl} {C' : Store} {Dd : Ends} (h : EndR G φ M H o C' Dd) (g : Grow φ M H φ1 M1 H1) : EndR G φ1 M1 H1 o C' Dd := by
  cases o with
  | nx ρ => exact fun φ' M' σ' H' g' => h φ' M' σ' H' (g.trans g')
  | bk ρ => exact fun φ' M' σ' H' g' => h φ' M' σ' H' (g.trans g')
  | ct ρ => exact fun φ' M' σ' H' g' => h φ' M' σ' H' (g.trans g')
  | rt s => exact fun φ' M' v H' g' => h φ' M' v H' (g.trans g')

/-! ### blocks -/
def sNil : SS := fun ρ C => some (.nx ρ, C)
def sSeq (m1 m2 : SS) : SS := fun ρ C => bnd (m1 ρ C) fun o C1 => match o with
  | .nx ρ1 => m2 ρ1 C1
  | o => some (o, C1)
theorem sim_snil : SimS G tNext sNil := by
  intro φ M H C σ ρ o C' hE hs e Dd hD
  cases e
  exact hD φ M σ H Grow.refl hE hs
theorem sim_sseq {t u : TS} {f g : SS} (h1 : SimS G t f) (h2 : SimS G u g) : SimS G (tSeq t u) (sSeq f g) := by
  intro φ M H C σ ρ o C' hE hs e Dd hD
  obtain ⟨o1, C1, q1, e⟩ := bnd_i e
  refine h1 φ M H C σ ρ o1 C1 hE hs q1 _ ?_
  cases o1 with
  | nx ρ1 => exact fun φ' M' σ' H' g' hE' hs' => h2 φ' M' H' C1 σ' ρ1 o C' hE' hs' e Dd (hD.grow g')
  | bk ρ1 => cases e; exact hD
  | ct ρ1 => cases e; exact hD
  | rt s => cases e; exact hD

/-! ### small statements -/
def sDrop (f : SE) : SS := fun ρ C => bnd (f ρ C) fun _ C1 => some (.nx ρ, C1)
theorem sim_sdrop {te : TE} {f : SE} (he : SimE G te f) : SimS G (tDrop te) (sDrop f) := by
  intro φ M H C σ ρ o C' hE hs e Dd hD
  obtain ⟨v, C1, q1, e⟩ := bnd_i e
  cases e
  exact he φ M H C σ ρ v C' hE hs q1 _ fun x H1 x1 s1 r1 => hD φ M σ H1 x1.grow (hE.ext x1 hs.sub) s1
def sRet (f : SE) : SS := fun ρ C => bnd (f ρ C) fun v C1 => some (.rt v, C1)
theorem sim_sret {te : TE} {f : SE} (he : SimE G te f) : SimS G (tRet te) (sRet f) := by
  intro φ M H C σ ρ o C' hE hs e Dd hD
  obtain ⟨v, C1, q1, e⟩ := bnd_i e
  cases e
  exact he φ M H C σ ρ v C' hE hs q1 _ fun x H1 x1 s1 r1 => hD φ M x H1 x1.grow s1 r1
def sRetN : SS := fun ρ C => some (.rt (.dat .non), C)
theorem sim_sretN : SimS G tRetN sRetN := by
  intro φ M H C σ ρ o C' hE hs e Dd hD
  cases e
  exact hD φ M .non H Grow.refl hs .non
/-- a new thing that changes, at p -/
theorem alloc_ok {φ : List Addr} {M : Addr → Prop} {H : Hp} {C : Store} {p : Addr} {d : D} (hs : StR G φ (fun a => M a ∨ a = p) H C) (sub : ∀ a ∈ φ, M a) (nM : ¬ M p) (c : CelR G (fun a => M a ∨ a = p) H p d) : StR G (φ ++ [p]) (fun a => M a ∨ a = p) H (C ++ [d]) := by
  have npφ : p ∉ φ := fun z => nM (sub p z)
  refine ⟨by simp [hs.len], ?_, fun a h => ?_, hs.live, fun n e a h1 h2 => ?_, hs.mt⟩
  · rw [List.nodup_append]
    refine ⟨hs.nd, by simp, fun a ha b hb => ?_⟩
    have : b = p := by simpa using hb
    subst this
    exact fun z => npφ (z ▸ ha)
  · rcases List.mem_append.mp h with z | z
    · exact .inl (sub a z)
    · exact .inr (by simpa using z)
  · by_cases hn : n < C.length
    · rw [List.getElem?_append_left hn] at h1
      rw [List.getElem?_append_left (by rw [hs.len]; exact hn)] at h2
      exact hs.cel n e a h1 h2
    · have hl := hs.len
      have en : n = C.length := by
        have := (List.getElem?_eq_some_iff.mp h1).1
        simp at this
        omega
      subst en
      rw [List.getElem?_concat_length] at h1
      rw [← hl, List.getElem?_concat_length] at h2
      cases h1
      cases h2
      exact c
/-- the growth with it -/
theorem alloc_grow {φ : List Addr} {M : Addr → Prop} {H H' : Hp} {p : Addr} (x : Ext φ H H') (hp : H p = none) : Grow φ M H (φ ++ [p]) (fun a => M a ∨ a = p) H' :=
  ⟨⟨[p], rfl, fun q hq => by rw [List.mem_singleton.mp hq]; exact hp⟩, x.keep, x.live, fun _ h => .inl h, fun a h => by
    rcases h with h | h
    · exact .inl h
    · rw [h]; exact .inr hp⟩
/-- name = a new thing that changes -/
def sNew (i : Nat) (f : SN) : SS := fun ρ C => bnd (f ρ C) fun d C1 => some (.nx (ρ.set i (some (.cel C1.length))), C1 ++ [d])
theorem sim_snew {i : Nat} {te : TE} {f : SN} (he : SimN G te f) : SimS G (tAsg te (gName i)) (sNew i f) := by
  intro φ M H C σ ρ o C' hE hs e Dd hD
  obtain ⟨d, C1, q1, e⟩ := bnd_i e
  cases e
  refine he φ M H C σ ρ d C1 hE hs q1 _ fun p H1 hp x1 s1 c1 => ?_
  have g := alloc_grow (M := M) x1 hp
  have s2 := alloc_ok s1 hs.sub (fun z => hs.live p z hp) c1
  refine hD _ _ _ H1 g ((hE.grow g hs.sub).set i (s := .cel C1.length) ⟨p, ?_, rfl⟩) s2
  have hl := s1.len
  rw [← hl]
  exact List.getElem?_concat_length
/-- name = value -/
def sSet (i : Nat) (f : SE) : SS := fun ρ C => bnd (f ρ C) fun v C1 => some (.nx (ρ.set i (some v)), C1)
theorem sim_sset {i : Nat} {te : TE} {f : SE} (he : SimE G te f) : SimS G (tAsg te (gName i)) (sSet i f) := by
  intro φ M H C σ ρ o C' hE hs e Dd hD
  obtain ⟨v, C1, q1, e⟩ := bnd_i e
  cases e
  exact he φ M H C σ ρ v C' hE hs q1 _ fun x H1 x1 s1 r1 => hD φ M _ H1 x1.grow ((hE.ext x1 hs.sub).set i r1) s1
/-- targets = value -/
def sUnp (b : D → Env → Option Env) (f : SE) : SS := fun ρ C => bnd (f ρ C) fun v C1 => bn1 (datOf v) fun d => bn1 (b d ρ) fun ρ1 => some (.nx ρ1, C1)
theorem sim_sunp {te : TE} {g : TG} {b : D → Env → Option Env} {vs : List Nat} {f : SE} (he : SimE G te f) (hg : SimG G g b vs) : SimS G (tAsg te g) (sUnp b f) := by
  intro φ M H C σ ρ o C' hE hs e Dd hD
  obtain ⟨v, C1, q1, e⟩ := bnd_i e
  obtain ⟨d, q2, e⟩ := bn1_i e
  obtain ⟨ρ1, q3, e⟩ := bn1_i e
  cases e
  refine he φ M H C σ ρ v C' hE hs q1 _ fun x H1 x1 s1 r1 => ?_
  cases v with
  | dat d' =>
    cases q2
    exact hg φ M H1 C' σ ρ x _ ρ1 (hE.ext x1 hs.sub) s1 r1 q3 _ fun σ' hE' _ _ => hD φ M σ' H1 x1.grow hE' s1
  | cel n => cases q2
/-- return of a new thing -/
def sRetNew (f : SN) : SS := fun ρ C => bnd (f ρ C) fun d C1 => some (.rt (.cel C1.length), C1 ++ [d])
theorem sim_sretnew {te : TE} {f : SN} (he : SimN G te f) : SimS G (tRet te) (sRetNew f) := by
  intro φ M H C σ ρ o C' hE hs e Dd hD
  obtain ⟨d, C1, q1, e⟩ := bnd_i e
  cases e
  refine he φ M H C σ ρ d C1 hE hs q1 _ fun p H1 hp x1 s1 c1 => ?_
  refine hD _ _ _ H1 (alloc_grow (M := M) x1 hp) (alloc_ok s1 hs.sub (fun z => hs.live p z hp) c1) ⟨p, ?_, rfl⟩
  rw [← s1.len]
  exact List.getElem?_concat_length

/-! ### if -/
def sIf (c : ST) (f g : SS) : SS := fun ρ C => bnd (c ρ C) fun b C1 => if b = true then f ρ C1 else g ρ C1
theorem sim_sif {tc : TT} {t u : TS} {c : ST} {f g : SS} (hc : SimT G tc c) (h1 : SimS G t f) (h2 : SimS G u g) : SimS G (tIfS tc t u) (sIf c f g) := by
  intro φ M H C σ ρ o C' hE hs e Dd hD
  obtain ⟨b, C1, q1, e⟩ := bnd_i e
  refine hc φ M H C σ ρ b C1 hE hs q1 _ fun H1 x1 s1 => ?_
  cases b with
  | true => exact h1 φ M H1 C1 σ ρ o C' (hE.ext x1 hs.sub) s1 e Dd (hD.grow x1.grow)
  | false => exact h2 φ M H1 C1 σ ρ o C' (hE.ext x1 hs.sub) s1 e Dd (hD.grow x1.grow)
def sBk : SS := fun ρ C => some (.bk ρ, C)
def sCt : SS := fun ρ C => some (.ct ρ, C)
theorem sim_sbk : SimS G tBreak sBk := by
  intro φ M H C σ ρ o C' hE hs e Dd hD
  cases e
  exact hD φ M σ H Grow.refl hE hs
theorem sim_sct : SimS G tCont sCt := by
  intro φ M H C σ ρ o C' hE hs e Dd hD
  cases e
  exact hD φ M σ H Grow.refl hE hs

/-! ### for -/
def forL (cels : List (Nat × D)) (b : D → Env → Option Env) (body : SS) : List D → Env → Store → Option (Fl × Store)
  | [], ρ, C => gd (stays C cels = true) (some (.nx ρ, C))
  | d :: ds, ρ, C => gd (stays C cels = true) (bn1 (b d ρ) fun ρ1 => bnd (body ρ1 C) fun o C1 => match o with
    | .nx ρ2 => forL cels b body ds ρ2 C1
    | .ct ρ2 => forL cels b body ds ρ2 C1
    | .bk ρ2 => some (.nx ρ2, C1)
    | .rt v => some (.rt v, C1))
def sFor (si : SI) (b : D → Env → Option Env) (body : SS) : SS := fun ρ C => bnd (si ρ C) fun src C1 => forL src.cels b body src.items ρ C1
theorem for_by {J : It} {n : Nat} {g : TG} {tb : TS} {Dd : Ends} {σ : L2.St} {H : Hp} (Pv : Nat → L2.St → Hp → Prop) (h0 : Pv 0 σ H)
    (hs : ∀ i σ H, i < n → Pv i σ H → J.go i H ∧ ∀ x H', J.yld i H x H' → g x σ H' fun σ2 H2 => tb { Dd with nx := Pv (i + 1), ct := Pv (i + 1), bk := Dd.nx } σ2 H2) (hd : ∀ σ H, Pv n σ H → J.stop n H ∧ Dd.nx σ H) :
    ∃ W : Nat → Nat → L2.St → Hp → Prop, (∃ m, W 0 m σ H) ∧ ∀ i m σ H, W i m σ H →
      (J.stop i H ∧ Dd.nx σ H) ∨ (J.go i H ∧ ∃ N : L2.St → Hp → Prop, (∀ σ' H', N σ' H' → ∃ m', m' < m ∧ W (i + 1) m' σ' H') ∧ ∀ x H', J.yld i H x H' → g x σ H' fun σ2 H2 => tb { Dd with nx := N, ct := N, bk := Dd.nx } σ2 H2) := by
  refine ⟨fun i m σ H => m = n - i ∧ i ≤ n ∧ Pv i σ H, ⟨n, by simp, Nat.zero_le _, h0⟩, fun i m σ H ⟨hm, hi, p⟩ => ?_⟩
  subst hm
  by_cases hlt : i < n
  · obtain ⟨a, b⟩ := hs i σ H hlt p
    exact .inr ⟨a, Pv (i + 1), fun σ' H' p' => ⟨n - (i + 1), by omega, rfl, hlt, p'⟩, b⟩
  · have e : i = n := by omega
    subst e
    exact .inl (hd σ H p)
theorem for_at {φ : List Addr} {M : Addr → Prop} {H : Hp} {C : Store} {σ : L2.St} {ρ : Env} {wi : TI} {g : TG} {tb : TS} {b : D → Env → Option Env} {ws : List Nat} {body : SS} {src : Src} {C1 C' : Store} {o : Fl} {Dd : Ends} (hE : EnvR G φ M H σ ρ) (hs : StR G φ M H C)
    (hI : ∀ R : It → Hp → Prop, (∀ J H', Ext φ H H' → StR G φ M H' C1 → ItR G φ M H' J src → R J H') → wi σ H R) (hG : SimG G g b ws) (hB : SimS G tb body) (e : forL src.cels b body src.items ρ C1 = some (o, C')) (hD : EndR G φ M H o C' Dd) : tFor wi g tb Dd σ H := by
  refine hI _ fun J H1 x1 s1 itr => ?_
  refine for_by (n := src.items.length) (fun i σ' H' => ∃ φ' M' Ci ρi, Grow φ M H1 φ' M' H' ∧ StR G φ' M' H' Ci ∧ EnvR G φ' M' H' σ' ρi ∧ forL src.cels b body (src.items.drop i) ρi Ci = some (o, C')) ⟨φ, M, C1, ρ, Grow.refl, s1, hE.ext x1 hs.sub, by simpa using e⟩
    (fun i σ' H' hlt ⟨φ', M', Ci, ρi, g', s', hE', hc⟩ => ?_) (fun σ' H' ⟨φ', M', Ci, ρi, g', s', hE', hc⟩ => ?_)
  · have hget : src.items[i]? = some src.items[i] := List.getElem?_eq_getElem hlt
    have hdrop : src.items.drop i = src.items[i] :: src.items.drop (i + 1) := List.drop_eq_getElem_cons hlt
    rw [hdrop] at hc
    obtain ⟨hst, hc⟩ := gd_i hc
    obtain ⟨jstop, jgo⟩ := itr φ' M' H' Ci (g'.stp s1.sub) s' hst
    obtain ⟨ρ1, hb, hc⟩ := bn1_i hc
    obtain ⟨o1, Cb, ht, hc⟩ := bnd_i hc
    obtain ⟨go, yl⟩ := jgo i _ hget
    refine ⟨go, fun x H3 y => ?_⟩
    obtain ⟨hst3, rx⟩ := yl x H3 y
    obtain ⟨x3, s3⟩ := Rp.step s' hst3
    have g3 := g'.trans x3.grow
    refine hG φ' M' H3 Ci σ' ρi x _ ρ1 (hE'.ext x3 s'.sub) s3 rx hb _ fun σ2 hE2 _ _ => ?_
    refine hB φ' M' H3 Ci σ2 ρ1 o1 Cb hE2 s3 ht _ ?_
    cases o1 with
    | nx ρ2 => exact fun φ4 M4 σ4 H4 g4 hE4 s4 => ⟨φ4, M4, Cb, ρ2, g3.trans g4, s4, hE4, hc⟩
    | ct ρ2 => exact fun φ4 M4 σ4 H4 g4 hE4 s4 => ⟨φ4, M4, Cb, ρ2, g3.trans g4, s4, hE4, hc⟩
    | bk ρ2 => cases hc; exact fun φ4 M4 σ4 H4 g4 hE4 s4 => hD φ4 M4 σ4 H4 (x1.grow.trans (g3.trans g4)) hE4 s4
    | rt v => cases hc; exact fun φ4 M4 u H4 g4 s4 r4 => hD φ4 M4 u H4 (x1.grow.trans (g3.trans g4)) s4 r4
  · rw [List.drop_length] at hc
    obtain ⟨hst, hc⟩ := gd_i hc
    cases hc
    exact ⟨(itr φ' M' H' _ (g'.stp s1.sub) s' hst).1, hD φ' M' σ' H' (x1.grow.trans g') hE' s'⟩
theorem sim_sfor {wi : TI} {g : TG} {tb : TS} {si : SI} {b : D → Env → Option Env} {ws : List Nat} {body : SS} (hI : SimI G wi si) (hG : SimG G g b ws) (hB : SimS G tb body) : SimS G (tFor wi g tb) (sFor si b body) := by
  intro φ M H C σ ρ o C' hE hs e Dd hD
  obtain ⟨src, C1, h1, e⟩ := bnd_i e
  exact for_at hE hs (hI φ M H C σ ρ src C1 hE hs h1) hG hB e hD

/-! ### while -/
def whileL (c : ST) (body : SS) : Nat → Env → Store → Option (Fl × Store)
  | 0, _, _ => none
  | n + 1, ρ, C => bnd (c ρ C) fun b C1 => if b = true then bnd (body ρ C1) fun o C2 => match o with
    | .nx ρ2 => whileL c body n ρ2 C2
    | .ct ρ2 => whileL c body n ρ2 C2
    | .bk ρ2 => some (.nx ρ2, C2)
    | .rt v => some (.rt v, C2)
    else some (.nx ρ, C1)
theorem sim_swhile {tc : TT} {tb : TS} {c : ST} {body : SS} {n : Nat} (hc : SimT G tc c) (hB : SimS G tb body) : SimS G (tWhile tc tb) (whileL c body n) := by
  intro φ M H C σ ρ o C' hE hs e Dd hD
  refine ⟨fun m σ' H' => ∃ φ' M' Ci ρi, Grow φ M H φ' M' H' ∧ StR G φ' M' H' Ci ∧ EnvR G φ' M' H' σ' ρi ∧ whileL c body m ρi Ci = some (o, C'), ⟨n, φ, M, C, ρ, Grow.refl, hs, hE, e⟩, fun m σ' H' ⟨φ', M', Ci, ρi, g', s', hE', hw⟩ => ?_⟩
  cases m with
  | zero => cases hw
  | succ m =>
    obtain ⟨b, C1, q1, hw⟩ := bnd_i hw
    refine hc φ' M' H' Ci σ' ρi b C1 hE' s' q1 _ fun H1 x1 s1 => ?_
    have g1 := g'.trans x1.grow
    cases b with
    | true =>
      rw [if_pos rfl] at hw ⊢
      obtain ⟨o1, C2, q2, hw⟩ := bnd_i hw
      refine ⟨fun σ2 H2 => ∃ φ' M' Ci ρi, Grow φ M H φ' M' H2 ∧ StR G φ' M' H2 Ci ∧ EnvR G φ' M' H2 σ2 ρi ∧ whileL c body m ρi Ci = some (o, C'), fun σ2 H2 w => ⟨m, Nat.lt_succ_self _, w⟩, ?_⟩
      refine hB φ' M' H1 C1 σ' ρi o1 C2 (hE'.ext x1 s'.sub) s1 q2 _ ?_
      cases o1 with
      | nx ρ2 => exact fun φ4 M4 σ4 H4 g4 hE4 s4 => ⟨φ4, M4, C2, ρ2, g1.trans g4, s4, hE4, hw⟩
      | ct ρ2 => exact fun φ4 M4 σ4 H4 g4 hE4 s4 => ⟨φ4, M4, C2, ρ2, g1.trans g4, s4, hE4, hw⟩
      | bk ρ2 => cases hw; exact fun φ4 M4 σ4 H4 g4 hE4 s4 => hD φ4 M4 σ4 H4 (g1.trans g4) hE4 s4
      | rt v => cases hw; exact fun φ4 M4 u H4 g4 s4 r4 => hD φ4 M4 u H4 (g1.trans g4) s4 r4
    | false =>
      rw [if_neg Bool.false_ne_true] at hw ⊢
      cases hw
      exact hD φ' M' σ' H1 g1 (hE'.ext x1 s'.sub) s1
end
end DX

/-! DMut: what changes a list or a dict of ours. -/
namespace DX
open PySem PySem.Spec L2
section
variable {G : Gm} {φ : List Addr} {M : Addr → Prop} {H : Hp} {C : Store}
theorem get_set {C : Store} {n m : Nat} {d e : D} (h : (C.set n d)[m]? = some e) : (m = n ∧ e = d ∧ n < C.length) ∨ (m ≠ n ∧ C[m]? = some e) := by
  by_cases hm : n = m
  · subst hm
    by_cases hl : n < C.length
    · rw [List.getElem?_set_self hl] at h
      cases h
      exact .inl ⟨rfl, rfl, hl⟩
    · rw [List.getElem?_eq_none (by simpa using hl)] at h; cases h
  · rw [List.getElem?_set_ne hm] at h
    exact .inr ⟨Ne.symm hm, h⟩
/-- the n-th of ours, at p, holds something else now -/
theorem wrote_ok {n : Nat} {p : Addr} {d' : D} {o : HO} (hs : StR G φ M H C) (hp : φ[n]? = some p) (c : CelR G M (upd H p o) p d') : StR G φ M (upd H p o) (C.set n d') := by
  have hpφ : p ∈ φ := List.mem_of_getElem? hp
  refine ⟨by simp [hs.len], hs.nd, hs.sub, fun a h => ?_, fun m e a h1 h2 => ?_, fun a h u e => ?_⟩
  rotate_right
  · by_cases z : a = p
    · subst z; exact c.nt u e
    · rw [upd_ne z] at e; exact hs.mt a h u e
  · by_cases z : a = p
    · subst z; rw [upd_same]; simp
    · rw [upd_ne z]; exact hs.live a h
  · rcases get_set h1 with ⟨rfl, rfl, _⟩ | ⟨hm, h1⟩
    · rw [hp] at h2
      cases h2
      exact c
    · have ha : a ≠ p := fun z => by
        subst z
        obtain ⟨l1, e1⟩ := List.getElem?_eq_some_iff.mp hp
        obtain ⟨l2, e2⟩ := List.getElem?_eq_some_iff.mp h2
        exact hm ((List.getElem_inj hs.nd).mp (e2.trans e1.symm))
      exact (hs.cel m e a h1 h2).keeps (keepsW (hs.sub p hpφ)) fun u q => by rw [upd_ne ha]; exact q
theorem CelR.lstW {p : Addr} {vs : List V} {ds : List D} (hp : M p) (l : vs.length ≤ sizeLine) (r : RpL G M H vs ds) : CelR G M (upd H p (.lst vs)) p (.lst ds) := ⟨vs, upd_same, l, r.keeps (keepsW hp)⟩
theorem CelR.dKW {p : Addr} {vs : List (Key × V)} {ds : List (Key × D)} (hp : M p) (l : vs.length ≤ sizeLine) (e : vs.map (·.1) = ds.map (·.1)) (r : RpL G M H (vs.map (·.2)) (ds.map (·.2))) : CelR G M (upd H p (.dK vs)) p (.dK ds) := ⟨vs, upd_same, l, e, r.keeps (keepsW hp)⟩
theorem CelR.dTW {p : Addr} {vs : List (List Key × V)} {ds : List (List Key × D)} (hp : M p) (l : vs.length ≤ sizeLine) (e : vs.map (·.1) = ds.map (·.1)) (r : RpL G M H (vs.map (·.2)) (ds.map (·.2))) : CelR G M (upd H p (.dT vs)) p (.dT ds) := ⟨vs, upd_same, l, e, r.keeps (keepsW hp)⟩

/-- the list that a slot's value is, to be changed -/
def lstAt (C : Store) (v : Sv) : Option (Nat × List D) := match v with
  | .cel n => match C[n]? with
    | some (.lst ds) => some (n, ds)
    | _ => none
  | _ => none
theorem lstAt_some {v : Sv} {n : Nat} {ds : List D} (h : lstAt C v = some (n, ds)) : v = .cel n ∧ C[n]? = some (.lst ds) := by
  unfold lstAt at h
  split at h
  · split at h
    · rename_i h2; cases h; exact ⟨rfl, h2⟩
    · cases h
  · cases h
theorem StR.lst {v : Sv} {x : V} {n : Nat} {ds : List D} (hs : StR G φ M H C) (r : SvR G φ M H x v) (h : lstAt C v = some (n, ds)) : ∃ p vs, x = .ref p ∧ φ[n]? = some p ∧ H p = some (.lst vs) ∧ vs.length ≤ sizeLine ∧ RpL G M H vs ds := by
  obtain ⟨rfl, h2⟩ := lstAt_some h
  obtain ⟨p, h3, h4⟩ := r
  obtain ⟨vs, a, b, c⟩ := hs.cel n _ p h2 h3
  exact ⟨p, vs, h4, h3, a, b, c⟩

/-- x.append(e) -/
def eApp (f g : SE) : SE := fun ρ C => bnd (f ρ C) fun v C1 => bn1 (lstAt C1 v) fun _ => bnd (g ρ C1) fun w C2 => bn1 (lstAt C2 v) fun nd => bn1 (datOf w) fun z => gd (nd.2.length < sizeLine) (some (.dat .non, C2.set nd.1 (.lst (nd.2 ++ [z]))))
theorem sim_app {to te : TE} {f g : SE} (ho : SimE G to f) (he : SimE G te g) : SimE G (tBM G.K "list" rAppend to (tCons te tNil)) (eApp f g) := by
  intro φ M H C σ ρ s C' hE hs e Q hQ
  obtain ⟨v, C1, h1, e⟩ := bnd_i e
  obtain ⟨n0, h2, e⟩ := bn1_i e
  obtain ⟨w, C2, h3, e⟩ := bnd_i e
  obtain ⟨nd, h4, e⟩ := bn1_i e
  obtain ⟨z, h5, e⟩ := bn1_i e
  obtain ⟨h6, e⟩ := gd_i e
  cases e
  obtain ⟨n, ds⟩ := nd
  refine ho φ M H C σ ρ v C1 hE hs h1 _ fun x H1 x1 s1 r1 => ?_
  obtain ⟨p, vs, rfl, _, hv, _, _⟩ := s1.lst r1 h2
  refine ⟨.inl ⟨rfl, _, .inl (.inl hv)⟩, ?_⟩
  refine he φ M H1 C1 σ ρ w C2 (hE.ext x1 hs.sub) s1 h3 _ fun y H2 x2 s2 r2 => ?_
  obtain ⟨p', vs2, ep, hp, hv2, l2, rl⟩ := s2.lst (r1.ext x2 hs.sub) h4
  cases ep
  have hpφ : p ∈ φ := List.mem_of_getElem? hp
  have ll := rl.length
  cases w with
  | cel m => cases h5
  | dat z' =>
    cases h5
    have h6' : ds.length < sizeLine := h6
    refine ⟨p, vs2, y, rfl, rfl, hv2, by omega, ?_⟩
    refine hQ .non _ ((x1.trans x2).trans (Ext.wrote hpφ)) (wrote_ok s2 hp (CelR.lstW (s2.sub p hpφ) ?_ (rl.append (.one r2)))) .non
    rw [List.length_append, List.length_singleton]
    omega
/-- x.pop() -/
def ePop (f : SE) : SE := fun ρ C => bnd (f ρ C) fun v C1 => bn1 (lstAt C1 v) fun nd => bn1 (nd.2[nd.2.length - 1]?) fun z => some (.dat z, C1.set nd.1 (.lst nd.2.dropLast))
theorem RpL.dropLast : ∀ {vs : List V} {ds : List D}, RpL G M H vs ds → RpL G M H vs.dropLast ds.dropLast := fun {vs ds} r => by
  have e1 : vs.dropLast = vs.take (vs.length - 1) := by rw [List.dropLast_eq_take]
  have e2 : ds.dropLast = ds.take (ds.length - 1) := by rw [List.dropLast_eq_take]
  rw [e1, e2, r.length]
  exact r.take _
theorem sim_pop {to : TE} {f : SE} (ho : SimE G to f) : SimE G (tBM0 G.K "list" rPop to) (ePop f) := by
  intro φ M H C σ ρ s C' hE hs e Q hQ
  obtain ⟨v, C1, h1, e⟩ := bnd_i e
  obtain ⟨nd, h4, e⟩ := bn1_i e
  obtain ⟨z, h5, e⟩ := bn1_i e
  cases e
  obtain ⟨n, ds⟩ := nd
  refine ho φ M H C σ ρ v C1 hE hs h1 _ fun x H1 x1 s1 r1 => ?_
  obtain ⟨p, vs, rfl, hp, hv, l, rl⟩ := s1.lst r1 h4
  have hpφ : p ∈ φ := List.mem_of_getElem? hp
  obtain ⟨u, hu, ru⟩ := rl.get h5
  have ll := rl.length
  refine ⟨.inl ⟨rfl, _, .inl (.inl hv)⟩, p, vs, u, rfl, rfl, hv, by rw [ll]; exact hu, ?_⟩
  refine hQ u _ (x1.trans (Ext.wrote hpφ)) (wrote_ok s1 hp (CelR.lstW (s1.sub p hpφ) ?_ rl.dropLast)) (Rp.keeps (keepsW (s1.sub p hpφ)) ru)
  rw [List.length_dropLast]; omega
/-- x.pop(i) -/
def ePopAt (f g : SE) : SE := fun ρ C => bnd (f ρ C) fun v C1 => bn1 (lstAt C1 v) fun _ => bnd (g ρ C1) fun w C2 => bn1 (lstAt C2 v) fun nd => match w with
  | .dat (.int i) => bn1 (ixN nd.2.length i) fun k => bn1 (nd.2[k]?) fun z => some (.dat z, C2.set nd.1 (.lst (nd.2.eraseIdx k)))
  | _ => none
theorem sim_popAt {to te : TE} {f g : SE} (ho : SimE G to f) (he : SimE G te g) : SimE G (tBM G.K "list" rPopAt to (tCons te tNil)) (ePopAt f g) := by
  intro φ M H C σ ρ s C' hE hs e Q hQ
  obtain ⟨v, C1, h1, e⟩ := bnd_i e
  obtain ⟨n0, h2, e⟩ := bn1_i e
  obtain ⟨w, C2, h3, e⟩ := bnd_i e
  obtain ⟨nd, h4, e⟩ := bn1_i e
  obtain ⟨n, ds⟩ := nd
  refine ho φ M H C σ ρ v C1 hE hs h1 _ fun x H1 x1 s1 r1 => ?_
  obtain ⟨p, vs, rfl, _, hv, _, _⟩ := s1.lst r1 h2
  refine ⟨.inl ⟨rfl, _, .inl (.inl hv)⟩, ?_⟩
  refine he φ M H1 C1 σ ρ w C2 (hE.ext x1 hs.sub) s1 h3 _ fun y H2 x2 s2 r2 => ?_
  obtain ⟨p', vs2, ep, hp, hv2, l2, rl⟩ := s2.lst (r1.ext x2 hs.sub) h4
  cases ep
  have hpφ : p ∈ φ := List.mem_of_getElem? hp
  have ll := rl.length
  cases w with
  | cel m => cases e
  | dat d =>
    cases d with
    | int i =>
      obtain ⟨k, h5, e⟩ := bn1_i e
      obtain ⟨z, h6, e⟩ := bn1_i e
      cases e
      obtain ⟨u, hu, ru⟩ := rl.get h6
      have h5' : ixN ds.length i = some k := h5
      obtain ⟨q1, q2, q3, q4⟩ := ixN_seq h5'
      have hz : sizeLine = 16777216 := sizeLine_eq
      refine ⟨p, vs2, i, k, u, rfl, by rw [Rp.intI r2], hv2, by omega, by omega, by rw [ll]; exact q1, hu, ?_⟩
      refine hQ u _ ((x1.trans x2).trans (Ext.wrote hpφ)) (wrote_ok s2 hp (CelR.lstW (s2.sub p hpφ) ?_ (rl.eraseIdx k))) (Rp.keeps (keepsW (s2.sub p hpφ)) ru)
      have := len_erase vs2 k
      omega
    | _ => cases e

/-! ### x[i] = e -/
def rSetD : V → V → V → Hp → (Hp → Prop) → Prop := fun o i v H Q => ∃ a H', o = .ref a ∧ DPut H a i v H' ∧ Q H'
def rSet0 : V → V → V → Hp → (Hp → Prop) → Prop := fun o i v H Q => rSetL o i v H Q ∨ rSetD o i v H Q
end
theorem set_0 {X : Cx} (hu : X.A.units + 1 < cLine) : PSet X rSet0 := by
  intro pins s σ H o i v ov iv u Q I ro ri rv h
  rcases h with h | ⟨a, H', rfl, g, q⟩
  · exact set_list pins s σ H o i v ov iv u Q I ro ri rv h
  · cases ro
    exact d_setItem hu I g ri rv fun s' I' => ⟨H', I', q⟩
section
variable {G : Gm} {φ : List Addr} {M : Addr → Prop} {H : Hp} {C : Store}
/-- the content behind x[i] = z -/
def putAt (c i z : D) : Option D := match c with
  | .lst ds => match i with
    | .int i => bn1 (ixN ds.length i) fun k => some (.lst (ds.set k z))
    | _ => none
  | .dK kvs => bn1 (dKey i) fun k => gd (kvs.length < sizeLine) (some (.dK (dPut kvs k z)))
  | .dT kvs => match i with
    | .tup ks => bn1 (dKeys ks) fun k => gd (kvs.length < sizeLine) (some (.dT (dPut kvs k z)))
    | _ => none
  | _ => none
def sPut (f g h : SE) : SS := fun ρ C => bnd (f ρ C) fun z C1 => bnd (g ρ C1) fun v C2 => bnd (h ρ C2) fun i C3 => bn1 (datOf z) fun z => bn1 (see C3 i) fun i => match v with
  | .cel n => bn1 (C3[n]?) fun c => bn1 (putAt c i z) fun c' => some (.nx ρ, C3.set n c')
  | _ => none
theorem put_len {κ α : Type} [DecidableEq κ] (kvs : List (κ × α)) (k : κ) (v : α) : (dPut kvs k v).length ≤ kvs.length + 1 := by
  unfold dPut
  split <;> simp
theorem put_rel {κ : Type} [DecidableEq κ] {v : V} {z : D} (r : Rp G M H v z) (k : κ) : ∀ {kvs : List (κ × V)} {ds : List (κ × D)}, kvs.map (·.1) = ds.map (·.1) → RpL G M H (kvs.map (·.2)) (ds.map (·.2)) →
    (putK kvs k v).map (·.1) = (dPut ds k z).map (·.1) ∧ RpL G M H ((putK kvs k v).map (·.2)) ((dPut ds k z).map (·.2)) := by
  have any_eq : ∀ {kvs : List (κ × V)} {ds : List (κ × D)}, kvs.map (·.1) = ds.map (·.1) → (kvs.any fun kv => decide (kv.1 = k)) = (ds.any fun kv => decide (kv.1 = k)) := by
    intro kvs
    induction kvs with
    | nil => intro ds e; cases ds with | nil => rfl | cons _ _ => simp at e
    | cons a kvs ih =>
      intro ds e
      cases ds with
      | nil => simp at e
      | cons b ds =>
        simp only [List.map_cons, List.cons.injEq] at e
        rw [List.any_cons, List.any_cons, e.1, ih e.2]
  have map_eq : ∀ {kvs : List (κ × V)} {ds : List (κ × D)}, kvs.map (·.1) = ds.map (·.1) → RpL G M H (kvs.map (·.2)) (ds.map (·.2)) →
      (kvs.map (fun kv => if kv.1 = k then (kv.1, v) else kv)).map (·.1) = (ds.map (fun kv => if kv.1 = k then (kv.1, z) else kv)).map (·.1) ∧ RpL G M H ((kvs.map (fun kv => if kv.1 = k then (kv.1, v) else kv)).map (·.2)) ((ds.map (fun kv => if kv.1 = k then (kv.1, z) else kv)).map (·.2)) := by
    intro kvs
    induction kvs with
    | nil => intro ds e rl; cases ds with | nil => exact ⟨rfl, .nil⟩ | cons _ _ => simp at e
    | cons a kvs ih =>
      intro ds e rl
      cases ds with
      | nil => simp at e
      | cons b ds =>
        simp only [List.map_cons, List.cons.injEq] at e
        cases rl with
        | cons r1 rl =>
          obtain ⟨i1, i2⟩ := ih e.2 rl
          simp only [List.map_cons]
          by_cases h : a.1 = k
          · have h' : b.1 = k := e.1.symm.trans h
            rw [if_pos h, if_pos h']
            exact ⟨by rw [i1, e.1], .cons r i2⟩
          · have h' : ¬ b.1 = k := fun q => h (e.1.trans q)
            rw [if_neg h, if_neg h']
            exact ⟨by rw [i1, e.1], .cons r1 i2⟩
  intro kvs ds e rl
  unfold putK dPut
  rw [any_eq e]
  by_cases h : (ds.any fun kv => decide (kv.1 = k)) = true
  · rw [if_pos h, if_pos h]
    exact map_eq e rl
  · rw [if_neg h, if_neg h]
    rw [List.map_append, List.map_append, List.map_append, List.map_append]
    exact ⟨by rw [e]; rfl, rl.append (.one r)⟩
theorem sim_sput {tz to ti : TE} {f g h : SE} (hf : SimE G tz f) (hg : SimE G to g) (hh : SimE G ti h) : SimS G (tAsg tz (gSub to ti rSet0)) (sPut f g h) := by
  intro φ M H C σ ρ o C' hE hs e Dd hD
  obtain ⟨zv, C1, h1, e1⟩ := bnd_i e
  obtain ⟨v, C2, h2, e2⟩ := bnd_i e1
  obtain ⟨iv, C3, h3, e3⟩ := bnd_i e2
  obtain ⟨z, h4, e4⟩ := bn1_i e3
  obtain ⟨i, h5, e5⟩ := bn1_i e4
  clear e e1 e2 e3 e4
  cases zv with
  | cel m => cases h4
  | dat z' =>
  cases h4
  cases v with
  | dat d => cases e5
  | cel n =>
    obtain ⟨c, h6, e6⟩ := bn1_i e5
    obtain ⟨c', h7, e7⟩ := bn1_i e6
    clear e5 e6
    cases e7
    refine hf φ M H C σ ρ _ C1 hE hs h1 _ fun x H1 x1 s1 r1 => ?_
    refine hg φ M H1 C1 σ ρ _ C2 (hE.ext x1 hs.sub) s1 h2 _ fun y H2 x2 s2 r2 => ?_
    refine hh φ M H2 C2 σ ρ _ C3 (hE.ext (x1.trans x2) hs.sub) s2 h3 _ fun w H3 x3 s3 r3 => ?_
    have xx := (x1.trans x2).trans x3
    obtain ⟨p, hp, rfl⟩ := r2
    have hpφ : p ∈ φ := List.mem_of_getElem? hp
    have rz : Rp G M H3 x z := Rp.keeps ((x2.trans x3).keeps hs.sub) r1
    have cc := s3.cel n c p h6 hp
    have fin : ∀ {o : HO}, CelR G M (upd H3 p o) p c' → Dd.nx σ (upd H3 p o) := fun {o} q => hD φ M σ _ (xx.trans (Ext.wrote hpφ)).grow (hE.ext (xx.trans (Ext.wrote hpφ)) hs.sub) (wrote_ok s3 hp q)
    cases c with
    | lst ds =>
      cases i with
      | int k =>
        obtain ⟨j, h8, h7⟩ := bn1_i (show bn1 (ixN ds.length k) _ = some c' from h7)
        cases h7
        obtain ⟨vs, q1, q2, q3⟩ := cc
        refine .inl ⟨p, vs, k, j, rfl, (s3.see_rp r3 h5).intI, q1, by rw [q3.length]; exact h8, fin (CelR.lstW (s3.sub p hpφ) (by rw [List.length_set]; exact q2) (q3.set rz j))⟩
      | _ => cases h7
    | dK kvs =>
      obtain ⟨k, h8, h7⟩ := bn1_i (show bn1 (dKey i) _ = some c' from h7)
      obtain ⟨h9, h7⟩ := gd_i h7
      cases h7
      obtain ⟨vs, q1, q2, q3, q4⟩ := cc
      obtain ⟨w1, w2⟩ := put_rel rz k q3 q4
      have lk := lenKeys q3
      refine .inr ⟨p, _, rfl, .inl ⟨vs, k, q1, (s3.see_rp r3 h5).key h8, by omega, rfl⟩, fin (CelR.dKW (s3.sub p hpφ) ?_ w1 w2)⟩
      have := length_putK vs k x
      omega
    | dT kvs =>
      cases i with
      | tup ks =>
        obtain ⟨k, h8, h7⟩ := bn1_i (show bn1 (dKeys ks) _ = some c' from h7)
        obtain ⟨h9, h7⟩ := gd_i h7
        cases h7
        obtain ⟨vs, q1, q2, q3, q4⟩ := cc
        obtain ⟨w1, w2⟩ := put_rel rz k q3 q4
        have lk := lenKeys q3
        obtain ⟨b, us, rfl, t1, t2, t3⟩ := s3.seeT r3 h5
        have ev := t3.keys h8
        subst ev
        refine .inr ⟨p, _, rfl, .inr ⟨vs, k, b, q1, rfl, t1.2, by omega, rfl⟩, fin (CelR.dTW (s3.sub p hpφ) ?_ w1 w2)⟩
        have := length_putK vs k x
        omega
      | _ => cases h7
    | _ => cases h7

/-! ### new dicts -/
def nDK : SN := fun _ C => some (.dK [], C)
def nDT : SN := fun _ C => some (.dT [], C)
theorem sim_ndk : SimN G tDNewK nDK := by
  intro φ M H C σ ρ d C' hE hs e Q hQ
  cases e
  exact fun p hp => hQ p _ hp (Ext.laid hp) (hs.laidM hp) ⟨[], upd_same, Nat.zero_le _, rfl, .nil⟩
theorem sim_ndt : SimN G tDNewT nDT := by
  intro φ M H C σ ρ d C' hE hs e Q hQ
  cases e
  exact fun p hp => hQ p _ hp (Ext.laid hp) (hs.laidM hp) ⟨[], upd_same, Nat.zero_le _, rfl, .nil⟩
end
end DX

/-! DCall: calls, and the promise of a def. -/
namespace DX
open PySem PySem.Spec L2
abbrev FE := List Sv → Store → Option (Sv × Store)
abbrev FN := List Sv → Store → Option (D × Store)
section
variable {G : Gm} {φ φ' : List Addr} {M M' : Addr → Prop} {H H' : Hp} {C : Store}
/-- what the callers see when a frame is left -/
theorem Grow.ext (g : Grow φ M H φ' M' H') : Ext φ H H' := ⟨g.keep, g.live⟩
theorem StR.cut (s : StR G φ' M' H' C) (g : Grow φ M H φ' M' H') (sub : ∀ a ∈ φ, M a) {n : Nat} (hn : n = φ.length) : StR G φ M H' (C.take n) := by
  obtain ⟨ps, e, _⟩ := g.pre
  subst e
  subst hn
  have hl := s.len
  rw [List.length_append] at hl
  refine ⟨by rw [List.length_take]; omega, (List.nodup_append.mp s.nd).1, sub, fun a h => s.live a (g.up a h), fun n d a h1 h2 => ?_, fun a h u e => s.mt a (g.up a h) u e⟩
  have hn : n < φ.length := (List.getElem?_eq_some_iff.mp h2).1
  rw [List.getElem?_take_of_lt hn] at h1
  have := s.cel n d a h1 (by rw [List.getElem?_append_left hn]; exact h2)
  exact this.keeps ⟨fun a n _ z => n (g.up a z), fun _ _ _ e => e⟩ fun _ e => e
theorem Rp.cut (g : Grow φ M H φ' M' H') {v : V} {d : D} (r : Rp G M' H' v d) : Rp G M H' v d := r.keeps ⟨fun a n _ z => n (g.up a z), fun _ _ _ e => e⟩

def fin (n0 : Nat) : Fl → Store → Option (Sv × Store)
  | .rt (.dat d), C => some (.dat d, C.take n0)
  | .rt (.cel n), C => if n < n0 then some (.cel n, C.take n0) else bn1 (C[n]?) fun d => gd (nolk d = true) (some (.dat d, C.take n0))
  | .nx _, C => some (.dat .non, C.take n0)
  | _, _ => none
def finN (n0 : Nat) : Fl → Store → Option (D × Store)
  | .rt (.cel n), C => gd (n0 ≤ n) (bn1 (C[n]?) fun d => some (d, C.take n0))
  | _, _ => none
def startE (N : Nat) (svs : List Sv) : Env := svs.map some ++ List.replicate (N - svs.length) none
def runE (N np : Nat) (body : SS) : FE := fun svs C => gd (svs.length = np) (bnd (body (startE N svs) C) fun o C' => fin C.length o C')
def runN (N np : Nat) (body : SS) : FN := fun svs C => gd (svs.length = np) (bnd (body (startE N svs) C) fun o C' => finN C.length o C')
def spE (G : Gm) (np : Nat) (F : FE) : Sp := fun vs H Q _ => ∃ φ M C svs s C', StR G φ M H C ∧ SvsR G φ M H vs svs ∧ vs.length = np ∧ F svs C = some (s, C') ∧ ∀ v H', Ext φ H H' → StR G φ M H' C' → SvR G φ M H' v s → Q v H'
def spN (G : Gm) (np : Nat) (F : FN) : Sp := fun vs H Q _ => ∃ φ M C svs d C', StR G φ M H C ∧ SvsR G φ M H vs svs ∧ vs.length = np ∧ F svs C = some (d, C') ∧
  ∀ p H', H p = none → Ext φ H H' → StR G φ (fun a => M a ∨ a = p) H' C' → CelR G (fun a => M a ∨ a = p) H' p d → Q (.ref p) H'
theorem env_start {vs : List V} {svs : List Sv} {n : Nat} (r : SvsR G φ M H vs svs) : EnvR G φ M H (vs.map some ++ List.replicate (n - vs.length) none) (startE n svs) := by
  have l := r.length
  unfold startE
  refine ⟨by simp [l], fun i s h => ?_⟩
  by_cases hi : i < svs.length
  · rw [List.getElem?_append_left (by simpa using hi), List.getElem?_map] at h
    cases hs : svs[i]? with
    | none => rw [hs] at h; cases h
    | some s' =>
      rw [hs] at h
      cases h
      obtain ⟨v, hv, rv⟩ := r.get hs
      exact ⟨v, by rw [List.getElem?_append_left (by rw [List.length_map]; omega), List.getElem?_map, hv]; rfl, rv⟩
  · rw [List.getElem?_append_right (by simpa using hi)] at h
    rw [List.getElem?_replicate] at h
    split at h <;> cases h
/-- the frame's end, from the body's -/
theorem end_E {o : Fl} {C1 C' : Store} {s : Sv} {Q : VK} (hs : StR G φ M H C) (h : fin C.length o C1 = some (s, C')) (hQ : ∀ v H', Ext φ H H' → StR G φ M H' C' → SvR G φ M H' v s → Q v H') :
    EndR G φ M H o C1 { nx := fun _ H' => Q .non H', rt := Q } := by
  cases o with
  | nx ρ =>
    cases h
    exact fun φ' M' σ' H' g hE s1 => hQ .non H' g.ext (s1.cut g hs.sub hs.len.symm) .non
  | bk ρ => cases h
  | ct ρ => cases h
  | rt x =>
    cases x with
    | dat d =>
      cases h
      exact fun φ' M' v H' g s1 r => hQ v H' g.ext (s1.cut g hs.sub hs.len.symm) (Rp.cut g r)
    | cel n =>
      refine fun φ' M' v H' g s1 r => ?_
      obtain ⟨a, ha, rfl⟩ := r
      have h' : (if n < C.length then some (Sv.cel n, C1.take C.length) else bn1 (C1[n]?) fun d => gd (nolk d = true) (some (Sv.dat d, C1.take C.length))) = some (s, C') := h
      obtain ⟨ps, ep, _⟩ := id g.pre
      by_cases hn : n < C.length
      · rw [if_pos hn] at h'
        cases h'
        refine hQ _ H' g.ext (s1.cut g hs.sub hs.len.symm) ⟨a, ?_, rfl⟩
        rw [ep, List.getElem?_append_left (by rw [hs.len]; exact hn)] at ha
        exact ha
      · rw [if_neg hn] at h'
        obtain ⟨d, hd, h'⟩ := bn1_i h'
        obtain ⟨nl, h'⟩ := gd_i h'
        cases h'
        have c := s1.cel n d a hd ha
        have nM : ¬ M a := fun z => by
          -- it is ours and new
          have hnew : a ∈ ps := by
            rw [ep, List.getElem?_append_right (by rw [hs.len]; omega)] at ha
            exact List.mem_of_getElem? ha
          obtain ⟨_, e2, h2⟩ := g.pre
          rw [ep] at e2
          exact hs.live a z (h2 a (by rw [← List.append_cancel_left e2]; exact hnew))
        have r := (c.keeps (M' := M) ⟨fun a n _ z => n (g.up a z), fun _ _ _ e => e⟩ fun _ e => e).rp nM
        rw [unlk_of fun x z => by subst z; cases nl] at r
        exact hQ _ H' g.ext (s1.cut g hs.sub hs.len.symm) r
theorem end_N {o : Fl} {C1 C' : Store} {d : D} {Q : VK} (hs : StR G φ M H C) (h : finN C.length o C1 = some (d, C')) (hQ : ∀ p H', H p = none → Ext φ H H' → StR G φ (fun a => M a ∨ a = p) H' C' → CelR G (fun a => M a ∨ a = p) H' p d → Q (.ref p) H') :
    EndR G φ M H o C1 { nx := fun _ H' => Q .non H', rt := Q } := by
  cases o with
  | nx ρ => cases h
  | bk ρ => cases h
  | ct ρ => cases h
  | rt x =>
    cases x with
    | dat d => cases h
    | cel n =>
      refine fun φ' M' v H' g s1 r => ?_
      obtain ⟨a, ha, rfl⟩ := r
      obtain ⟨hn, h⟩ := gd_i h
      obtain ⟨d', hd, h⟩ := bn1_i h
      cases h
      obtain ⟨ps, ep, hps⟩ := id g.pre
      have hnew : a ∈ ps := by
        rw [ep, List.getElem?_append_right (by rw [hs.len]; exact hn)] at ha
        exact List.mem_of_getElem? ha
      have hna := hps a hnew
      have haφ : a ∈ φ' := by rw [ep]; exact List.mem_append_right _ hnew
      have up : ∀ x, (M x ∨ x = a) → M' x := fun x z => by
        rcases z with z | z
        · exact g.up x z
        · rw [z]; exact s1.sub a haφ
      have kk : Keeps M' (fun x => M x ∨ x = a) H' H' := ⟨fun x n _ z => n (up x z), fun _ _ _ e => e⟩
      refine hQ a H' hna g.ext ?_ ((s1.cel n d a hd ha).keeps kk fun _ e => e)
      have sc := s1.cut g hs.sub hs.len.symm
      refine ⟨sc.len, sc.nd, fun x h => .inl (sc.sub x h), fun x h => s1.live x (up x h), fun m e b h1 h2 => ?_, fun x h u e => s1.mt x (up x h) u e⟩
      have hb : m < φ.length := (List.getElem?_eq_some_iff.mp h2).1
      rw [List.getElem?_take_of_lt (by rw [← hs.len]; exact hb)] at h1
      exact (s1.cel m e b h1 (by rw [ep, List.getElem?_append_left hb]; exact h2)).keeps kk fun _ e => e
end

/-! ### the promise of a def -/
section
variable {P : Program} {w : World} {K : PySem.W.Frag} {mg : Str → Option Value} {base : Heap} {x qual : Str} {st : Stmt} {f : Addr} {fd : FuncData} {N ps : List Str} {k : Nat} {G : Gm} {m : SS}
theorem ok_E (F : Fun K x qual st f fd) (S : FnScope N ps (defScope st))
    (hbody : ∀ (cdv : Value) (A : Around) (outer : List PySem.Env) (s : Shared) (H : Hp) (E : XK), Room k (A.deeper (PyProof.Rows.envOfC qual (defScope st) s.heap.objs.size f cdv)) →
      ∃ t, PSs (cxOf CX0 P w K mg base N qual (defScope st) f cdv A outer s H E).nox (defBody st) t ∧ SimS G t m) : FnOk P w K mg base CX0 (k + 1) f fd ps (spE G ps.length (runE N.length ps.length m)) := by
  refine F.ok S (fun vs H Q E h => ?_) (fun cdv A outer s H vs Q E hr h => ?_)
  · obtain ⟨_, _, _, _, _, _, _, _, h, _⟩ := h; exact h
  · obtain ⟨φ, M, C, svs, sv, C', hs, rv, hl, hF, hQ⟩ := h
    obtain ⟨t, hp, sim⟩ := hbody cdv A outer s H E hr
    obtain ⟨_, hF⟩ := gd_i hF
    obtain ⟨o, C1, h1, h2⟩ := bnd_i hF
    exact ⟨t, hp, sim φ M H C _ _ o C1 (env_start rv) hs h1 _ (end_E hs h2 hQ)⟩
theorem ok_N (F : Fun K x qual st f fd) (S : FnScope N ps (defScope st))
    (hbody : ∀ (cdv : Value) (A : Around) (outer : List PySem.Env) (s : Shared) (H : Hp) (E : XK), Room k (A.deeper (PyProof.Rows.envOfC qual (defScope st) s.heap.objs.size f cdv)) →
      ∃ t, PSs (cxOf CX0 P w K mg base N qual (defScope st) f cdv A outer s H E).nox (defBody st) t ∧ SimS G t m) : FnOk P w K mg base CX0 (k + 1) f fd ps (spN G ps.length (runN N.length ps.length m)) := by
  refine F.ok S (fun vs H Q E h => ?_) (fun cdv A outer s H vs Q E hr h => ?_)
  · obtain ⟨_, _, _, _, _, _, _, _, h, _⟩ := h; exact h
  · obtain ⟨φ, M, C, svs, sv, C', hs, rv, hl, hF, hQ⟩ := h
    obtain ⟨t, hp, sim⟩ := hbody cdv A outer s H E hr
    obtain ⟨_, hF⟩ := gd_i hF
    obtain ⟨o, C1, h1, h2⟩ := bnd_i hF
    exact ⟨t, hp, sim φ M H C _ _ o C1 (env_start rv) hs h1 _ (end_N hs h2 hQ)⟩
end

/-! ### calls -/
section
variable {G : Gm}
def eCall (np : Nat) (F : FE) (a : SA) : SE := fun ρ C => bnd (a ρ C) fun ss C1 => gd (ss.length = np) (F ss C1)
def nCall (np : Nat) (F : FN) (a : SA) : SN := fun ρ C => bnd (a ρ C) fun ss C1 => gd (ss.length = np) (F ss C1)
theorem sim_call {np : Nat} {F : FE} {E : XK} {ta : TA} {a : SA} (ha : SimA G ta a) : SimE G (tCall (spE G np F) [] E ta) (eCall np F a) := by
  intro φ M H C σ ρ s C' hE hs e Q hQ
  obtain ⟨ss, C1, h1, e⟩ := bnd_i e
  obtain ⟨hn, e⟩ := gd_i e
  refine ha φ M H C σ ρ ss C1 hE hs h1 _ fun vs H1 x1 s1 r1 => ?_
  refine ⟨φ, M, C1, ss, s, C', s1, by rw [List.append_nil]; exact r1, by rw [List.append_nil, r1.length, hn], e, fun v H' x2 s2 r2 => hQ v H' (x1.trans x2) s2 r2⟩
theorem sim_ncall {np : Nat} {F : FN} {E : XK} {ta : TA} {a : SA} (ha : SimA G ta a) : SimN G (tCall (spN G np F) [] E ta) (nCall np F a) := by
  intro φ M H C σ ρ s C' hE hs e Q hQ
  obtain ⟨ss, C1, h1, e⟩ := bnd_i e
  obtain ⟨hn, e⟩ := gd_i e
  refine ha φ M H C σ ρ ss C1 hE hs h1 _ fun vs H1 x1 s1 r1 => ?_
  refine ⟨φ, M, C1, ss, s, C', s1, by rw [List.append_nil]; exact r1, by rw [List.append_nil, r1.length, hn], e, fun p H' hp x2 s2 r2 => hQ p H' (x1.none_ hp) (x1.trans x2) s2 r2⟩

/-! ### arguments of which some are new things that change -/
def SimAg (G : Gm) (t : TA) (f : SA) : Prop :=
  ∀ φ M H C σ ρ ss C', EnvR G φ M H σ ρ → StR G φ M H C → f ρ C = some (ss, C') → ∀ Q : List V → Hp → Prop, (∀ vs φ' M' H', Grow φ M H φ' M' H' → StR G φ' M' H' C' → SvsR G φ' M' H' vs ss → Q vs H') → t σ H Q
theorem sim_agnil : SimAg G tNil aNil := by
  intro φ M H C σ ρ ss C' hE hs e Q hQ
  cases e
  exact hQ [] φ M H Grow.refl hs .nil
theorem sim_agcons {te : TE} {t : TA} {f : SE} {g : SA} (ha : SimE G te f) (hr : SimAg G t g) : SimAg G (tCons te t) (aCons f g) := by
  intro φ M H C σ ρ ss C' hE hs e Q hQ
  obtain ⟨v, C1, h1, e⟩ := bnd_i e
  obtain ⟨vs, C2, h2, e⟩ := bnd_i e
  cases e
  refine ha φ M H C σ ρ v C1 hE hs h1 _ fun x H1 x1 s1 r1 => ?_
  refine hr φ M H1 C1 σ ρ vs C' (hE.ext x1 hs.sub) s1 h2 _ fun ys φ' M' H2 g2 s2 r2 => ?_
  exact hQ _ φ' M' H2 (x1.grow.trans g2) s2 (.cons (r1.grow g2 s1.sub) r2)
def aNew (f : SN) (g : SA) : SA := fun ρ C => bnd (f ρ C) fun d C1 => bnd (g ρ (C1 ++ [d])) fun vs C2 => some (.cel C1.length :: vs, C2)
theorem sim_agnew {te : TE} {t : TA} {f : SN} {g : SA} (ha : SimN G te f) (hr : SimAg G t g) : SimAg G (tCons te t) (aNew f g) := by
  intro φ M H C σ ρ ss C' hE hs e Q hQ
  obtain ⟨d, C1, h1, e⟩ := bnd_i e
  obtain ⟨vs, C2, h2, e⟩ := bnd_i e
  cases e
  refine ha φ M H C σ ρ d C1 hE hs h1 _ fun p H1 hp x1 s1 c1 => ?_
  have g1 := alloc_grow (M := M) x1 hp
  have s2 := alloc_ok s1 hs.sub (fun z => hs.live p z hp) c1
  refine hr _ _ H1 _ σ ρ vs C' (hE.grow g1 hs.sub) s2 h2 _ fun ys φ' M' H2 g2 s3 r2 => ?_
  refine hQ _ φ' M' H2 (g1.trans g2) s3 (.cons ⟨p, g2.at_ ?_, rfl⟩ r2)
  have hl := s1.len
  rw [← hl]
  exact List.getElem?_concat_length
def eCallG (np : Nat) (F : FE) (a : SA) : SE := fun ρ C => bnd (a ρ C) fun ss C1 => gd (ss.length = np) (bnd (F ss C1) fun s C2 => match s with
  | .dat d => some (.dat d, C2.take C.length)
  | .cel n => gd (n < C.length) (some (.cel n, C2.take C.length)))
theorem sim_callG {np : Nat} {F : FE} {E : XK} {ta : TA} {a : SA} (ha : SimAg G ta a) : SimE G (tCall (spE G np F) [] E ta) (eCallG np F a) := by
  intro φ M H C σ ρ s C' hE hs e Q hQ
  obtain ⟨ss, C1, h1, e⟩ := bnd_i e
  obtain ⟨hn, e⟩ := gd_i e
  obtain ⟨s', C2, h2, e⟩ := bnd_i e
  refine ha φ M H C σ ρ ss C1 hE hs h1 _ fun vs φ' M' H1 g1 s1 r1 => ?_
  refine ⟨φ', M', C1, ss, s', C2, s1, by rw [List.append_nil]; exact r1, by rw [List.append_nil, r1.length, hn], h2, fun v H' x2 s2 r2 => ?_⟩
  have g2 := g1.trans x2.grow
  have sc := s2.cut g2 hs.sub hs.len.symm
  cases s' with
  | dat d => cases e; exact hQ v H' g2.ext sc (Rp.cut g2 r2)
  | cel n =>
    obtain ⟨hn, e⟩ := gd_i e
    cases e
    obtain ⟨a, ha, rfl⟩ := r2
    obtain ⟨ps, ep, _⟩ := g2.pre
    refine hQ _ H' g2.ext sc ⟨a, ?_, rfl⟩
    rw [ep, List.getElem?_append_left (by rw [hs.len]; exact hn)] at ha
    exact ha

/-! ### several names at once -/
def setAll : List Nat → List Sv → Env → Env
  | i :: is, v :: vs, ρ => setAll is vs (ρ.set i (some v))
  | _, _, ρ => ρ
def sMul (is : List Nat) (a : SA) : SS := fun ρ C => bnd (a ρ C) fun ss C1 => gd (ss.length = is.length) (some (.nx (setAll is ss ρ), C1))
def gNs : List Nat → TGs
  | [] => gNil
  | i :: is => gCons (gName i) (gNs is)
theorem gns_ok {φ : List Addr} {M : Addr → Prop} {H : Hp} {Q : L2.St → Hp → Prop} : ∀ (is : List Nat) {vs : List V} {ss : List Sv} {σ : L2.St} {ρ : Env}, SvsR G φ M H vs ss → ss.length = is.length → EnvR G φ M H σ ρ → (∀ σ', EnvR G φ M H σ' (setAll is ss ρ) → Q σ' H) → gNs is vs σ H Q
  | [], _, _, σ, ρ, .nil, _, hE, hQ => ⟨rfl, hQ σ hE⟩
  | [], _, _, _, _, .cons _ _, hl, _, _ => by simp at hl
  | i :: is, _, _, σ, ρ, .nil, hl, _, _ => by simp at hl
  | i :: is, _, _, σ, ρ, .cons r t, hl, hE, hQ => ⟨_, _, rfl, gns_ok is t (by simpa using hl) (hE.set i r) hQ⟩
theorem sim_smul {is : List Nat} {n : Nat} {ta : TA} {a : SA} (ha : SimAg G ta a) (hn : n = is.length) (hz : is.length ≤ 1000) : SimS G (tAsg (tTup ta) (gSeq G.K n (gNs is))) (sMul is a) := by
  subst hn
  intro φ M H C σ ρ o C' hE hs e Dd hD
  obtain ⟨ss, C1, h1, e⟩ := bnd_i e
  obtain ⟨hl, e⟩ := gd_i e
  cases e
  refine ha φ M H C σ ρ ss C' hE hs h1 _ fun vs φ' M' H1 g1 s1 r1 => ?_
  have ll := r1.length
  refine ⟨small_line (by omega), fun p hp => ?_⟩
  have x2 : Ext φ' H1 (upd H1 p (.tup vs)) := Ext.laid hp
  have g2 := g1.trans x2.grow
  refine ⟨p, vs, rfl, .inl (.inl (.inl upd_same)), by omega, ?_⟩
  exact gns_ok is (r1.grow x2.grow s1.sub) hl (hE.grow g2 hs.sub) fun σ' hE' => hD _ _ σ' _ g2 hE' (s1.laid hp)
theorem sim_spar {i j : Nat} {ta : TA} {a : SA} (ha : SimAg G ta a) : SimS G (tPar i j ta) (sMul [i, j] a) := by
  intro φ M H C σ ρ o C' hE hs e Dd hD
  obtain ⟨ss, C1, h1, e⟩ := bnd_i e
  obtain ⟨hl, e⟩ := gd_i e
  cases e
  refine ha φ M H C σ ρ ss C' hE hs h1 _ fun vs φ' M' H1 g1 s1 r1 => ?_
  cases r1 with
  | nil => simp at hl
  | cons r t =>
    cases t with
    | nil => simp at hl
    | cons r2 t =>
      cases t with
      | cons _ _ => simp at hl
      | nil =>
        exact ⟨_, _, rfl, hD φ' M' _ H1 g1 (((hE.grow g1 hs.sub).set i r).set j r2) s1⟩
end
end DX

/-! DGen: what the written-out defs want. -/
namespace DX
open PySem PySem.Spec L2
/-- a def that is called by its name -/
structure Cl (P : Program) (w : World) (K : PySem.W.Frag) (mg : Str → Option Value) (base : Heap) (k : Nat) (x : Str) (ps : List Str) (sp : Sp) : Prop where
  ex : ∃ (f : Addr) (fd : FuncData), FnOk P w K mg base CX0 k f fd ps sp ∧ mg x = some (.ref f) ∧ PySem.W.keepIn K (.ref f) = true ∧ Binds K fd ps []
section
variable {X : Cx} {k j : Nat} {x : Str} {ps : List Str} {sp : Sp} {p pos : Pos} {e : Expr} {es : List Expr} {t : TA}
theorem pe_cl (c : Cl X.prog X.w X.K X.mg X.base k x ps sp) (hr : Room j X.A) (hk : k ≤ j) (hg : Gl X x) (ha : PA X (e :: es) t)
    (hdb : (x == ("__debug__" : Str)) = false := by decide) (he : starEach (e :: es) X.env = (false, eval e X.env) :: starEach es X.env := by rfl) (hpl : (backTo pos (starEach es X.env)).any (·.1) = false := by rfl) :
    PE X (.Call (.Name x p) (e :: es) [] pos) (tCall sp [] E0 t) := by
  obtain ⟨f, fd, F, hm, kp, b⟩ := c.ex
  exact pe_call F (hr.mono hk) hg hm kp b .nil pass0 ha hdb he hpl
end
theorem hu1 {A : Around} {k : Nat} (hr : Room k A) : A.units + 1 < cLine := by have := hr.un; omega
theorem hu64 {A : Around} {k : Nat} (hr : Room k A) : A.units + 64 < cLine := by have := hr.un; omega
theorem hu65 {A : Around} {k : Nat} (hr : Room k A) : A.units + 65 < cLine := by have := hr.un; omega
end DX
namespace DX
open PySem PySem.Spec L2
section
variable {P : Program} {w : World} {K : PySem.W.Frag} {mg : Str → Option Value} {base : Heap} {x qual : Str} {st : Stmt} {f : Addr} {fd : FuncData} {N ps : List Str} {k : Nat} {G : Gm}
/-- a promise that nobody can ask -/
theorem ok_no {n : Nat} (F : Fun K x qual st f fd) (S : FnScope N ps (defScope st)) : FnOk P w K mg base CX0 (k + 1) f fd ps (spE G n fun _ _ => none) := by
  refine F.ok S (fun vs H Q E h => ?_) (fun cdv A outer s H vs Q E hr h => ?_)
  · obtain ⟨_, _, _, _, _, _, _, _, _, h, _⟩ := h; cases h
  · obtain ⟨_, _, _, _, _, _, _, _, _, h, _⟩ := h; cases h
end
end DX
namespace DX
open PySem PySem.Spec L2
section
variable {P : Program} {w : World} {K : PySem.W.Frag} {mg : Str → Option Value} {base : Heap} {x qual : Str} {st : Stmt} {f : Addr} {fd : FuncData} {N ps : List Str} {k n q : Nat} {G : Gm} {m : SS}
theorem ok_E' {F' : FE} (F : Fun K x qual st f fd) (S : FnScope N ps (defScope st)) (hM : F' = runE N.length ps.length m) (hq : q = ps.length)
    (hbody : ∀ (cdv : Value) (A : Around) (outer : List PySem.Env) (s : Shared) (H : Hp) (E : XK), Room k (A.deeper (PyProof.Rows.envOfC qual (defScope st) s.heap.objs.size f cdv)) →
      ∃ t, PSs (cxOf CX0 P w K mg base N qual (defScope st) f cdv A outer s H E).nox (defBody st) t ∧ SimS G t m) : FnOk P w K mg base CX0 (k + 1) f fd ps (spE G q F') := by
  subst hM
  subst hq
  exact ok_E F S hbody
theorem ok_N' {F' : FN} (F : Fun K x qual st f fd) (S : FnScope N ps (defScope st)) (hM : F' = runN N.length ps.length m) (hq : q = ps.length)
    (hbody : ∀ (cdv : Value) (A : Around) (outer : List PySem.Env) (s : Shared) (H : Hp) (E : XK), Room k (A.deeper (PyProof.Rows.envOfC qual (defScope st) s.heap.objs.size f cdv)) →
      ∃ t, PSs (cxOf CX0 P w K mg base N qual (defScope st) f cdv A outer s H E).nox (defBody st) t ∧ SimS G t m) : FnOk P w K mg base CX0 (k + 1) f fd ps (spN G q F') := by
  subst hM
  subst hq
  exact ok_N F S hbody
end
end DX
namespace DX
open PySem PySem.Spec L2
theorem bt_all : bootBuiltins "all" = some (Value.builtin "all") := by decide +kernel
theorem bt_any : bootBuiltins "any" = some (Value.builtin "any") := by decide +kernel
theorem bt_abs : bootBuiltins "abs" = some (Value.builtin "abs") := by decide +kernel
theorem bt_len : bootBuiltins "len" = some (Value.builtin "len") := by decide +kernel
theorem bt_isinstance : bootBuiltins "isinstance" = some (Value.builtin "isinstance") := by decide +kernel
theorem bt_sorted : bootBuiltins "sorted" = some (Value.builtin "sorted") := by decide +kernel
theorem bt_sum : bootBuiltins "sum" = some (Value.builtin "sum") := by decide +kernel
theorem bt_min : bootBuiltins "min" = some (Value.builtin "min") := by decide +kernel
theorem bt_max : bootBuiltins "max" = some (Value.builtin "max") := by decide +kernel
theorem bt_repr : bootBuiltins "repr" = some (Value.builtin "repr") := by decide +kernel
theorem bt_int : bootBuiltins "int" = some (Value.type "int") := by decide +kernel
theorem bt_list : bootBuiltins "list" = some (Value.type "list") := by decide +kernel
theorem bt_tuple : bootBuiltins "tuple" = some (Value.type "tuple") := by decide +kernel
theorem bt_set : bootBuiltins "set" = some (Value.type "set") := by decide +kernel
theorem bt_dict : bootBuiltins "dict" = some (Value.type "dict") := by decide +kernel
theorem bt_str : bootBuiltins "str" = some (Value.type "str") := by decide +kernel
theorem bt_bool : bootBuiltins "bool" = some (Value.type "bool") := by decide +kernel
end DX

/-! DGk: the rules, with the store of fixed objects named (within a comprehension's frame it must not be read off the frame). -/
namespace DX
open PySem PySem.Spec L2
section
variable {X : Cx} (K : PySem.W.Frag) (hK : X.K = K)
include hK
theorem k_add : OpR X (binaryOp .Add) (rAdd0 K) := by subst hK; exact op_add0
theorem k_eq (hu : X.A.units + 64 < cLine) : OpR X (compareOp .Eq) (rEqD K) := by subst hK; exact op_eqD hu
theorem k_ne (hu : X.A.units + 64 < cLine) : OpR X (compareOp .NotEq) (rNeD K) := by subst hK; exact op_neD hu
theorem k_in (hu : X.A.units + 65 < cLine) : OpR X (compareOp .In) (rIn0 K) := by subst hK; exact op_in0 hu
theorem k_notIn (hu : X.A.units + 65 < cLine) : OpR X (compareOp .NotIn) (rNotIn0 K) := by subst hK; exact op_notIn0 hu
theorem k_ix (hu : X.A.units + 1 < cLine) : IxR X (rIx0 K) := by subst hK; exact ix_0 hu
theorem k_sl : SlR X (rSl0 K) := by subst hK; exact sl_0
theorem k_len : CallR X (.builtin "len") (rLen0 K) := by subst hK; exact call_len0
theorem k_list : CallR X (.type "list") (rListOf K) := by subst hK; exact call_list_of
theorem k_tuple : CallR X (.type "tuple") (rTupOf K) := by subst hK; exact call_tuple_of
theorem k_all (hc : X.calm = true) : CallR X (.builtin "all") (rAll K) := by subst hK; exact cr_all hc
theorem k_any (hc : X.calm = true) : CallR X (.builtin "any") (rAny K) := by subst hK; exact cr_any hc
theorem k_sum (hc : X.calm = true) : CallR X (.builtin "sum") (rSum K) := by subst hK; exact cr_sum hc
theorem k_isi : CallR X (.builtin "isinstance") (rIsi K) := by subst hK; exact call_isi
theorem k_isiT : CallR X (.builtin "isinstance") (rIsiT K) := by subst hK; exact call_isiT
theorem k_seq {tg l : Expr} {tl : TE} (h : PE X l tl) : PI X tg l (iSeq K tl) := by subst hK; exact pi_seq h
theorem k_enum {e : Expr} {elts : List Expr} {kk : Nat} {tpos p pos : Pos} {ta : TA} (hg : Gl X "enumerate") (hm : X.mg "enumerate" = none) (ha : PA X [e] ta) (hs : starEach [e] X.env = [(false, eval e X.env)] := by rfl) :
    PI X (.Tuple elts kk tpos) (.Call (.Name "enumerate" p) [e] [] pos) (iEnum K ta) := by subst hK; exact pi_enum hg hm ha hs
theorem k_zip {e e2 : Expr} {elts : List Expr} {kk : Nat} {tpos p pos : Pos} {ta : TA} (hg : Gl X "zip") (hm : X.mg "zip" = none) (ha : PA X [e, e2] ta) (hs : starEach [e, e2] X.env = (false, eval e X.env) :: starEach [e2] X.env := by rfl) (hp : (backTo pos (starEach [e2] X.env)).any (·.1) = false := by rfl) :
    PI X (.Tuple elts kk tpos) (.Call (.Name "zip" p) [e, e2] [] pos) (RZ.iZipA K ta) := by subst hK; exact RZ.pi_zipA hg hm ha hs hp
theorem k_orT {a b : Expr} {rest : List Expr} {pos : Pos} {ta tb : TE} (ha : PE X a ta) (hb : PE X (.BoolOp .Or (b :: rest) pos) tb) : PE X (.BoolOp .Or (a :: b :: rest) pos) (tOrT K ta tb) := by subst hK; exact pe_orT ha hb
theorem k_truth {a : Expr} {ta : TE} (ha : PE X a ta) (he : ∀ whole, PySem.isTrue a X.env whole = (do let v ← whole; standAt a.pos; holding [v] (truthy v))) :
    PT X a (fun σ H Q => ta σ H fun x H' => ∃ k, TruV K x H' k ∧ Q k H') := by subst hK; exact pt_truth ha he
theorem k_gseq {es : List Expr} {k : Nat} {t : TGs} {n : Nat} {pos : Pos} (hc : X.calm = true) (h : PGs X es t) (hn : (assignEach es X.env).length = n := by rfl) (hst : (assignEach es X.env).findIdx? (·.1) = none := by rfl) : PG X (.Tuple es k pos) (gSeq K n t) := by subst hK; exact pg_seq hc h hn hst
end
end DX

/-! DSort: sorted(..) of texts. -/
namespace DX
open PySem PySem.Spec L2 PyProof.Rows
/-- the order of texts -/
def leS (a b : Str) : Bool := !ltCps b.cps.toList a.cps.toList
theorem leS_iff {a b : Str} : leS a b = true ↔ ¬ b.cps.toList < a.cps.toList := by
  unfold leS
  rw [ltCps_eq]
  simp
theorem leS_total (a b : Str) : leS a b = true ∨ leS b a = true := by
  rw [leS_iff, leS_iff]
  by_cases h : b.cps.toList < a.cps.toList
  · exact .inr (List.lt_asymm h)
  · exact .inl h
theorem leS_trans {a b c : Str} (h1 : leS a b = true) (h2 : leS b c = true) : leS a c = true := by
  rw [leS_iff] at *
  have h1 := List.not_lt.mp h1
  have h2 := List.not_lt.mp h2
  exact List.not_lt.mpr (List.le_trans h1 h2)
theorem leS_anti {a b : Str} (h1 : leS a b = true) (h2 : leS b a = true) : a = b := by
  rw [leS_iff] at *
  have e := List.le_antisymm (List.not_lt.mp h1) (List.not_lt.mp h2)
  obtain ⟨x⟩ := a
  obtain ⟨y⟩ := b
  congr 1
  exact Array.toList_inj.mp e
theorem leS_refl (a : Str) : leS a a = true := by
  rcases leS_total a a with h | h <;> exact h
theorem risingS_pw : ∀ {p : Str} {l : List Str}, risingS p l = true → (p :: l).Pairwise (fun a b => leS a b = true)
  | p, [], _ => List.pairwise_singleton _ _
  | p, x :: r, h => by
    unfold risingS at h
    rw [Bool.and_eq_true] at h
    have ih := risingS_pw h.2
    refine List.pairwise_cons.mpr ⟨fun y hy => ?_, ih⟩
    have hx : leS p x = true := h.1
    rcases List.mem_cons.mp hy with z | z
    · rw [z]; exact hx
    · exact leS_trans hx ((List.pairwise_cons.mp ih).1 y z)
theorem sortedS_pw : ∀ {l : List Str}, sortedS l = true → l.Pairwise (fun a b => leS a b = true)
  | [], _ => .nil
  | x :: r, h => risingS_pw h
def sortStr (xs : List Str) : List Str := xs.mergeSort leS
theorem sortStr_perm (xs : List Str) : (sortStr xs).Perm xs := List.mergeSort_perm xs leS
theorem sortStr_pw (xs : List Str) : (sortStr xs).Pairwise (fun a b => leS a b = true) :=
  List.pairwise_mergeSort (le := leS) (fun a b c => leS_trans) (fun a b => by rcases leS_total a b with h | h <;> simp [h]) xs
theorem sort_one {xs ys : List Str} (p : ys.Perm xs) (h : ys.Pairwise (fun a b => leS a b = true)) : ys = sortStr xs :=
  (p.trans (sortStr_perm xs).symm).eq_of_pairwise (fun _ _ _ _ => leS_anti) h (sortStr_pw xs)
/-- all are texts -/
def txts : List D → Option (List Str)
  | [] => some []
  | .str x :: ds => (txts ds).map (x :: ·)
  | _ :: _ => none
theorem txts_some : ∀ {ds : List D} {xs : List Str}, txts ds = some xs → ds = xs.map D.str
  | [], xs, h => by cases h; rfl
  | .str x :: ds, xs, h => by
    unfold txts at h
    cases hs : txts ds with
    | none => rw [hs] at h; cases h
    | some ys => rw [hs] at h; cases h; rw [txts_some hs]; rfl
  | .non :: _, _, h | .bl _ :: _, _, h | .int _ :: _, _, h | .tup _ :: _, _, h | .lst _ :: _, _, h | .dK _ :: _, _, h | .dT _ :: _, _, h | .ins _ _ :: _, _, h | .scr _ :: _, _, h | .kt _ :: _, _, h | .lk _ :: _, _, h => by cases h
theorem txts_map (xs : List Str) : txts (xs.map D.str) = some xs := by
  induction xs with
  | nil => rfl
  | cons x r ih => show (txts (r.map D.str)).map (x :: ·) = _; rw [ih]; rfl
def dSorted : List D → Option D
  | [.lst ds] => bn1 (txts ds) fun xs => gd (xs.length < 64) (some (.lst ((sortStr xs).map D.str)))
  | _ => none
section
variable {G : Gm}
theorem Rp.txts {M : Addr → Prop} {H : Hp} : ∀ {vs : List V} {xs : List Str}, RpL G M H vs (xs.map D.str) → vs = xs.map V.str
  | _, [], .nil => rfl
  | _, _ :: _, .cons r t => by cases r; rw [Rp.txts t]; rfl
theorem rpL_txts {M : Addr → Prop} {H : Hp} : ∀ (xs : List Str), RpL G M H (xs.map V.str) (xs.map D.str)
  | [] => .nil
  | x :: r => .cons (.str x) (rpL_txts r)
theorem sim_nsorted {ta : TA} {a : SA} (ha : SimA G ta a) : SimN G (tCB (rSortedS G.K) ta) (nB dSorted a) := by
  intro φ M H C σ ρ d C' hE hs e Q hQ
  obtain ⟨ss, C1, h1, e⟩ := bnd_i e
  obtain ⟨ds, h2, e⟩ := bn1_i e
  obtain ⟨z, h3, e⟩ := bn1_i e
  cases e
  refine ha φ M H C σ ρ ss C' hE hs h1 _ fun xs H1 x1 s1 r1 => ?_
  cases r1 with
  | nil => simp [sees] at h2; subst h2; cases h3
  | cons r t =>
    unfold sees at h2
    obtain ⟨d1, h4, h2⟩ := bn1_i h2
    obtain ⟨ds1, h5, h2⟩ := bn1_i h2
    cases h2
    cases t with
    | cons r' t' =>
      unfold sees at h5
      obtain ⟨d2, _, h5⟩ := bn1_i h5
      obtain ⟨d3, _, h5⟩ := bn1_i h5
      cases h5
      cases d1 <;> cases h3
    | nil =>
      cases h5
      have rp := s1.see_rp r h4
      cases d1 with
      | lst xs0 =>
        obtain ⟨ys, h6, h3⟩ := bn1_i h3
        obtain ⟨h7, h3⟩ := gd_i h3
        cases h3
        have e2 := txts_some h6
        subst e2
        cases rp with
        | lst nM rd hl rl =>
          have e3 := Rp.txts rl
          subst e3
          refine ⟨_, ys, rfl, .inl rd, h7, fun zs p pz sz hp => ?_⟩
          have e4 := sort_one pz (sortedS_pw sz)
          subst e4
          have hl2 : ((sortStr ys).map V.str).length ≤ sizeLine := by
            rw [List.length_map, (sortStr_perm ys).length_eq]
            exact small_line (by omega)
          exact hQ p _ (x1.none_ hp) (x1.trans (Ext.laid hp)) (s1.laidM hp) (CelR.newL s1 hp hl2 (rpL_txts _))
      | _ => cases h3
theorem k_sorted {X : Cx} (K : PySem.W.Frag) (hK : X.K = K) : CallR X (.builtin "sorted") (rSortedS K) := by subst hK; exact cr_sortedS
end
end DX

/-! DDict: dicts that are walked, written, joined. -/
namespace DX
open PySem PySem.Spec L2
/-! ### locks -/
def dic : HO → Prop
  | .dK _ => True
  | .dT _ => True
  | _ => False
/-- the same heap, but that the dict at d is locked, or is no more -/
structure Sw (d : Addr) (H H' : Hp) : Prop where
  off : ∀ a, a ≠ d → H' a = H a
  at_ : ∃ od u, dic u ∧ ((H d = some u ∧ H' d = some (.frz od u)) ∨ (H d = some (.frz od u) ∧ H' d = some u))
section
variable {G : Gm} {φ : List Addr} {M : Addr → Prop} {H H' H2 : Hp} {d : Addr} {C : Store}
theorem Sw.rd (w : Sw d H H') {a : Addr} {v : HO} (hv : ∀ o u, v ≠ .frz o u) (h : Rd H a v) : Rd H' a v := by
  by_cases e : a = d
  · subst e
    obtain ⟨od, u, du, ⟨h1, h2⟩ | ⟨h1, h2⟩⟩ := w.at_
    · rcases h with h | ⟨o, h⟩
      · rw [h1] at h; cases h; exact .inr ⟨od, h2⟩
      · rw [h1] at h; cases h; exact du.elim
    · rcases h with h | ⟨o, h⟩
      · rw [h1] at h; cases h; exact absurd rfl (hv _ _)
      · rw [h1] at h; cases h; exact .inl h2
  · rcases h with h | ⟨o, h⟩
    · exact .inl ((w.off a e).trans h)
    · exact .inr ⟨o, (w.off a e).trans h⟩
theorem Sw.keep (w : Sw d H H') {a : Addr} {v : HO} (h : H a = some v) (n : ¬ dic v) (n2 : ∀ o u, v ≠ .frz o u) : H' a = some v := by
  by_cases e : a = d
  · subst e
    obtain ⟨od, u, du, ⟨h1, h2⟩ | ⟨h1, h2⟩⟩ := w.at_
    · rw [h1] at h; cases h; exact absurd du n
    · rw [h1] at h; cases h; exact absurd rfl (n2 _ _)
  · exact (w.off a e).trans h
theorem Sw.live (w : Sw d H H') {a : Addr} (h : H a ≠ none) : H' a ≠ none := by
  by_cases e : a = d
  · subst e
    obtain ⟨od, u, du, ⟨h1, h2⟩ | ⟨h1, h2⟩⟩ := w.at_ <;> rw [h2] <;> simp
  · rw [w.off a e]; exact h
theorem Sw.none_ (w : Sw d H H') {a : Addr} (h : H' a = none) : H a = none := Classical.byContradiction fun z => w.live z h
mutual
theorem Rp.sw (w : Sw d H H') : ∀ {v : V} {x : D}, Rp G M H v x → Rp G M H' v x
  | _, _, .non => .non
  | _, _, .bl b => .bl b
  | _, _, .int i => .int i
  | _, _, .str x => .str x
  | _, _, .tup h l r => .tup ⟨h.1, w.keep h.2 (fun z => z) (by intro _ _ z; cases z)⟩ l (RpL.sw w r)
  | _, _, .lst n h l r => .lst n (w.rd (by intro _ _ z; cases z) h) l (RpL.sw w r)
  | _, _, .kt h r => .kt h (RpL.sw w r)
  | _, _, .scr (.inl h) l => .scr (.inl ⟨h.1, w.rd (by intro _ _ z; cases z) h.2⟩) l
  | _, _, .scr (.inr h) l => .scr (.inr h) l
  | _, _, .dK n h l e r => .dK n (w.rd (by intro _ _ z; cases z) h) l e (RpL.sw w r)
  | _, _, .dT n h l e r => .dT n (w.rd (by intro _ _ z; cases z) h) l e (RpL.sw w r)
  | _, _, .ins n n' h h' e r => .ins n n' (w.keep h (fun z => z) (by intro _ _ z; cases z)) (w.keep h' (fun z => z) (by intro _ _ z; cases z)) e (RpL.sw w r)
theorem RpL.sw (w : Sw d H H') : ∀ {vs : List V} {ds : List D}, RpL G M H vs ds → RpL G M H' vs ds
  | _, _, .nil => .nil
  | _, _, .cons r t => .cons (Rp.sw w r) (RpL.sw w t)
end
theorem CelR.sw (w : Sw d H H') {a : Addr} {c : D} (n : a ≠ d) (h : CelR G M H a c) : CelR G M H' a c := by
  have ha := w.off a n
  cases c with
  | lst ds => obtain ⟨vs, h1, h2, h3⟩ := h; exact ⟨vs, ha.trans h1, h2, h3.sw w⟩
  | dK ds => obtain ⟨vs, h1, h2, h3, h4⟩ := h; exact ⟨vs, ha.trans h1, h2, h3, h4.sw w⟩
  | dT ds => obtain ⟨vs, h1, h2, h3, h4⟩ := h; exact ⟨vs, ha.trans h1, h2, h3, h4.sw w⟩
  | ins c ds => obtain ⟨dx, fs, m, h1, h2, h3, h4⟩ := h; exact ⟨dx, fs, m, ha.trans h1, w.keep h2 (fun z => z) (by intro _ _ z; cases z), h3, h4.sw w⟩
  | lk c =>
    rcases h.lk_inv with ⟨ds, rfl⟩ | ⟨ds, rfl⟩
    · obtain ⟨od, vs, h1, h2, h3, h4⟩ := h; exact ⟨od, vs, ha.trans h1, h2, h3, h4.sw w⟩
    · obtain ⟨od, vs, h1, h2, h3, h4⟩ := h; exact ⟨od, vs, ha.trans h1, h2, h3, h4.sw w⟩
  | non => exact h.elim
  | bl b => exact h.elim
  | int b => exact h.elim
  | str b => exact h.elim
  | tup b => exact h.elim
  | scr b => exact h.elim
  | kt b => exact h.elim
theorem StR.sw (w : Sw d H H') (n : d ∉ φ) (s : StR G φ M H C) : StR G φ M H' C :=
  ⟨s.len, s.nd, s.sub, fun a h => w.live (s.live a h), fun m c a h1 h2 => (s.cel m c a h1 h2).sw w fun z => n (by rw [← z]; exact List.mem_of_getElem? h2), fun a h u e => by
    by_cases z : a = d
    · subst z
      obtain ⟨od, v, du, ⟨h1, h2⟩ | ⟨h1, h2⟩⟩ := w.at_
      · rw [h2] at e; cases e; rfl
      · rw [h2] at e; cases e
        cases u with
        | tup xs => exact du.elim
        | _ => rfl
    · rw [w.off a z] at e; exact s.mt a h u e⟩
theorem SvR.sw (w : Sw d H H') {v : V} {s : Sv} (h : SvR G φ M H v s) : SvR G φ M H' v s := by
  cases s with
  | dat d => exact Rp.sw w h
  | cel n => exact h
theorem EnvR.sw (w : Sw d H H') {σ : L2.St} {ρ : Env} (h : EnvR G φ M H σ ρ) : EnvR G φ M H' σ ρ := ⟨h.len, fun i s e => let ⟨v, h1, h2⟩ := h.at_ i s e; ⟨v, h1, h2.sw w⟩⟩
/-- locked, walked, unlocked -/
theorem sw_lock {u : HO} {od : Obj} (hd : H d = some u) (du : dic u) : Sw d H (upd H d (.frz od u)) := ⟨fun a n => upd_ne n, od, u, du, .inl ⟨hd, upd_same⟩⟩
theorem sw_unlock {u : HO} {od : Obj} (hd : H d = some (.frz od u)) (du : dic u) : Sw d H (upd H d u) := ⟨fun a n => upd_ne n, od, u, du, .inr ⟨hd, upd_same⟩⟩
theorem ext_lock {u : HO} {od : Obj} (hd : H d = some u) (x : Ext φ (upd H d (.frz od u)) H2) : Ext φ H (upd H2 d u) := by
  refine ⟨fun a v e n => ?_, fun a h => ?_⟩
  · by_cases z : a = d
    · subst z; rw [hd] at e; cases e; exact upd_same
    · rw [upd_ne z]; exact x.keep a v (by rw [upd_ne z]; exact e) n
  · by_cases z : a = d
    · subst z; rw [upd_same]; simp
    · rw [upd_ne z]; exact x.live a (by rw [upd_ne z]; exact h)
theorem grow_lock {φ' : List Addr} {M' : Addr → Prop} {u : HO} {od : Obj} (hd : H d = some u) (x : Grow φ M (upd H d (.frz od u)) φ' M' H2) : Grow φ M H φ' M' (upd H2 d u) := by
  have y := ext_lock hd x.ext
  refine ⟨?_, y.keep, y.live, x.up, fun a h => ?_⟩
  · obtain ⟨ps, e, hp⟩ := x.pre
    refine ⟨ps, e, fun p hp' => ?_⟩
    have q := hp p hp'
    by_cases z : p = d
    · subst z; rw [upd_same] at q; cases q
    · rw [upd_ne z] at q; exact q
  · rcases x.new a h with h | h
    · exact .inl h
    · by_cases z : a = d
      · subst z; rw [upd_same] at h; cases h
      · rw [upd_ne z] at h; exact .inr h

/-! ### what reads alone -/
def SimP (G : Gm) (te : TE) (f : SE) : Prop := ∀ φ M H C σ ρ x C', EnvR G φ M H σ ρ → StR G φ M H C → f ρ C = some (.dat x, C') → C' = C ∧ ∃ v, Rp G M H v x ∧ (∀ Q : VK, Q v H → te σ H Q) ∧ ∀ d H', Sw d H H' → ∀ Q : VK, Q v H' → te σ H' Q
theorem simp_var {i : Nat} : SimP G (tVar i) (eVar i) := by
  intro φ M H C σ ρ x C' he hs e
  obtain ⟨v, h1, e⟩ := bn1_i e
  cases e
  have h2 : ρ[i]? = some (some (.dat x)) := by
    cases z : ρ[i]? with
    | none => rw [z] at h1; cases h1
    | some o => rw [z] at h1; cases o with
      | none => cases h1
      | some x => cases h1; rfl
  obtain ⟨w, h3, h4⟩ := he.at_ i _ h2
  exact ⟨rfl, w, h4, fun Q q => ⟨w, h3, q⟩, fun _ _ _ Q q => ⟨w, h3, q⟩⟩
/-- d[k] of a dict -/
def eIxK (f g : SE) : SE := fun ρ C => bnd (f ρ C) fun v C1 => bnd (g ρ C1) fun w C2 => match v with
  | .dat (.dK kvs) => match w with
    | .dat k => bn1 (dKey k) fun k => bn1 (dGet kvs k) fun z => some (.dat z, C2)
    | _ => none
  | _ => none
theorem keyV {M : Addr → Prop} {H : Hp} {v : V} {e : D} {k : Key} (r : Rp G M H v e) (h : dKey e = some k) : v = kV k := by
  cases e with
  | int i => cases h; cases r; rfl
  | str x => cases h; cases r; rfl
  | _ => cases h
theorem get_rel {M : Addr → Prop} {H : Hp} {κ : Type} [DecidableEq κ] {k : κ} : ∀ {kvs : List (κ × V)} {ds : List (κ × D)} {z : D}, kvs.map (·.1) = ds.map (·.1) → RpL G M H (kvs.map (·.2)) (ds.map (·.2)) → dGet ds k = some z → ∃ v, valV kvs k = some v ∧ Rp G M H v z
  | [], [], _, _, _, h => by cases h
  | [], _ :: _, _, e, _, _ => by simp at e
  | _ :: _, [], _, e, _, _ => by simp at e
  | a :: kvs, b :: ds, z, e, r, h => by
    simp only [List.map_cons, List.cons.injEq] at e
    cases r with
    | cons r1 r2 =>
      unfold dGet at h
      unfold valV
      rw [List.find?_cons] at h ⊢
      by_cases q : b.1 = k
      · have q' : a.1 = k := e.1.trans q
        rw [decide_eq_true q] at h
        rw [decide_eq_true q']
        cases h
        exact ⟨_, rfl, r1⟩
      · have q' : ¬ a.1 = k := fun w => q (e.1.symm.trans w)
        rw [decide_eq_false q] at h
        rw [decide_eq_false q']
        exact get_rel e.2 r2 h
end
end DX

/-! DDict2: walks over dicts, d.update(e), {k: v}, what a block leaves behind. -/
namespace DX
open PySem PySem.Spec L2
section
variable {G : Gm}
theorem simp_ixk {ta tb : TE} {f g : SE} (ha : SimP G ta f) (hb : SimP G tb g) : SimP G (tOp (rIx0 G.K) ta tb) (eIxK f g) := by
  intro φ M H C σ ρ x C' he hs e
  obtain ⟨v, C1, h1, e⟩ := bnd_i e
  obtain ⟨w, C2, h2, e⟩ := bnd_i e
  cases v with
  | cel n => cases e
  | dat dv =>
    cases dv with
    | dK kvs =>
      cases w with
      | cel n => cases e
      | dat dk =>
        obtain ⟨k, h3, e⟩ := bn1_i e
        obtain ⟨z, h4, e⟩ := bn1_i e
        cases e
        obtain ⟨rfl, a, ra, qa, qa'⟩ := ha φ M H C σ ρ _ _ he hs h1
        obtain ⟨rfl, b, rb, qb, qb'⟩ := hb φ M H _ σ ρ _ _ he hs h2
        cases ra with
        | dK n rd l ek rl =>
          obtain ⟨y, h5, h6⟩ := get_rel ek rl h4
          have eb := keyV rb h3
          subst eb
          refine ⟨rfl, y, h6, fun Q q => qa _ (qb _ (.inr ⟨_, y, rfl, .inl ⟨_, k, rd, rfl, h5.symm⟩, q⟩)), fun d H' sw Q q => qa' d H' sw _ (qb' d H' sw _ (.inr ⟨_, y, rfl, .inl ⟨_, k, sw.rd (by intro _ _ z; cases z) rd, rfl, h5.symm⟩, q⟩))⟩
    | _ => cases e

/-! ### for k in d -/
def tLockA (t : TE) : TE := fun σ H Q => tLockE t σ H Q ∨ t σ H Q
def tLockB (t : TS) : TS := fun D σ H => tLock t D σ H ∨ t D σ H
theorem pe_lockA {X : Cx} {e : Expr} {t : TE} (h : PE X e t) : PE X e (tLockA t) := ⟨fun pins s σ H Q I q => by
  rcases q with q | q
  · exact (pe_lock h).run pins s σ H Q I q
  · exact h.run pins s σ H Q I q⟩
theorem ps_lockB {X : Cx} {st : Stmt} {t : TS} (h : PS X st t) : PS X st (tLockB t) := ⟨fun pins s σ H D I q => by
  rcases q with q | q
  · exact (ps_lock h).run pins s σ H D I q
  · exact h.run pins s σ H D I q⟩
/-- the keys of a dict that is data -/
def iKy (f : SE) : SI := fun ρ C => bnd (f ρ C) fun v C1 => match v with
  | .dat (.dK kvs) => some (⟨kvs.map fun kv => keyD kv.1, []⟩, C1)
  | _ => none
theorem keyD_rp {M : Addr → Prop} {H : Hp} (k : Key) : Rp G M H (kV k) (keyD k) := by
  cases k with
  | inl i => exact .int i
  | inr x => exact .str x
theorem itr_keys {φ : List Addr} {M : Addr → Prop} {H : Hp} {a : Addr} {o : Obj} {kvs : List (Key × V)} {ds : List (Key × D)} (hf : H a = some (.frz o (.dK kvs))) (hn : ¬ M a) (ek : kvs.map (·.1) = ds.map (·.1)) :
    ItR G φ M H (Itk a o kvs) ⟨ds.map fun kv => keyD kv.1, []⟩ := by
  intro φ2 M2 H2 C2 g2 s2 _
  have hf2 := g2.keeps.keep a _ hn hf
  have hl : kvs.length = ds.length := by simpa using congrArg List.length ek
  refine ⟨⟨hf2, by simp [hl]⟩, fun i d hi => ⟨⟨hf2, ?_⟩, fun x H3 y => ?_⟩⟩
  · have := (List.getElem?_eq_some_iff.mp hi).1
    simpa [hl] using this
  · obtain ⟨rfl, k, v, h1, rfl⟩ := y
    refine ⟨.inl rfl, ?_⟩
    rw [List.getElem?_map] at hi
    cases hd : ds[i]? with
    | none => rw [hd] at hi; cases hi
    | some p =>
      rw [hd] at hi
      cases hi
      have e1 := congrArg (fun l => l[i]?) ek
      simp only [List.getElem?_map, h1, hd, Option.map_some, Option.some.injEq] at e1
      show Rp G M2 H3 (kV k) (keyD p.1)
      rw [← e1]
      exact keyD_rp k
theorem iky_i {f : SE} {ρ : Env} {C C1 : Store} {src : Src} (h : iKy f ρ C = some (src, C1)) : ∃ kvs, f ρ C = some (.dat (.dK kvs), C1) ∧ src = ⟨kvs.map fun kv => keyD kv.1, []⟩ := by
  obtain ⟨v, C2, h1, h⟩ := bnd_i h
  cases v with
  | cel n => cases h
  | dat d =>
    cases d with
    | dK kvs => cases h; exact ⟨kvs, h1, rfl⟩
    | _ => cases h
theorem sim_nlck {tk : TE} {g : TG} {tt : TT} {te : TE} {vs ws : List Nat} {fk : SE} {b : D → Env → Option Env} {ft : ST} {fe : SE} (hP : SimP G tk fk) (hG : SimG G g b ws) (hw : ∀ i ∈ ws, i ∈ vs) (hT : SimT G tt ft) (hE' : SimE G te fe) :
    SimN G (tLockA (tLc (iKeys tk) g tt te vs)) (nLc (iKy fk) b ft fe vs) := by
  intro φ M H C σ ρ d C' hE hs e Q hQ
  obtain ⟨src, C1, h1, e⟩ := bnd_i e
  obtain ⟨hlen, e⟩ := gd_i e
  obtain ⟨zs, C2, h2, e⟩ := bnd_i e
  cases e
  obtain ⟨kvs, h3, rfl⟩ := iky_i h1
  obtain ⟨rfl, v, rv, q0, q1⟩ := hP φ M H C σ ρ _ C1 hE hs h3
  cases rv with
  | @dK a kv _ nM rd l ek rl =>
    have hn : a ∉ φ := fun z => nM (hs.sub a z)
    rcases rd with hd | ⟨o, hd⟩
    · refine .inl ⟨a, _, hd, trivial, fun od => ?_⟩
      have w := sw_lock (od := od) hd trivial
      refine lc_at (hE.sw w) (hs.sw w hn) (src := ⟨kvs.map fun kv => keyD kv.1, []⟩) (fun R hR => q1 a _ w _ ⟨a, od, rfl, .inl ⟨kv, upd_same, hR _ _ Ext.refl (hs.sw w hn) (itr_keys upd_same nM ek)⟩⟩) hG hw hT hE' hlen h2 (fun p H' hp x s c => ?_)
      have hk := x.keep a _ upd_same hn
      have w2 := sw_unlock (od := od) hk trivial
      have npa : p ≠ a := fun z => by rw [z, upd_same] at hp; cases hp
      refine ⟨hk, hQ p _ (by rw [upd_ne npa] at hp; exact hp) (ext_lock hd x) (s.sw w2 hn) (c.sw w2 npa)⟩
    · exact .inr (lc_at hE hs (src := ⟨kvs.map fun kv => keyD kv.1, []⟩) (fun R hR => q0 _ ⟨a, o, rfl, .inl ⟨kv, hd, hR _ _ Ext.refl hs (itr_keys hd nM ek)⟩⟩) hG hw hT hE' hlen h2 hQ)
theorem sim_sfork {tk : TE} {g : TG} {tb : TS} {fk : SE} {b : D → Env → Option Env} {ws : List Nat} {body : SS} (hP : SimP G tk fk) (hG : SimG G g b ws) (hB : SimS G tb body) : SimS G (tLockB (tFor (iKeys tk) g tb)) (sFor (iKy fk) b body) := by
  intro φ M H C σ ρ o C' hE hs e0 Dd hD
  obtain ⟨src, C1, h1, e1⟩ := bnd_i e0
  obtain ⟨kvs, h3, rfl⟩ := iky_i h1
  obtain ⟨rfl, v, rv, q0, q1⟩ := hP φ M H C σ ρ _ C1 hE hs h3
  cases rv with
  | @dK a kv _ nM rd l ek rl =>
    have hn : a ∉ φ := fun z => nM (hs.sub a z)
    rcases rd with hd | ⟨ob, hd⟩
    · refine .inl ⟨a, _, hd, trivial, fun od => ?_⟩
      have w := sw_lock (od := od) hd trivial
      refine for_at (hE.sw w) (hs.sw w hn) (src := ⟨kvs.map fun kv => keyD kv.1, []⟩) (fun R hR => q1 a _ w _ ⟨a, od, rfl, .inl ⟨kv, upd_same, hR _ _ Ext.refl (hs.sw w hn) (itr_keys upd_same nM ek)⟩⟩) hG hB e1 ?_
      have hnew : ∀ φ' M' H', Grow φ M (upd H a (.frz od (.dK kv))) φ' M' H' → a ∉ φ' := fun φ' M' H' x z => by
        obtain ⟨ps, e3, e2⟩ := x.pre
        rw [e3] at z
        rcases List.mem_append.mp z with z | z
        · exact hn z
        · have := e2 a z; rw [upd_same] at this; cases this
      cases o with
      | nx ρ1 =>
        refine fun φ' M' σ' H' x hE' s' => ?_
        have hk := x.keep a _ upd_same hn
        have w2 := sw_unlock (od := od) hk trivial
        exact ⟨hk, hD φ' M' σ' _ (grow_lock hd x) (hE'.sw w2) (s'.sw w2 (hnew _ _ _ x))⟩
      | bk ρ1 =>
        refine fun φ' M' σ' H' x hE' s' => ?_
        have hk := x.keep a _ upd_same hn
        have w2 := sw_unlock (od := od) hk trivial
        exact ⟨hk, hD φ' M' σ' _ (grow_lock hd x) (hE'.sw w2) (s'.sw w2 (hnew _ _ _ x))⟩
      | ct ρ1 =>
        refine fun φ' M' σ' H' x hE' s' => ?_
        have hk := x.keep a _ upd_same hn
        have w2 := sw_unlock (od := od) hk trivial
        exact ⟨hk, hD φ' M' σ' _ (grow_lock hd x) (hE'.sw w2) (s'.sw w2 (hnew _ _ _ x))⟩
      | rt sv =>
        refine fun φ' M' v H' x s' r' => ?_
        have hk := x.keep a _ upd_same hn
        have w2 := sw_unlock (od := od) hk trivial
        exact ⟨hk, hD φ' M' v _ (grow_lock hd x) (s'.sw w2 (hnew _ _ _ x)) (r'.sw w2)⟩
    · exact .inr (for_at hE hs (src := ⟨kvs.map fun kv => keyD kv.1, []⟩) (fun R hR => q0 _ ⟨a, ob, rfl, .inl ⟨kv, hd, hR _ _ Ext.refl hs (itr_keys hd nM ek)⟩⟩) hG hB e1 hD)

/-! ### d.update(e) -/
def mergeD (ds more : List (Key × D)) : List (Key × D) := more.foldl (fun acc kv => dPut acc kv.1 kv.2) ds
theorem merge_rel {M : Addr → Prop} {H : Hp} : ∀ {more : List (Key × V)} {mds : List (Key × D)} {kvs : List (Key × V)} {ds : List (Key × D)}, more.map (·.1) = mds.map (·.1) → RpL G M H (more.map (·.2)) (mds.map (·.2)) → kvs.map (·.1) = ds.map (·.1) → RpL G M H (kvs.map (·.2)) (ds.map (·.2)) →
    (mergeK kvs more).map (·.1) = (mergeD ds mds).map (·.1) ∧ RpL G M H ((mergeK kvs more).map (·.2)) ((mergeD ds mds).map (·.2))
  | [], [], _, _, _, _, e, r => ⟨e, r⟩
  | [], _ :: _, _, _, e, _, _, _ => by simp at e
  | _ :: _, [], _, _, e, _, _, _ => by simp at e
  | a :: more, b :: mds, kvs, ds, e, r, e2, r2 => by
    simp only [List.map_cons, List.cons.injEq] at e
    cases r with
    | cons r1 rm =>
      have p := put_rel r1 b.1 e2 r2
      have q := merge_rel (kvs := putK kvs b.1 a.2) (ds := dPut ds b.1 b.2) e.2 rm p.1 p.2
      have ea : mergeK kvs (a :: more) = mergeK (putK kvs b.1 a.2) more := by
        rw [← e.1]; rfl
      rw [ea]
      exact q
def rUpd : V → List V → Hp → VK → Prop := fun x xs H Q => ∃ (a c : Addr) (kvs more : List (Key × V)), x = .ref a ∧ xs = [.ref c] ∧ a ≠ c ∧ H a = some (.dK kvs) ∧ Rd H c (.dK more) ∧ kvs.length + more.length ≤ sizeLine ∧ Q .non (upd H a (.dK (mergeK kvs more)))
theorem mt_upd {X : Cx} : MtR X "dict.update" rUpd := by
  intro pins s σ H x xs v us Q I rx rxs h
  obtain ⟨a, c, kvs, more, rfl, rfl, ne, ha, hc, hl, q⟩ := h
  cases rx
  cases rxs with
  | cons ry rt =>
    cases rt
    cases ry
    obtain ⟨z, hd, vs, rel, dd⟩ := dk_of I.hok ha
    obtain ⟨z2, hd2, ws, rel2, dd2⟩ := dk_rd I.hok hc
    have l1 := rel.length
    have l2 := rel2.length
    refine PySem.call_meetsIn PySem.F.slot_dict_update dd.typeIs PySem.F.entry_dict_update (PySem.F.args_dict_update_2 _ _) (PySem.meets_dict_update (mixKind X.prog X.w) a c ne hd2) ⟨vs, ws, dd, dd2, by omega, fun h' d1 d2 hs => ?_⟩
    have hm : (mergeK kvs more).length ≤ sizeLine := Nat.le_trans (length_mergeK more kvs) hl
    have he : ∃ q, h'.get? a = some q := let ⟨q, _, _, hq, _⟩ := d1; ⟨q, hq⟩
    exact ⟨.non, _, d_write (t' := s.toks) I (by rw [ha]; exact True.intro) hs he (dk_new hm hd (rel2.merge rel) d1), rfl, q⟩
def dictCel (C : Store) (v : Sv) : Option (Nat × List (Key × D)) := match v with
  | .cel n => match C[n]? with
    | some (.dK ds) => some (n, ds)
    | _ => none
  | _ => none
theorem dictCel_some {C : Store} {v : Sv} {n : Nat} {ds : List (Key × D)} (h : dictCel C v = some (n, ds)) : v = .cel n ∧ C[n]? = some (.dK ds) := by
  unfold dictCel at h
  cases v with
  | dat d => cases h
  | cel m =>
    cases hc : C[m]? with
    | none => simp [hc] at h
    | some c =>
      cases c with
      | dK es => simp [hc] at h; obtain ⟨rfl, rfl⟩ := h; exact ⟨rfl, hc⟩
      | _ => simp [hc] at h
def eUpd (f g : SE) : SE := fun ρ C => bnd (f ρ C) fun v C1 => bn1 (dictCel C1 v) fun _ => bnd (g ρ C1) fun w C2 => bn1 (dictCel C2 v) fun nd => match w with
  | .dat (.dK more) => gd (nd.2.length + more.length ≤ sizeLine) (some (.dat .non, C2.set nd.1 (.dK (mergeD nd.2 more))))
  | _ => none
end
end DX

/-! DKw: d.update(e), {k: v}, blocks that leave data behind, calls with names. -/
namespace DX
open PySem PySem.Spec L2
section
variable {G : Gm}
theorem sim_upd {to te : TE} {f g : SE} (ho : SimE G to f) (he : SimE G te g) : SimE G (tBM G.K "dict" rUpd to (tCons te tNil)) (eUpd f g) := by
  intro φ M H C σ ρ s C' hE hs e0 Q hQ
  obtain ⟨v, C1, h1, e1⟩ := bnd_i e0
  obtain ⟨n0, h2, e2⟩ := bn1_i e1
  obtain ⟨w, C2, h3, e3⟩ := bnd_i e2
  obtain ⟨nd, h4, e4⟩ := bn1_i e3
  obtain ⟨n, ds⟩ := nd
  cases w with
  | cel m => cases e4
  | dat dw =>
    cases dw with
    | dK more =>
      obtain ⟨h6, e5⟩ := gd_i e4
      cases e5
      refine ho φ M H C σ ρ v C1 hE hs h1 _ fun x H1 x1 s1 r1 => ?_
      obtain ⟨n1, ds1⟩ := n0
      obtain ⟨rfl, hc1⟩ := dictCel_some h2
      obtain ⟨p, hp, rfl⟩ := r1
      obtain ⟨kv1, hk1, _⟩ := s1.cel _ _ _ hc1 hp
      refine ⟨.inr (.inr (.inl ⟨rfl, .inl ⟨_, hk1⟩⟩)), ?_⟩
      refine he φ M H1 C1 σ ρ _ C2 (hE.ext x1 hs.sub) s1 h3 _ fun y H2 x2 s2 r2 => ?_
      obtain ⟨e6, hc2⟩ := dictCel_some h4
      cases e6
      obtain ⟨kv2, hk2, l2, ek2, rl2⟩ := s2.cel _ _ _ hc2 hp
      have hpφ : p ∈ φ := List.mem_of_getElem? hp
      have hpM := s2.sub p hpφ
      cases r2 with
      | @dK c km _ nM rd l ek rl =>
        have ne : p ≠ c := fun z => nM (by rw [← z]; exact hpM)
        have l3 : kv2.length = ds.length := by simpa using congrArg List.length ek2
        have l4 : km.length = more.length := by simpa using congrArg List.length ek
        have h6' : ds.length + more.length ≤ sizeLine := h6
        obtain ⟨m1, m2⟩ := merge_rel ek rl ek2 rl2
        have hm : (mergeK kv2 km).length ≤ sizeLine := Nat.le_trans (length_mergeK km kv2) (by omega)
        exact ⟨p, c, kv2, km, rfl, rfl, ne, hk2, rd, by omega, hQ .non _ ((x1.trans x2).trans (Ext.wrote hpφ)) (wrote_ok s2 hp (CelR.dKW hpM hm m1 m2)) .non⟩
    | _ => cases e4
/-! ### {k: v} -/
def nDsp (f g : SE) : SN := fun ρ C => bnd (f ρ C) fun v C1 => bnd (g ρ C1) fun w C2 => bn1 (datOf v) fun k => bn1 (dKey k) fun k => bn1 (datOf w) fun z => some (.dK [(k, z)], C2)
theorem sim_ndsp {tk tv : TE} {f g : SE} (hk : SimE G tk f) (hv : SimE G tv g) : SimN G (tDisp [(tk, tv)]) (nDsp f g) := by
  intro φ M H C σ ρ d C' hE hs e0 Q hQ
  obtain ⟨v, C1, h1, e1⟩ := bnd_i e0
  obtain ⟨w, C2, h2, e2⟩ := bnd_i e1
  obtain ⟨k0, h3, e3⟩ := bn1_i e2
  obtain ⟨k, h4, e4⟩ := bn1_i e3
  obtain ⟨z, h5, e5⟩ := bn1_i e4
  cases e5
  intro p hp
  have g0 := alloc_grow (φ := φ) (M := M) (Ext.laid (o := .dK []) hp) hp
  have hpφ : p ∉ φ := fun q => hs.live _ (hs.sub _ q) hp
  have kM := keepsM (M := M) (o := .dK []) hp
  have hE1 : EnvR G φ (fun a => M a ∨ a = p) (upd H p (.dK [])) σ ρ := ⟨hE.len, fun i s e => let ⟨v, q1, q2⟩ := hE.at_ i s e; ⟨v, q1, q2.keeps kM fun _ _ _ e => e⟩⟩
  have s1 := hs.laidM (o := .dK []) hp
  refine hk φ _ _ C σ ρ v C1 hE1 s1 h1 _ fun x H1 x1 s2 r1 => ?_
  refine hv φ _ _ C1 σ ρ w C' (hE1.ext x1 s1.sub) s2 h2 _ fun y H2 x2 s3 r2 => ?_
  cases v with
  | cel n => cases h3
  | dat dk =>
    cases h3
    cases w with
    | cel n => cases h5
    | dat dv =>
      cases h5
      have ek := keyV r1 h4
      subst ek
      have x3 := x1.trans x2
      have hpd : H2 p = some (.dK []) := x3.keep p _ upd_same hpφ
      refine ⟨hpd, [(k, y)], rfl, Nat.le_of_ble_eq_true rfl, ?_⟩
      have xx : Ext φ H (upd H2 p (.dK [(k, y)])) := by
        refine ⟨fun a u e n => ?_, fun a h => ?_⟩
        · rw [upd_ne (ne_of_none e hp)]
          exact x3.keep a u (by rw [upd_ne (ne_of_none e hp)]; exact e) n
        · by_cases q : a = p
          · subst q; rw [upd_same]; simp
          · rw [upd_ne q]; exact x3.live a (by rw [upd_ne q]; exact h)
      have kw : Keeps (fun a => M a ∨ a = p) (fun a => M a ∨ a = p) H2 (upd H2 p (.dK [(k, y)])) := keepsW (.inr rfl)
      exact hQ p _ hp xx (s3.wroteM (.inr rfl) hpφ) ⟨[(k, y)], upd_same, small_line (Nat.le_of_ble_eq_true rfl), rfl, .one (Rp.keeps kw r2)⟩
/-! ### a block of which data alone stays -/
def frzV (n0 : Nat) (C : Store) : Sv → Option Sv
  | .dat d => some (.dat d)
  | .cel n => if n < n0 then some (.cel n) else match C[n]? with
    | some d => if nolk d = true then some (.dat d) else none
    | none => none
def frzE (n0 : Nat) (C : Store) (ρ : Env) : Env := ρ.map fun o => o.bind (frzV n0 C)
def frzF (n0 : Nat) (C : Store) : Fl → Option Fl
  | .nx ρ => some (.nx (frzE n0 C ρ))
  | .bk ρ => some (.bk (frzE n0 C ρ))
  | .ct ρ => some (.ct (frzE n0 C ρ))
  | .rt v => (frzV n0 C v).map .rt
def sFrz (m : SS) : SS := fun ρ C => bnd (m ρ C) fun o C1 => bn1 (frzF C.length C1 o) fun o' => some (o', C1.take C.length)
section
variable {φ φ' : List Addr} {M M' : Addr → Prop} {H H' : Hp} {C C1 : Store}
theorem frz_v (hs : StR G φ M H C) (g : Grow φ M H φ' M' H') (s1 : StR G φ' M' H' C1) {v : V} {x y : Sv} (r : SvR G φ' M' H' v x) (h : frzV C.length C1 x = some y) : SvR G φ M H' v y := by
  cases x with
  | dat d => cases h; exact Rp.cut g r
  | cel n =>
    obtain ⟨a, ha, rfl⟩ := r
    obtain ⟨ps, ep, hps⟩ := id g.pre
    have h : (if n < C.length then some (Sv.cel n) else match C1[n]? with | some d => if nolk d = true then some (Sv.dat d) else none | none => none) = some y := h
    by_cases hn : n < C.length
    · rw [if_pos hn] at h
      cases h
      refine ⟨a, ?_, rfl⟩
      rw [ep, List.getElem?_append_left (by rw [hs.len]; exact hn)] at ha
      exact ha
    · rw [if_neg hn] at h
      cases hc : C1[n]? with
      | none => rw [hc] at h; cases h
      | some d =>
        rw [hc] at h
        have h : (if nolk d = true then some (Sv.dat d) else none) = some y := h
        by_cases nl : nolk d = true
        · rw [if_pos nl] at h
          cases h
          have c := s1.cel n d a hc ha
          have hnew : a ∈ ps := by
            rw [ep, List.getElem?_append_right (by rw [hs.len]; omega)] at ha
            exact List.mem_of_getElem? ha
          have nM : ¬ M a := fun z => hs.live a z (hps a hnew)
          have q := (c.keeps (M' := M) ⟨fun a n _ z => n (g.up a z), fun _ _ _ e => e⟩ fun _ e => e).rp nM
          rw [unlk_of fun x z => by subst z; cases nl] at q
          exact q
        · rw [if_neg nl] at h; cases h
theorem frz_g (hs : StR G φ M H C) (g : Grow φ M H φ' M' H') : Grow φ M H φ M H' := g.ext.grow
theorem frz_e (hs : StR G φ M H C) (g : Grow φ M H φ' M' H') (s1 : StR G φ' M' H' C1) {σ : L2.St} {ρ : Env} (r : EnvR G φ' M' H' σ ρ) : EnvR G φ M H' σ (frzE C.length C1 ρ) := by
  refine ⟨by unfold frzE; rw [List.length_map]; exact r.len, fun i s e => ?_⟩
  unfold frzE at e
  rw [List.getElem?_map] at e
  cases ho : ρ[i]? with
  | none => rw [ho] at e; cases e
  | some o =>
    rw [ho] at e
    cases o with
    | none => cases e
    | some x =>
      have e : some ((frzV C.length C1 x)) = some (some s) := e
      obtain ⟨v, h1, h2⟩ := r.at_ i x ho
      exact ⟨v, h1, frz_v hs g s1 h2 (Option.some.inj e)⟩
end
theorem sim_sfrz {t : TS} {f : SS} (h : SimS G t f) : SimS G t (sFrz f) := by
  intro φ M H C σ ρ o C' hE hs e0 Dd hD
  obtain ⟨o1, C1, h1, e1⟩ := bnd_i e0
  obtain ⟨o2, h2, e2⟩ := bn1_i e1
  cases e2
  refine h φ M H C σ ρ o1 C1 hE hs h1 _ ?_
  cases o1 with
  | nx ρ1 => cases h2; exact fun φ' M' σ' H' g hE' s' => hD φ M σ' H' (frz_g hs g) (frz_e hs g s' hE') (s'.cut g hs.sub hs.len.symm)
  | bk ρ1 => cases h2; exact fun φ' M' σ' H' g hE' s' => hD φ M σ' H' (frz_g hs g) (frz_e hs g s' hE') (s'.cut g hs.sub hs.len.symm)
  | ct ρ1 => cases h2; exact fun φ' M' σ' H' g hE' s' => hD φ M σ' H' (frz_g hs g) (frz_e hs g s' hE') (s'.cut g hs.sub hs.len.symm)
  | rt v =>
    have h2' : (frzV C.length C1 v).map Fl.rt = some o := h2
    cases hv : frzV C.length C1 v with
    | none => rw [hv] at h2'; cases h2'
    | some y =>
      rw [hv] at h2'
      cases h2'
      exact fun φ' M' u H' g s' r' => hD φ M u H' (frz_g hs g) (s'.cut g hs.sub hs.len.symm) (frz_v hs g s' r' hv)
/-- the first two, three, four of a block -/
theorem sim_frz2 {a b c : TS} {f g : SS} (h1 : SimS G (tSeq a b) f) (h2 : SimS G c g) : SimS G (tSeq a (tSeq b c)) (sSeq (sFrz f) g) := sim_sseq (t := tSeq a b) (sim_sfrz h1) h2
theorem sim_frz3 {a b c d : TS} {f g : SS} (h1 : SimS G (tSeq a (tSeq b c)) f) (h2 : SimS G d g) : SimS G (tSeq a (tSeq b (tSeq c d))) (sSeq (sFrz f) g) := sim_sseq (t := tSeq a (tSeq b c)) (sim_sfrz h1) h2
theorem sim_frz4 {a b c d k : TS} {f g : SS} (h1 : SimS G (tSeq a (tSeq b (tSeq c d))) f) (h2 : SimS G k g) : SimS G (tSeq a (tSeq b (tSeq c (tSeq d k)))) (sSeq (sFrz f) g) := sim_sseq (t := tSeq a (tSeq b (tSeq c d))) (sim_sfrz h1) h2
/-! ### calls with names -/
def pick {α : Type} (is : List Nat) (xs : List α) : List α := is.filterMap fun i => xs[i]?
def gP {α : Type} (p q : Nat) (is : List Nat) (us ws : List α) : List α := if us.length = p ∧ ws.length = q then pick is (us ++ ws) else []
theorem pick_svs {φ : List Addr} {M : Addr → Prop} {H : Hp} {vs : List V} {ss : List Sv} (r : SvsR G φ M H vs ss) : ∀ is : List Nat, SvsR G φ M H (pick is vs) (pick is ss)
  | [] => .nil
  | i :: is => by
    have ih := pick_svs r is
    unfold pick at ih ⊢
    have hl := r.length
    cases h : ss[i]? with
    | none =>
      have h' : vs[i]? = none := by rw [List.getElem?_eq_none_iff] at h ⊢; omega
      rw [List.filterMap_cons_none h, List.filterMap_cons_none h']
      exact ih
    | some s =>
      obtain ⟨v, h1, h2⟩ := r.get h
      rw [List.filterMap_cons_some h, List.filterMap_cons_some h1]
      exact .cons h2 ih
theorem svs_app {φ : List Addr} {M : Addr → Prop} {H : Hp} : ∀ {vs zs : List V} {ss ks : List Sv}, SvsR G φ M H vs ss → SvsR G φ M H zs ks → SvsR G φ M H (vs ++ zs) (ss ++ ks)
  | _, _, _, _, .nil, q => q
  | _, _, _, _, .cons r t, q => .cons r (svs_app t q)
theorem pick_vals {vs : List V} {us : List Value} (r : Vals vs us) : ∀ is : List Nat, Vals (pick is vs) (pick is us)
  | [] => .nil
  | i :: is => by
    have ih := pick_vals r is
    unfold pick at ih ⊢
    have hl := Vals.length r
    cases h : vs[i]? with
    | none =>
      have h' : us[i]? = none := by rw [List.getElem?_eq_none_iff] at h ⊢; omega
      rw [List.filterMap_cons_none h, List.filterMap_cons_none h']
      exact ih
    | some s =>
      obtain ⟨v, h1, h2⟩ := Vals.get r h
      rw [List.filterMap_cons_some h, List.filterMap_cons_some h1]
      exact .cons h2 ih
theorem vals_app : ∀ {vs zs : List V} {us ws : List Value}, Vals vs us → Vals zs ws → Vals (vs ++ zs) (us ++ ws)
  | _, _, _, _, .nil, q => q
  | _, _, _, _, .cons r t, q => .cons r (vals_app t q)
theorem kb_mk {K : PySem.W.Frag} {fd : FuncData} {ps ks : List Str} {p q : Nat} {is : List Nat} (hp : ps ≠ [])
    (h : ∀ (s : Shared) (us ws : List Value), us.length = p → ws.length = q → BindsTo s fd ⟨us, ks.zip ws⟩ (ps.zip (pick is (us ++ ws)))) : KBinds K fd ps ks (gP p q is) (gP p q is) := by
  refine ⟨fun s us ws _ hl => ?_, fun {vs us zs ws} r1 r2 => ?_⟩
  · unfold gP at hl ⊢
    by_cases c : us.length = p ∧ ws.length = q
    · rw [if_pos c]; exact h s us ws c.1 c.2
    · rw [if_neg c] at hl
      exact absurd (List.length_eq_zero_iff.mp hl.symm) hp
  · have l1 := Vals.length r1
    have l2 := Vals.length r2
    unfold gP
    by_cases c : us.length = p ∧ ws.length = q
    · rw [if_pos c, if_pos (by omega)]
      exact pick_vals (vals_app r1 r2) is
    · rw [if_neg c, if_neg (by omega)]
      exact .nil
/-- a def that is called with names -/
structure Ck (P : Program) (w : World) (K : PySem.W.Frag) (mg : Str → Option Value) (base : Heap) (k : Nat) (x : Str) (ps ks : List Str) (p q : Nat) (is : List Nat) (sp : Sp) : Prop where
  ex : ∃ (f : Addr) (fd : FuncData), FnOk P w K mg base CX0 k f fd ps sp ∧ mg x = some (.ref f) ∧ PySem.W.keepIn K (.ref f) = true ∧ KBinds K fd ps ks (gP p q is) (gP p q is)
section
variable {X : Cx} {k j : Nat} {x : Str} {ps ks : List Str} {p q : Nat} {is : List Nat} {sp : Sp} {np pos : Pos} {e : Expr} {es : List Expr} {kws : List Keyword} {t tk : TA}
theorem pe_ck (c : Ck X.prog X.w X.K X.mg X.base k x ps ks p q is sp) (hr : Room j X.A) (hk : k ≤ j) (hg : Gl X x) (ha : PA X (e :: es) t) (hkw : PK X kws tk)
    (hall : (backToKw pos (keywordEach kws X.env)).all (·.1.isSome) = true := by rfl) (hks : (backToKw pos (keywordEach kws X.env)).filterMap (·.1) = ks := by rfl)
    (hdb : (x == ("__debug__" : Str)) = false := by decide) (he : starEach (e :: es) X.env = (false, eval e X.env) :: starEach es X.env := by rfl)
    (hpl : ((backTo pos (starEach (e :: es) X.env)).any (·.1) || (backToKw pos (keywordEach kws X.env)).any (·.1.isNone)) = false := by rfl) :
    PE X (.Call (.Name x np) (e :: es) kws pos) (tCallK sp (gP p q is) E0 t tk) := by
  obtain ⟨f, fd, F, hm, kp, b⟩ := c.ex
  exact pe_callK F (hr.mono hk) hg hm kp b pass0 ha hkw hall hks hdb he hpl
theorem pe_ck0 (c : Ck X.prog X.w X.K X.mg X.base k x ps ks p q is sp) (hr : Room j X.A) (hk : k ≤ j) (hg : Gl X x) (hkw : PK X kws tk)
    (hall : (backToKw pos (keywordEach kws X.env)).all (·.1.isSome) = true := by rfl) (hks : (backToKw pos (keywordEach kws X.env)).filterMap (·.1) = ks := by rfl)
    (hdb : (x == ("__debug__" : Str)) = false := by decide) (hpl : ((backTo pos (starEach [] X.env)).any (·.1) || (backToKw pos (keywordEach kws X.env)).any (·.1.isNone)) = false := by rfl) :
    PE X (.Call (.Name x np) [] kws pos) (tCallK sp (gP p q is) E0 tNil tk) := by
  obtain ⟨f, fd, F, hm, kp, b⟩ := c.ex
  refine ⟨fun pins s σ H Q I h => ?_⟩
  refine wpAny_Call_Name_kw (ld_glob I hg hm ?_ hdb)
  refine PySem.W.callWith_KW0 (h₀ := X.base) I.ok.mod.kin kp hall (thn (hkw.run pos pins s σ H _ I h) fun ws s2 ⟨zs, H2, I2, rz, q2⟩ => ⟨I2.kIn, ?_⟩) hpl
  rw [hks]
  exact run_fnk (us := []) F (hr.mono hk) b pass0 I2 .nil rz q2
end
def eCallK (np p q : Nat) (is : List Nat) (F : FE) (a b : SA) : SE := fun ρ C => bnd (a ρ C) fun ss C1 => bnd (b ρ C1) fun kk C2 => gd (ss.length = p ∧ kk.length = q ∧ (pick is (ss ++ kk)).length = np) (F (pick is (ss ++ kk)) C2)
def nCallK (np p q : Nat) (is : List Nat) (F : FN) (a b : SA) : SN := fun ρ C => bnd (a ρ C) fun ss C1 => bnd (b ρ C1) fun kk C2 => gd (ss.length = p ∧ kk.length = q ∧ (pick is (ss ++ kk)).length = np) (F (pick is (ss ++ kk)) C2)
theorem sim_callK {np p q : Nat} {is : List Nat} {F : FE} {E : XK} {ta tb : TA} {a b : SA} (ha : SimA G ta a) (hb : SimA G tb b) : SimE G (tCallK (spE G np F) (gP p q is) E ta tb) (eCallK np p q is F a b) := by
  intro φ M H C σ ρ s C' hE hs e0 Q hQ
  obtain ⟨ss, C1, h1, e1⟩ := bnd_i e0
  obtain ⟨kk, C2, h2, e2⟩ := bnd_i e1
  obtain ⟨⟨l1, l2, l3⟩, e3⟩ := gd_i e2
  refine ha φ M H C σ ρ ss C1 hE hs h1 _ fun vs H1 x1 s1 r1 => ?_
  refine hb φ M H1 C1 σ ρ kk C2 (hE.ext x1 hs.sub) s1 h2 _ fun zs H2 x2 s2 r2 => ?_
  have r3 := pick_svs (svs_app (r1.grow x2.grow s1.sub) r2) is
  have eg : gP p q is vs zs = pick is (vs ++ zs) := if_pos ⟨r1.length.trans l1, r2.length.trans l2⟩
  refine ⟨φ, M, C2, _, s, C', s2, by rw [eg]; exact r3, by rw [eg, r3.length, l3], e3, fun v H' x3 s3 rr => hQ v H' ((x1.trans x2).trans x3) s3 rr⟩
theorem sim_ncallK {np p q : Nat} {is : List Nat} {F : FN} {E : XK} {ta tb : TA} {a b : SA} (ha : SimA G ta a) (hb : SimA G tb b) : SimN G (tCallK (spN G np F) (gP p q is) E ta tb) (nCallK np p q is F a b) := by
  intro φ M H C σ ρ s C' hE hs e0 Q hQ
  obtain ⟨ss, C1, h1, e1⟩ := bnd_i e0
  obtain ⟨kk, C2, h2, e2⟩ := bnd_i e1
  obtain ⟨⟨l1, l2, l3⟩, e3⟩ := gd_i e2
  refine ha φ M H C σ ρ ss C1 hE hs h1 _ fun vs H1 x1 s1 r1 => ?_
  refine hb φ M H1 C1 σ ρ kk C2 (hE.ext x1 hs.sub) s1 h2 _ fun zs H2 x2 s2 r2 => ?_
  have r3 := pick_svs (svs_app (r1.grow x2.grow s1.sub) r2) is
  have eg : gP p q is vs zs = pick is (vs ++ zs) := if_pos ⟨r1.length.trans l1, r2.length.trans l2⟩
  refine ⟨φ, M, C2, _, s, C', s2, by rw [eg]; exact r3, by rw [eg, r3.length, l3], e3, fun p H' hp x3 s3 rr => hQ p H' ((x1.trans x2).none_ hp) ((x1.trans x2).trans x3) s3 rr⟩
end
end DX

/-! DLc2: comprehensions with two loops. -/
namespace DX
open PySem PySem.Spec L2
def compL2 (cels : List (Nat × D)) (b : D → Env → Option Env) (tt : ST) (si1 : SI) (b1 : D → Env → Option Env) (tt1 : ST) (te : SE) (vs1 : List Nat) (ρ : Env) : List D → Store → Option (List D × Store)
  | [], C => gd (stays C cels = true) (some ([], C))
  | d :: ds, C => gd (stays C cels = true) (bn1 (b d ρ) fun ρ1 => bnd (tt ρ1 C) fun k C1 =>
      if k = true then bnd (si1 ρ1 C1) fun src C2 => bnd (compL src.cels b1 tt1 te (wipeE ρ1 vs1) src.items C2) fun zs C3 => bnd (compL2 cels b tt si1 b1 tt1 te vs1 ρ ds C3) fun ys C4 => some (zs ++ ys, C4)
      else compL2 cels b tt si1 b1 tt1 te vs1 ρ ds C1)
def nLc2 (si : SI) (b : D → Env → Option Env) (tt : ST) (si1 : SI) (b1 : D → Env → Option Env) (tt1 : ST) (te : SE) (vs vs1 : List Nat) : SN := fun ρ C =>
  bnd (si ρ C) fun src C1 => bnd (compL2 src.cels b tt si1 b1 tt1 te vs1 (wipeE ρ vs) src.items C1) fun zs C2 => gd (zs.length ≤ sizeLine) (some (.lst zs, C2))
section
variable {G : Gm}
theorem turns {J : It} {n : Nat} {H0 : Hp} {Qd : Hp → Prop} {body : (Nx : Hp → Prop) → V → Hp → Prop} (Pv : Nat → Hp → Prop) (h0 : Pv 0 H0)
    (hs : ∀ i H, i < n → Pv i H → J.go i H ∧ ∀ x H', J.yld i H x H' → body (Pv (i + 1)) x H') (hd : ∀ H, Pv n H → J.stop n H ∧ Qd H) :
    ∃ W : Nat → Nat → Hp → Prop, (∃ m, W 0 m H0) ∧ ∀ i m H, W i m H → (J.stop i H ∧ Qd H) ∨ (J.go i H ∧ ∃ Nx : Hp → Prop, (∀ H', Nx H' → ∃ m', m' < m ∧ W (i + 1) m' H') ∧ ∀ x H', J.yld i H x H' → body Nx x H') := by
  refine ⟨fun i m H => m = n - i ∧ i ≤ n ∧ Pv i H, ⟨n, by simp, Nat.zero_le _, h0⟩, fun i m H ⟨hm, hi, p⟩ => ?_⟩
  subst hm
  by_cases hlt : i < n
  · obtain ⟨a, b⟩ := hs i H hlt p
    exact .inr ⟨a, Pv (i + 1), fun H' p' => ⟨n - (i + 1), by omega, rfl, hlt, p'⟩, b⟩
  · have e : i = n := by omega
    subst e
    exact .inl (hd H p)
variable {φ : List Addr} {M : Addr → Prop} {H0 : Hp} {C0 C' : Store} {σ : L2.St} {ρ : Env}
theorem Ext.more {Dn : Addr} {H H' : Hp} (x : Ext φ H H') : Ext (Dn :: φ) H H' := ⟨fun a u e n => x.keep a u e fun z => n (List.mem_cons_of_mem _ z), x.live⟩
theorem ext_push {Dn : Addr} {H : Hp} {u : HO} : Ext (Dn :: φ) H (upd H Dn u) := Ext.wrote List.mem_cons_self
theorem in_at {Dn : Addr} {J : It} {src : Src} {g : TG} {b : D → Env → Option Env} {vs ws : List Nat} {tt : TT} {ft : ST} {te : TE} {fe : SE} {acc0V : List V} {acc0 zs : List D} {Nx : Hp → Prop}
    (hE : EnvR G φ M H0 σ ρ) (hs : StR G φ M H0 C0) (itr : ItR G φ M H0 J src) (hM : M Dn) (hDφ : Dn ∉ φ) (h0 : H0 Dn = some (.lst acc0V)) (r0 : RpL G M H0 acc0V acc0)
    (hG : SimG G g b ws) (hw : ∀ i ∈ ws, i ∈ vs) (hT : SimT G tt ft) (hE' : SimE G te fe) (hc0 : compL src.cels b ft fe (wipeE ρ vs) src.items C0 = some (zs, C')) (hlen : (acc0 ++ zs).length ≤ sizeLine)
    (hN : ∀ H' accV, Ext (Dn :: φ) H0 H' → StR G φ M H' C' → H' Dn = some (.lst accV) → RpL G M H' accV (acc0 ++ zs) → Nx H') :
    ∃ W : Nat → Nat → Hp → Prop, (∃ m, W 0 m H0) ∧ ∀ i m H, W i m H → (J.stop i H ∧ Nx H) ∨ (J.go i H ∧ ∃ N1 : Hp → Prop, (∀ H', N1 H' → ∃ m', m' < m ∧ W (i + 1) m' H') ∧ ∀ x H', J.yld i H x H' → g x (L2.wipe σ vs) H' fun σ2 H2 => L2.wipe σ2 vs = L2.wipe σ vs ∧ tt σ2 H2 fun k H3 =>
      if k = true then te σ2 H3 fun y H4 => ∃ acc, H4 Dn = some (.lst acc) ∧ acc.length < sizeLine ∧ N1 (upd H4 Dn (.lst (acc ++ [y]))) else N1 H3) := by
  have sub' : ∀ a ∈ Dn :: φ, M a := fun a h => by
    rcases List.mem_cons.mp h with z | z
    · rw [z]; exact hM
    · exact hs.sub a z
  refine turns (n := src.items.length) (body := fun N1 x H' => g x (L2.wipe σ vs) H' fun σ2 H2 => L2.wipe σ2 vs = L2.wipe σ vs ∧ tt σ2 H2 fun k H3 =>
      if k = true then te σ2 H3 fun y H4 => ∃ acc, H4 Dn = some (.lst acc) ∧ acc.length < sizeLine ∧ N1 (upd H4 Dn (.lst (acc ++ [y]))) else N1 H3)
    (fun i H' => ∃ Ci acc accV zs', StR G φ M H' Ci ∧ Ext (Dn :: φ) H0 H' ∧ H' Dn = some (.lst accV) ∧ RpL G M H' accV acc ∧
      compL src.cels b ft fe (wipeE ρ vs) (src.items.drop i) Ci = some (zs', C') ∧ acc0 ++ zs = acc ++ zs') ⟨C0, acc0, acc0V, zs, hs, Ext.refl, h0, r0, by simpa using hc0, rfl⟩ (fun i H' hlt ⟨Ci, acc, accV, zs', s', x', hDv, rv, hc, hz⟩ => ?_) (fun H' ⟨Ci, acc, accV, zs', s', x', hDv, rv, hc, hz⟩ => ?_)
  · have hget : src.items[i]? = some src.items[i] := List.getElem?_eq_getElem hlt
    have hdrop : src.items.drop i = src.items[i] :: src.items.drop (i + 1) := List.drop_eq_getElem_cons hlt
    rw [hdrop] at hc
    obtain ⟨hst, hc1⟩ := gd_i hc
    obtain ⟨jstop, jgo⟩ := itr φ M H' Ci ⟨x'.keeps sub', fun _ _ e => e⟩ s' hst
    obtain ⟨ρ1, hb, hc2⟩ := bn1_i hc1
    obtain ⟨k, Cb, ht, hc3⟩ := bnd_i hc2
    obtain ⟨go, yl⟩ := jgo i _ hget
    refine ⟨go, fun x H3 y => ?_⟩
    obtain ⟨hst3, rx⟩ := yl x H3 y
    obtain ⟨x3, s3⟩ := Rp.step s' hst3
    have g3 : Ext (Dn :: φ) H0 H3 := x'.trans x3.more
    have hD3 : H3 Dn = some (.lst accV) := x3.keep _ _ hDv hDφ
    have rv3 : RpL G M H3 accV acc := rv.keeps (x3.keeps s'.sub)
    have hE3 : EnvR G φ M H3 (L2.wipe σ vs) (wipeE ρ vs) := EnvR.wipe ⟨hE.len, fun i s e => let ⟨v, q1, q2⟩ := hE.at_ i s e; ⟨v, q1, q2.keeps (g3.keeps sub') fun _ _ _ e => e⟩⟩ vs
    refine hG φ _ H3 Ci _ _ x _ ρ1 hE3 s3 rx hb _ fun σ2 hE2 l2 k2 => ⟨wipe_eq l2 fun j hj => k2 j fun z => hj (hw j z), ?_⟩
    refine hT φ _ H3 Ci σ2 ρ1 k Cb hE2 s3 ht _ fun H4 x4 s4 => ?_
    have g4 := g3.trans x4.more
    have hD4 := x4.keep _ _ hD3 hDφ
    have rv4 := rv3.keeps (x4.keeps s3.sub)
    cases k with
    | false =>
      rw [if_neg Bool.false_ne_true] at hc3 ⊢
      exact ⟨Cb, acc, accV, zs', s4, g4, hD4, rv4, hc3, hz⟩
    | true =>
      rw [if_pos rfl] at hc3 ⊢
      obtain ⟨v, Cv, hv, hc4⟩ := bnd_i hc3
      obtain ⟨z, hz1, hc5⟩ := bn1_i hc4
      obtain ⟨zs2, C3, hc6, hc7⟩ := bnd_i hc5
      cases hc7
      cases v with
      | cel n => cases hz1
      | dat z0 =>
        cases hz1
        refine hE' φ _ H4 Cb σ2 ρ1 _ Cv (hE2.ext x4 s3.sub) s4 hv _ fun y H5 x5 s5 r5 => ?_
        have g5 := g4.trans x5.more
        have hD5 := x5.keep _ _ hD4 hDφ
        have rv5 := rv4.keeps (x5.keeps s4.sub)
        have kw : Keeps M M H5 (upd H5 Dn (.lst (accV ++ [y]))) := keepsW hM
        have hl := rv5.length
        rw [hz] at hlen
        simp only [List.length_append, List.length_cons] at hlen
        exact ⟨accV, hD5, by omega, Cv, acc ++ [z], accV ++ [y], zs2, s5.wroteM hM hDφ, g5.trans ext_push, upd_same, (rv5.append (.one r5)).keeps kw, hc6, by rw [hz, List.append_assoc]; rfl⟩
  · rw [List.drop_length] at hc
    obtain ⟨hst, hc1⟩ := gd_i hc
    cases hc1
    rw [List.append_nil] at hz
    exact ⟨(itr φ M H' _ ⟨x'.keeps sub', fun _ _ e => e⟩ s' hst).1, hN H' accV x' s' hDv (by rw [hz]; exact rv)⟩
theorem sim_nlc2 {wi wi1 : TI} {g g1 : TG} {tt tt1 : TT} {te : TE} {vs vs1 ws ws1 : List Nat} {si si1 : SI} {b b1 : D → Env → Option Env} {ft ft1 : ST} {fe : SE} (hI : SimI G wi si) (hG : SimG G g b ws) (hw : ∀ i ∈ ws, i ∈ vs) (hT : SimT G tt ft)
    (hI1 : SimI G wi1 si1) (hG1 : SimG G g1 b1 ws1) (hw1 : ∀ i ∈ ws1, i ∈ vs1) (hT1 : SimT G tt1 ft1) (hE' : SimE G te fe) : SimN G (tLc2 wi g tt wi1 g1 tt1 te vs vs1) (nLc2 si b ft si1 b1 ft1 fe vs vs1) := by
  intro φ M H C σ ρ d C' hE hs e0 Q hQ
  obtain ⟨src, C1, h1, e1⟩ := bnd_i e0
  obtain ⟨zs, C2, h2, e2⟩ := bnd_i e1
  obtain ⟨hlen, e3⟩ := gd_i e2
  cases e3
  refine hI φ M H C σ ρ src C1 hE hs h1 _ fun J H1 x1 s1 itr => fun Dn hD => ?_
  have hDφ : Dn ∉ φ := fun z => s1.live _ (s1.sub _ z) hD
  have k1 := keepsM (M := M) (o := .lst []) hD
  have hE1 : EnvR G φ (fun a => M a ∨ a = Dn) (upd H1 Dn (.lst [])) σ ρ := ⟨hE.len, fun i s e => let ⟨v, q1, q2⟩ := (hE.ext x1 hs.sub).at_ i s e; ⟨v, q1, q2.keeps k1 fun _ _ _ e => e⟩⟩
  have sub' : ∀ a ∈ Dn :: φ, (M a ∨ a = Dn) := fun a h => by
    rcases List.mem_cons.mp h with z | z
    · exact .inr z
    · exact .inl (hs.sub a z)
  have st1 : ∀ H', Ext (Dn :: φ) (upd H1 Dn (.lst [])) H' → Stp φ M H1 φ (fun a => M a ∨ a = Dn) H' := fun H' x => by
    refine ⟨⟨fun a n l z => ?_, fun a u n e => ?_⟩, fun _ _ e => e⟩
    · rcases z with z | z
      · exact n z
      · rw [z] at l; exact l hD
    · refine x.keep a u (by rw [upd_ne (ne_of_none e hD)]; exact e) fun z => ?_
      rcases List.mem_cons.mp z with z | z
      · exact ne_of_none e hD z
      · exact n (s1.sub a z)
  refine turns (n := src.items.length) (body := fun Nx x H' => g x (L2.wipe σ vs) H' fun σ2 H2 => L2.wipe σ2 vs = L2.wipe σ vs ∧ tt σ2 H2 fun b H3 =>
    if b = true then wi1 σ2 H3 fun J1 H4 => ∃ W1 : Nat → Nat → Hp → Prop, (∃ m, W1 0 m H4) ∧ ∀ j k H, W1 j k H →
      (J1.stop j H ∧ Nx H) ∨ (J1.go j H ∧ ∃ Nx1 : Hp → Prop, (∀ H', Nx1 H' → ∃ k', k' < k ∧ W1 (j + 1) k' H') ∧ ∀ x H', J1.yld j H x H' → g1 x (L2.wipe σ2 vs1) H' fun σ3 H5 => L2.wipe σ3 vs1 = L2.wipe σ2 vs1 ∧ tt1 σ3 H5 fun b H6 =>
        if b = true then te σ3 H6 fun y H7 => ∃ acc, H7 Dn = some (.lst acc) ∧ acc.length < sizeLine ∧ Nx1 (upd H7 Dn (.lst (acc ++ [y]))) else Nx1 H6)
    else Nx H3)
    (fun i H' => ∃ Ci acc accV zs', StR G φ (fun a => M a ∨ a = Dn) H' Ci ∧ Ext (Dn :: φ) (upd H1 Dn (.lst [])) H' ∧ H' Dn = some (.lst accV) ∧ RpL G (fun a => M a ∨ a = Dn) H' accV acc ∧
      compL2 src.cels b ft si1 b1 ft1 fe vs1 (wipeE ρ vs) (src.items.drop i) Ci = some (zs', C') ∧ zs = acc ++ zs') ⟨C1, [], [], zs, s1.laidM hD, Ext.refl, upd_same, .nil, by simpa using h2, rfl⟩ (fun i H' hlt ⟨Ci, acc, accV, zs', s', x', hDv, rv, hc, hz⟩ => ?_) (fun H' ⟨Ci, acc, accV, zs', s', x', hDv, rv, hc, hz⟩ => ?_)
  · have hget : src.items[i]? = some src.items[i] := List.getElem?_eq_getElem hlt
    have hdrop : src.items.drop i = src.items[i] :: src.items.drop (i + 1) := List.drop_eq_getElem_cons hlt
    rw [hdrop] at hc
    obtain ⟨hst, hc1⟩ := gd_i hc
    obtain ⟨jstop, jgo⟩ := itr φ _ H' Ci (st1 H' x') s' hst
    obtain ⟨ρ1, hb, hc2⟩ := bn1_i hc1
    obtain ⟨k, Cb, ht, hc3⟩ := bnd_i hc2
    obtain ⟨go, yl⟩ := jgo i _ hget
    refine ⟨go, fun x H3 y => ?_⟩
    obtain ⟨hst3, rx⟩ := yl x H3 y
    obtain ⟨x3, s3⟩ := Rp.step s' hst3
    have g3 := x'.trans x3.more
    have hD3 : H3 Dn = some (.lst accV) := x3.keep _ _ hDv hDφ
    have rv3 : RpL G (fun a => M a ∨ a = Dn) H3 accV acc := rv.keeps (x3.keeps s'.sub)
    have hE3 : EnvR G φ (fun a => M a ∨ a = Dn) H3 (L2.wipe σ vs) (wipeE ρ vs) := EnvR.wipe ⟨hE1.len, fun i s e => let ⟨v, q1, q2⟩ := hE1.at_ i s e; ⟨v, q1, q2.keeps (g3.keeps sub') fun _ _ _ e => e⟩⟩ vs
    refine hG φ _ H3 Ci _ _ x _ ρ1 hE3 s3 rx hb _ fun σ2 hE2 l2 k2 => ⟨wipe_eq l2 fun j hj => k2 j fun z => hj (hw j z), ?_⟩
    refine hT φ _ H3 Ci σ2 ρ1 k Cb hE2 s3 ht _ fun H4 x4 s4 => ?_
    have g4 := g3.trans x4.more
    have hD4 := x4.keep _ _ hD3 hDφ
    have rv4 := rv3.keeps (x4.keeps s3.sub)
    cases k with
    | false =>
      rw [if_neg Bool.false_ne_true] at hc3 ⊢
      exact ⟨Cb, acc, accV, zs', s4, g4, hD4, rv4, hc3, hz⟩
    | true =>
      rw [if_pos rfl] at hc3 ⊢
      obtain ⟨src1, Cs, hi1, hc4⟩ := bnd_i hc3
      obtain ⟨zs1, Cz, hz1, hc5⟩ := bnd_i hc4
      obtain ⟨ys, Cy, hy1, hc6⟩ := bnd_i hc5
      cases hc6
      have hE4 := hE2.ext x4 s3.sub
      refine hI1 φ _ H4 Cb σ2 ρ1 src1 Cs hE4 s4 hi1 _ fun J1 H5 x5 s5 itr1 => ?_
      have g5 := g4.trans x5.more
      have hD5 := x5.keep _ _ hD4 hDφ
      have rv5 := rv4.keeps (x5.keeps s4.sub)
      have hl2 : (acc ++ zs1).length ≤ sizeLine := by
        rw [hz] at hlen
        simp only [List.length_append] at hlen ⊢
        omega
      refine in_at (Dn := Dn) (hE4.ext x5 s4.sub) s5 itr1 (.inr rfl) hDφ hD5 rv5 hG1 hw1 hT1 hE' hz1 hl2 (fun H6 accV2 x6 s6 hD6 rv6 => ?_)
      exact ⟨Cz, acc ++ zs1, accV2, ys, s6, g5.trans x6, hD6, rv6, hy1, by rw [hz, List.append_assoc]⟩
  · rw [List.drop_length] at hc
    obtain ⟨hst, hc1⟩ := gd_i hc
    cases hc1
    refine ⟨(itr φ _ H' _ (st1 H' x') s' hst).1, ?_⟩
    have xx : Ext φ H H' := x1.trans ⟨fun a u e n => x'.keep a u (by rw [upd_ne (ne_of_none e hD)]; exact e) (fun z => by
      rcases List.mem_cons.mp z with z | z
      · exact ne_of_none e hD z
      · exact n z), fun a h => x'.live a (by
      by_cases z : a = Dn
      · rw [z, upd_same]; simp
      · rw [upd_ne z]; exact h)⟩
    rw [List.append_nil] at hz
    subst hz
    exact hQ Dn H' (x1.none_ hD) xx s' ⟨accV, hDv, by rw [rv.length]; exact hlen, rv⟩
end
end DX

/-! DPair: dict(pairs). -/
namespace DX
open PySem PySem.Spec L2
def pairsD : List D → Option (List (Key × D))
  | [] => some []
  | .tup [k, v] :: r => bn1 (dKey k) fun k => bn1 (pairsD r) fun ps => some ((k, v) :: ps)
  | _ :: _ => none
def dDictP : List D → Option D
  | [.lst xs] => bn1 (pairsD xs) fun ps => some (.dK (mergeD [] ps))
  | _ => none
def rDcP (K : PySem.W.Frag) : List V → Hp → VK → Prop := fun xs H Q => ∃ (a : Addr) (ps : List Addr) (kvs : List (Key × V)), xs = [.ref a] ∧ SqL K H a (ps.map V.ref) ∧ Paired (fun p kv => SqT K H p [kV kv.1, kv.2]) ps kvs ∧
    ∀ p, H p = none → Q (.ref p) (upd H p (.dK (mergeK [] kvs)))
theorem k_dictP {X : Cx} (K : PySem.W.Frag) (hK : X.K = K) (hc : X.calm = true) : CallR X (.type "dict") (rDcP K) := by subst hK; exact call_dictP hc
section
variable {G : Gm} {M : Addr → Prop} {H : Hp}
theorem pairs_rel : ∀ {vs : List V} {xs : List D} {ps : List (Key × D)}, RpL G M H vs xs → pairsD xs = some ps →
    ∃ (as : List Addr) (kvs : List (Key × V)), vs = as.map V.ref ∧ Paired (fun p (kv : Key × V) => SqT G.K H p [kV kv.1, kv.2]) as kvs ∧ kvs.map (·.1) = ps.map (·.1) ∧ RpL G M H (kvs.map (·.2)) (ps.map (·.2))
  | _, [], _, .nil, h => by cases h; exact ⟨[], [], rfl, .nil, rfl, .nil⟩
  | _, x :: xs, ps, .cons r t, h => by
    cases x with
    | tup ys =>
      match ys, r, h with
      | [k, v], r, h =>
        obtain ⟨k', h1, h2⟩ := bn1_i (show bn1 (dKey k) (fun k => bn1 (pairsD xs) fun ps => some ((k, v) :: ps)) = some ps from h)
        obtain ⟨ps', h3, h4⟩ := bn1_i h2
        cases h4
        obtain ⟨as, kvs, e1, e2, e3, e4⟩ := pairs_rel t h3
        cases r with
        | @tup a ws _ ta l rl =>
          cases rl with
          | @cons kk _ _ _ rk rl2 =>
            cases rl2 with
            | @cons vv _ _ _ rv rl3 =>
              cases rl3
              have ek := keyV rk h1
              subst ek
              exact ⟨a :: as, (k', vv) :: kvs, by rw [e1]; rfl, .cons ta.sq e2, by simp [e3], .cons rv e4⟩
      | [], _, h => cases h
      | [_], _, h => cases h
      | _ :: _ :: _ :: _, _, h => cases h
    | _ => cases h
theorem sim_ndictP {ta : TA} {a : SA} (ha : SimA G ta a) : SimN G (tCB (rDcP G.K) ta) (nB dDictP a) := by
  intro φ M H C σ ρ d C' hE hs e0 Q hQ
  obtain ⟨ss, C1, h1, e1⟩ := bnd_i e0
  obtain ⟨ds, h2, e2⟩ := bn1_i e1
  obtain ⟨z, h3, e3⟩ := bn1_i e2
  cases e3
  refine ha φ M H C σ ρ ss C' hE hs h1 _ fun xs H1 x1 s1 r1 => ?_
  cases r1 with
  | nil => cases h2; cases h3
  | @cons x0 s0 _ _ r t =>
    unfold sees at h2
    obtain ⟨d1, h4, h5⟩ := bn1_i h2
    obtain ⟨ds1, h6, h7⟩ := bn1_i h5
    cases h7
    cases t with
    | cons r' t' =>
      unfold sees at h6
      obtain ⟨d2, _, h8⟩ := bn1_i h6
      obtain ⟨d3, _, h9⟩ := bn1_i h8
      cases h9
      cases d1 <;> cases h3
    | nil =>
      cases h6
      cases d1 with
      | lst xs0 =>
        obtain ⟨ps, h8, h9⟩ := bn1_i (show bn1 (pairsD xs0) (fun ps => some (.dK (mergeD [] ps))) = some d from h3)
        cases h9
        have fin : ∀ (c : Addr) (vs : List V), x0 = .ref c → Rd H1 c (.lst vs) → vs.length ≤ sizeLine → RpL G M H1 vs xs0 → tCB (rDcP G.K) (fun _ H' Q' => Q' [x0] H') σ H1 Q := fun c vs ec rd hl rl => by
          obtain ⟨as, kvs, e5, e6, e7, e8⟩ := pairs_rel rl h8
          subst e5
          refine ⟨c, as, kvs, by rw [ec], .inl rd, e6, fun p hp => ?_⟩
          have k1 := keepsM (M := M) (o := .dK (mergeK [] kvs)) hp
          have ll : kvs.length ≤ sizeLine := by
            have q1 : kvs.length = ps.length := by simpa using congrArg List.length e7
            have q2 := Paired.length e6
            rw [List.length_map] at hl
            omega
          obtain ⟨m1, m2⟩ := merge_rel (kvs := []) (ds := []) (e7) (e8) rfl .nil
          exact hQ p _ (x1.none_ hp) (x1.trans (Ext.laid hp)) (s1.laidM hp) ⟨_, upd_same, Nat.le_trans (length_mergeK kvs []) (by simpa using ll), m1, m2.keeps k1⟩
        rcases s1.see_rd r h4 with ⟨_, q⟩ | ⟨n, c, cd, _, e5, _, _, hu, hc⟩
        · cases q with
          | lst nM rd hl rl => exact fin _ _ rfl rd hl rl
        · cases cd with
          | lst ys =>
            cases hu
            obtain ⟨vs, q1, q2, q3⟩ := hc
            exact fin c vs e5 (.inl q1) q2 q3
          | lk c' =>
            have hu' : D.lst xs0 = c' := hu
            subst hu'
            exact hc.elim
          | _ => cases hu
      | _ => cases h3
end
end DX

/-! DSetS: sorted(set(..)) of texts. -/
namespace DX
open PySem PySem.Spec PyProof.Rows L2
abbrev noSet (w : World) : Obj := { cls := .type "set", dict := none, data := .set #[] 0 (.fresh 0 0 (!w.params.followText "set-order")) }
/-- an entry's text -/
def tx (e : Int × Value) : Str := match e.2 with
  | .str x _ => x
  | _ => ⟨#[]⟩
def GoodT (P : Program) (w : World) (e : Int × Value) : Prop := ∃ (x : Str) (t : Tok), e.2 = .str x t ∧ e.1 = (mixKind P w).hash (.inr x)
/-- a set of the texts L -/
def SetT (P : Program) (w : World) (h : Heap) (S : Addr) (L : List Str) : Prop :=
  ∃ o es ep t, h.get? S = some o ∧ o.ExactSet ∧ o.data = .set es ep t ∧ (∀ e ∈ es.toList, GoodT P w e) ∧ (es.toList.map tx).Perm L ∧ L.Nodup ∧ es.size < scanBound ∧ t.fits es.size = true ∧ Ris t.place.toList ∧ (w.params.followText "set-order" = true ∨ t.led = true)
section
variable {P : Program} {w : World} {A : Around} {E : Value → Shared → Prop} {s : Shared} {S : Addr} {L : List Str}
theorem SetT.at {h h' : Heap} (R : SetT P w h S L) (k : ∀ o, h.get? S = some o → h'.get? S = some o) : SetT P w h' S L := by
  obtain ⟨o, es, ep, t, ho, r⟩ := R; exact ⟨o, es, ep, t, k o ho, r⟩
theorem goodT_elems {l : List (Int × Value)} (g : ∀ e ∈ l, GoodT P w e) : ElemsOf (mixKind P w) l := fun e he => by
  obtain ⟨x, t, h1, h2⟩ := g e he
  exact ⟨⟨.inr x, by rw [h1]; exact mixKind_str P w x t, h2⟩, by rw [h1] <;> rfl⟩
theorem goodT_is {e : Int × Value} (g : GoodT P w e) (x : Str) : (mixKind P w).is (.inr x) e.2 = true ↔ tx e = x := by
  obtain ⟨y, t, h1, _⟩ := g
  have e1 : tx e = y := by unfold tx; rw [h1]
  rw [e1, h1]
  constructor
  · intro h
    have q := (mixKind P w).inj _ _ _ h (mixKind_str P w y t)
    cases q; rfl
  · rintro rfl; exact mixKind_str P w y t
theorem t_tail {g : Bool → Sem Unit} (hg : ∀ (b : Bool) (z : Shared) (q : Unit → Shared → Prop), q () z → wpAny (model P w) A (g b) q E z) {o : Obj} {es : Array (Int × Value)} {ep : Nat} {t : SetTable}
    (ho : s.heap.get? S = some o) (hx : o.ExactSet) (hd : o.data = .set es ep t) {fs : Array (Int × Value)} {u : SetTable} (gd : ∀ e ∈ fs.toList, GoodT P w e) (pm : (fs.toList.map tx).Perm L) (nd : L.Nodup)
    (hb : fs.size < scanBound) (hf : u.fits fs.size = true) (hr : Ris u.place.toList) (hl : w.params.followText "set-order" = true ∨ u.led = true) {b : Bool} {R : Option Bool → Shared → Prop}
    (hR : ∀ h', Heap.SameBut S s.heap h' → SetT P w h' S L → R (some true) { s with heap := h' }) :
    wpAny (model P w) A (do
      storeSet S fs u
      if (!b && u.tooFull) = true then do
          g (relayAll u fs (SetTable.grown fs.size)).2.2
          storeSet S (relayAll u fs (SetTable.grown fs.size)).1 (relayAll u fs (SetTable.grown fs.size)).2.1
          pure (some true)
        else pure (some true)) R E s := by
  refine wpAny_bind (wpAny_storeSet_of ho hd ?_ (fits_of_scanBound hb))
  have o1 := store_at (es' := fs) (t' := u) ho hd
  have b1 := Heap.SameBut.update s.heap S (Obj.putSet fs u)
  split
  · have p2 := relayAll_perm u fs (SetTable.grown fs.size)
    have f2 := relayAll_fits u fs (SetTable.grown fs.size)
    have r2 := relayAll_ris u fs (SetTable.grown fs.size)
    have l2 := relayAll_led u fs (SetTable.grown fs.size)
    generalize relayAll u fs (SetTable.grown fs.size) = Z at p2 f2 r2 l2 ⊢
    obtain ⟨gs, v, gave⟩ := Z
    dsimp only at p2 f2 r2 l2 ⊢
    have z2 : gs.size = fs.size := by rw [← Array.length_toList, p2.length_eq, Array.length_toList]
    have b2 : gs.size < scanBound := by omega
    refine wpAny_bind (hg _ _ _ (wpAny_bind (wpAny_storeSet_of o1 rfl ?_ (fits_of_scanBound b2))))
    have o2 := store_at (es' := gs) (t' := v) o1 rfl
    exact wpAny_pure (hR _ (b1.trans (Heap.SameBut.update _ S _)) ⟨_, gs, _, v, o2, hx, rfl, fun e he => gd e (p2.mem_iff.mp he), (p2.map tx).trans pm, nd, b2, f2, r2, hl.imp id fun q => by rw [l2]; exact q⟩)
  · exact wpAny_pure (hR _ b1 ⟨_, fs, _, u, o1, hx, rfl, gd, pm, nd, hb, hf, hr, hl⟩)
theorem t_add {x : Str} {tk : Tok} {Q : Bool → Shared → Prop} (R : SetT P w s.heap S L) (room : L.length + 1 < scanBound)
    (hQ : ∀ r h' L', Heap.SameBut S s.heap h' → SetT P w h' S L' → (∀ y, y ∈ L' ↔ y ∈ L ∨ y = x) → L'.length ≤ L.length + 1 → Q r { s with heap := h' }) :
    wpAny (model P w) A (setAddHashed S (.str x tk) ((mixKind P w).hash (.inr x))) Q E s := by
  obtain ⟨o, es, ep, t, ho, hx, hd, gd, pm, nd, hb, hf, hr, hl⟩ := R
  have hk := mixKind_str P w x tk
  have sc : (Value.str x tk).scannable = true := rfl
  have el := goodT_elems gd
  unfold setAddHashed setAddHashedIn
  refine wpAny_holding (wpAny_bind (wpAny_setState_of ho hd hf ?_))
  dsimp only
  rw [byScan_of sc hb el]
  simp only [↓reduceIte]
  unfold setAddByScan
  refine wpAny_bind (wpAny_bind (wpAny_rule (wpAny_bind (wpAny_setScan_of hk ho hd hf el ?_))))
  cases hfi : List.findIdx? (fun e => (mixKind P w).is (.inr x) e.2) es.toList with
  | some j =>
    dsimp only
    obtain ⟨hj, pj, _⟩ := List.findIdx?_eq_some_iff_getElem.mp hfi
    have hm : x ∈ L := pm.mem_iff.mp (List.mem_map.mpr ⟨es.toList[j], List.getElem_mem hj, (goodT_is (gd _ (List.getElem_mem hj)) x).1 pj⟩)
    exact wpAny_pure (wpAny_pure (hQ _ s.heap L (Heap.SameBut.refl S s.heap) ⟨o, es, ep, t, ho, hx, hd, gd, pm, nd, hb, hf, hr, hl⟩ (fun y => ⟨.inl, fun z => z.elim id fun q => by rw [q]; exact hm⟩) (Nat.le_succ _)))
  | none =>
    dsimp only
    have nm : x ∉ L := fun z => by
      obtain ⟨e, he, q⟩ := List.mem_map.mp (pm.mem_iff.mpr z)
      have c := List.findIdx?_eq_none_iff.mp hfi e he
      rw [(goodT_is (gd e he) x).2 q] at c
      cases c
    have way : ∀ (b : Bool) {z : Shared} {q : Unit → Shared → Prop}, q () z → wpAny (model P w) A (match b with | true => rule "set.scan.the-table-gave-way" | false => pure ()) q E z :=
      fun b z q h => by cases b <;> first | exact wpAny_pure h | exact wpAny_rule h
    have p1 := layNew_perm t es ((mixKind P w).hash (.inr x)) (.str x tk)
    have f1 := layNew_fits t es ((mixKind P w).hash (.inr x)) (.str x tk)
    have r1 := layNew_ris t es ((mixKind P w).hash (.inr x)) (.str x tk) hr
    have l1 := layNew_led t es ((mixKind P w).hash (.inr x)) (.str x tk)
    generalize layNew t es ((mixKind P w).hash (.inr x)) (.str x tk) = Z at p1 f1 r1 l1 ⊢
    obtain ⟨fs, u, dummy, gave⟩ := Z
    dsimp only at p1 f1 r1 l1 ⊢
    rw [Array.toList_push] at p1
    have p2 : fs.toList.Perm (((mixKind P w).hash (.inr x), Value.str x tk) :: es.toList) := p1.trans (List.perm_append_singleton _ _)
    have p3 : (fs.toList.map tx).Perm (x :: L) := (p2.map tx).trans (List.Perm.cons x pm)
    have g1 : ∀ e ∈ fs.toList, GoodT P w e := fun e he => by
      rcases List.mem_cons.mp (p2.mem_iff.mp he) with z | z
      · rw [z]; exact ⟨x, tk, rfl, rfl⟩
      · exact gd e z
    have n1 : (x :: L).Nodup := List.nodup_cons.mpr ⟨nm, nd⟩
    have z1 : fs.size = L.length + 1 := by
      have q := p3.length_eq
      rw [List.length_map, Array.length_toList, List.length_cons] at q
      exact q
    have b1 : fs.size < scanBound := by omega
    have l2 : w.params.followText "set-order" = true ∨ u.led = true := hl.imp id fun z => by rw [l1]; exact z
    have fin : ∀ h', Heap.SameBut S s.heap h' → SetT P w h' S (x :: L) → Q true { s with heap := h' } := fun h' sb r => hQ true h' _ sb r (fun y => by rw [List.mem_cons]; exact Or.comm) (Nat.le_refl _)
    refine wpAny_bind (way _ ?_)
    split
    · refine wpAny_bind ?_
      rw [hashByValue_scannable 8 sc]
      refine wpAny_pure (t_tail ?_ ho hx hd g1 p3 n1 b1 ?_ ?_ ?_ ?_)
      · intro b z q h; cases b <;> first | exact wpAny_pure h | exact wpAny_rule h
      · first | (split <;> first | exact f1 | exact SetTable.fits_plain_off f1) | exact f1
      · first | (split <;> exact r1) | exact r1
      · first | (split <;> exact l2) | exact l2
      · intro h' sb r; dsimp only; exact wpAny_pure (fin h' sb r)
    · refine wpAny_bind (wpAny_pure ?_)
      simp only [↓reduceIte]
      refine t_tail ?_ ho hx hd g1 p3 n1 b1 f1 r1 l2 ?_
      · intro b z q h; cases b <;> first | exact wpAny_pure h | exact wpAny_rule h
      · intro h' sb r; dsimp only; exact wpAny_pure (fin h' sb r)
end
end DX

namespace DX
open PySem PySem.Spec PyProof.Rows L2
section
variable {P : Program} {w : World} {A : Around} {E : Value → Shared → Prop} {s : Shared}
/-- the loop of set(xs) -/
theorem t_loop {I : Addr} {fp wr : List Addr} {G : Array GenState → Array GenState → Prop} {n : Nat} {Pv : Nat → Value → Prop} {St : Nat → Shared → Prop} {R : Result → Shared → Prop}
    (W : WalksS P w A.in1 I fp wr G n Pv St) (S : Addr) (nS : S ∉ fp) (xs : List Str) (hn : n = xs.length) (hb : xs.length + 1 < scanBound) (hv : ∀ i v, Pv i v → ∃ x t, xs[i]? = some x ∧ v = .str x t)
    (hR : ∀ s0 s' L, Moved (S :: wr) G s0 s' → SetT P w s'.heap S L → (∀ y, y ∈ L ↔ y ∈ xs) → s0 = s → R (.ok (.ret .none)) s') :
    ∀ (k i : Nat) (z : Shared), n - i = k → i ≤ n → St i z → Moved (S :: wr) G s z → (∃ L, SetT P w z.heap S L ∧ (∀ y, y ∈ L ↔ y ∈ xs.take i) ∧ L.length ≤ i) →
      codeAny (model P w) A (.builtin "set.update.loop" ⟨[.ref S, .ref I], []⟩) R z := by
  have nw : S ∉ wr := fun q => nS (W.sub _ q)
  have up : ∀ b ∈ wr, b ∈ S :: wr := fun b q => List.mem_cons_of_mem _ q
  intro k
  induction k with
  | zero =>
    intro i z hk hi hst hm ⟨L, hS, hL, _⟩
    have e : i = n := by omega
    subst e
    refine codeAny_builtin F.entry_set_update_loop ?_
    rw [Around.under_plainId F.plain_set_update_loop _]
    show wpAny _ A.in1 (pyNext (.ref I) >>= _) _ _ z
    refine wpAny_bind (W.done z _ _ hst fun z' m' => ?_)
    have et : xs.take i = xs := List.take_of_length_le (by omega)
    rw [et] at hL
    exact wpAny_pure (hR s z' L (Moved.trans W.gtrans hm (m'.mono up)) (hS.at fun o q => m'.heap S o nw q) hL rfl)
  | succ k ih =>
    intro i z hk hi hst hm ⟨L, hS, hL, hl⟩
    have lt : i < n := by omega
    refine codeAny_builtin F.entry_set_update_loop ?_
    rw [Around.under_plainId F.plain_set_update_loop _]
    show wpAny _ A.in1 (pyNext (.ref I) >>= _) _ _ z
    refine wpAny_bind (W.item i z _ _ lt hst fun v z' hP hst' m' => ?_)
    obtain ⟨x, t, hx, rfl⟩ := hv i v hP
    have hS1 : SetT P w z'.heap S L := hS.at fun o q => m'.heap S o nw q
    show wpAny _ A.in1 (holding [Value.str x t] (setAdd S (.str x t)) >>= _) _ _ z'
    refine wpAny_bind (wpAny_holding ?_)
    unfold setAdd
    refine wpAny_holding (wpAny_bind ((mixKind P w).pyHash (k := .inr x) (mixKind_str P w x t) ?_))
    refine t_add (s := { z' with toks := z'.toks + 1 }) hS1 (by omega) fun r h' L' sb hS2 m2 l2 => ?_
    have m3 : ∀ y, y ∈ L' ↔ y ∈ xs.take (i + 1) := fun y => by
      rw [m2 y, hL y, List.take_add_one, hx]
      simp [List.mem_append]
    refine wpAny_pure ⟨plainId_quiet F.plain_set_update_loop _, ih (i + 1) _ (by omega) lt (W.frame _ z' _ _ hst' (Nat.le_succ _) fun b q o e => ?_) (Moved.trans W.gtrans hm ((m'.mono up).then_heap (Nat.le_succ _) fun b o q e => ?_)) ⟨L', hS2, m3, by omega⟩⟩
    · rw [sb.2 b (fun c : b = S => nS (by rw [← c]; exact q))]; exact e
    · rw [sb.2 b (fun c : b = S => q (by rw [c]; exact List.mem_cons_self))]; exact e
theorem setT_fresh {h : Heap} {S : Addr} (ho : h.get? S = some (noSet w)) : SetT P w h S [] :=
  ⟨_, #[], 0, _, ho, ⟨rfl, rfl, rfl⟩, rfl, (fun e he => by simp at he), .nil, List.nodup_nil, by decide, rfl, List.Pairwise.nil, by
    show _ ∨ (!w.params.followText "set-order") = true
    cases w.params.followText "set-order" <;> simp⟩
set_option maxRecDepth 100000 in
set_option maxHeartbeats 3200000 in
theorem call_setT {l : Addr} {its : Array Value} (xs : List Str) {Q : Value → Shared → Prop} (hh : A.handled = none) (hl : s.heap.IsList l its) (hit : StrsAre its.toList xs) (hb : xs.length + 1 < scanBound)
    (h : ∀ (h' : Heap) (tk : Nat) (L : List Str), SetT P w h' s.heap.objs.size L → (∀ y, y ∈ L ↔ y ∈ xs) → (∀ b o, s.heap.get? b = some o → h'.get? b = some o) → Q (.ref s.heap.objs.size) { s with heap := h', toks := tk }) :
    wpAny (model P w) A (call (.type "set") [.ref l]) Q E s := by
  have isz : its.size = xs.length := by
    have q := StrsAre.length hit
    rwa [Array.length_toList] at q
  obtain ⟨c, tl, hmro⟩ := F.called_set.mro
  have q1 := F.called_set.made
  have q2 := F.called_set.sub
  refine wpAny_call (codeAny_of_tree ?_)
  show wpAny _ _ (callAny (.type "set") _) _ _ _
  refine wpAny_pure ⟨Code.quiet_builtin _ (by decide +kernel), codeAny_builtin F.entry_type_call ?_⟩
  rw [Around.under_plain (weight_type_call_type "set" [.ref l] []) rfl]
  have q3 := F.called_set.notType
  have q4 := F.called_set.canCreate
  have q5 := F.typeCall_set_1 (.ref l)
  repeat (any_goals (first | assumption | wp_step))
  refine codeAny_mono (code_set_led1 (.ref l) (E := E) (Q₁ := fun v z => v = .ref s.heap.objs.size ∧ z = { s with heap := s.heap.push (noSet w) }) ⟨rfl, rfl⟩) fun r z hr => ?_
  cases r with
  | error e => exact hr
  | ok fl =>
    cases fl with
    | ret obj =>
      obtain ⟨rfl, rfl⟩ := hr
      have gS : (s.heap.push (noSet w)).get? s.heap.objs.size = some (noSet w) := Heap.get?_push_size _ rfl
      have tS : Shared.TypeIs { s with heap := s.heap.push (noSet w) } (.ref s.heap.objs.size) "set" := ⟨_, gS, rfl⟩
      have q6 := F.called_set.init.lookup
      have q7 := F.called_set.init.bind (.ref s.heap.objs.size)
      repeat (any_goals (first | assumption | wp_step))
      refine codeAny_mono (codeAny_call_builtin (R := wants (fun r z => r = .none ∧ ∃ h' tk L, z = { s with heap := h', toks := tk } ∧ SetT P w h' s.heap.objs.size L ∧ (∀ y, y ∈ L ↔ y ∈ xs) ∧
          (∀ b o, s.heap.get? b = some o → h'.get? b = some o)) E) F.called_set.init.plain F.entry_set_init (check_set_init_1 tS ?_)) fun r2 z2 hr2 => ?_
      · obtain ⟨ol, hol, hcl, nl, hdl⟩ := hl
        obtain ⟨ocls, odict, odata, oslots⟩ := ol
        simp only at hcl hdl
        subst hcl; subst hdl
        have hol2 : (s.heap.push (noSet w)).get? l = some { cls := .type "list", dict := odict, data := .seq its nl, slots := oslots } := Heap.get?_push_of_some _ hol
        have q8 := F.sub_list_set
        have q9 := F.sub_list_frozenset
        have q10 : (Value.type "list" == Value.type "dict") = false := by decide
        have hl1 : (s.heap.push (noSet w)).IsList l its := ⟨_, hol2, rfl, nl, rfl⟩
        unfold Builtin.«set.__init__» noKeywords Builtin.Frozenset.updateFrom
        generalize hPI : pyIter = PI
        wp_walk
        subst hPI
        refine wpAny_pyIter_list hl1 ?_
        refine wpAny_bind (wpAny_runValue ?_)
        have ls : l < s.heap.objs.size := Heap.lt_size hol
        have hh3 : A.in1.in1.in1.handled = none := by simp [hh]
        have zs : (s.heap.push (noSet w)).objs.size = s.heap.objs.size + 1 := Heap.size_push ..
        have ne1 : l ≠ (s.heap.push (noSet w)).objs.size := by rw [zs]; exact Nat.ne_of_lt (Nat.lt_succ_of_lt ls)
        have nS : s.heap.objs.size ∉ [(s.heap.push (noSet w)).objs.size, l] := by
          simp only [List.mem_cons, List.not_mem_nil, or_false, not_or, zs]
          exact ⟨Nat.ne_of_lt (Nat.lt_succ_self _), Nat.ne_of_gt ls⟩
        have hval : ∀ (i : Nat) (v : Value), its[i]? = some v → ∃ x t, xs[i]? = some x ∧ v = .str x t := fun i v hv => by
          have q : its.toList[i]? = some v := by rw [Array.getElem?_toList]; exact hv
          obtain ⟨x, t, e⟩ := hit.all v (List.mem_of_getElem? q)
          subst e
          refine ⟨x, t, ?_, rfl⟩
          rw [← hit.strs, List.getElem?_map, q]
          rfl
        refine t_loop (s := { s with heap := (s.heap.push (noSet w)).push { cls := .type "list_iterator", data := .fields #[.ref l, .int 0 0] } }) ((Walks.list hh3 _ l ne1 its).toS) s.heap.objs.size nS xs isz hb hval ?hR (its.size - 0) 0 _ (by omega) (Nat.zero_le _)
          ⟨⟨_, Heap.get?_push_size _ rfl, rfl, rfl⟩, (hl1.push _)⟩ ?hM ?hS0
        case hS0 => exact ⟨[], setT_fresh (Heap.get?_push_of_some _ gS), fun y => by simp, Nat.le_refl _⟩
        case hM => exact ⟨fun b o _ e => e, rfl, rfl, rfl, Nat.le_refl _⟩
        case hR =>
          intro z0 z L hm hS hL e0
          subst e0
          obtain ⟨h', g2, d2, tk2, os2⟩ := z
          have e1 : g2 = s.gens := hm.gens
          have e2 : d2 = s.drawn := hm.drawn
          have e3 : os2 = s.os := hm.os
          subst e1; subst e2; subst e3
          show wpAny _ _ _ _ _ _
          refine wpAny_pure ?_
          show wpAny _ _ (ret Value.none) _ _ _
          refine wpAny_pure ⟨rfl, h', tk2, L, rfl, hS, hL, fun b o e => ?_⟩
          have b0 : b < s.heap.objs.size := Heap.lt_size e
          refine hm.heap b o (fun z => ?_) (Heap.get?_push_of_some _ (Heap.get?_push_of_some _ e))
          simp only [List.mem_cons, List.not_mem_nil, or_false, zs] at z
          rcases z with z | z
          · exact Nat.ne_of_lt b0 z
          · exact Nat.ne_of_lt (Nat.lt_succ_of_lt b0) z
      · cases r2 with
        | error e => exact hr2
        | ok fl2 =>
          cases fl2 with
          | ret r =>
            obtain ⟨rfl, h', tk, L, rfl, hS, hL, hk⟩ := hr2
            repeat (any_goals (first | assumption | wp_step))
            exact h _ _ _ hS hL hk
          | _ => exact hr2.elim
    | _ => exact hr.elim
end
end DX

namespace DX
open PySem PySem.Spec PyProof.Rows L2
section
variable {P : Program} {w : World} {A : Around} {E : Value → Shared → Prop} {s : Shared} {S : Addr} {L : List Str}
theorem txts_of : ∀ {vs : List Value}, (∀ v ∈ vs, ∃ x t, v = Value.str x t) → StrsAre vs (vs.map strOf) := fun {vs} h => strsAre_map vs h
theorem sorted_T {Q : Value → Shared → Prop} (R : SetT P w s.heap S L) (hh : A.handled = none) (h64 : L.length < 64)
    (hQ : ∀ z p (out : Array Value) (c : Nat) (ys : List Str), (∀ b o, s.heap.get? b = some o → z.heap.get? b = some o) → z.gens = s.gens → z.os = s.os → s.heap.objs.size ≤ p → z.heap.get? p = some (seqObj "list" out c) → StrsAre out.toList ys → ys.Perm L → sortedS ys = true → Q (.ref p) z) :
    wpAny (model P w) A (call (.builtin "sorted") [.ref S]) Q E s := by
  obtain ⟨o, es, ep, t, ho, hx, hd, gd, pm, nd, hb, hf, hr, hl⟩ := R
  refine Calls.call_function_entry kind_sorted plain_sorted entry_sorted (args_sorted1 _) ?_
  unfold Builtin.«sorted»
  refine wpAny_bind (m := checkCount "sorted" 1 1 _) (wpAny_pure ?_)
  refine wpAny_bind (collect_set (A := A.in1) hh ⟨o, ho, hx.1, hd⟩ hf hb hr hl fun z vs k1 hz g1 o1 pv => ?_)
  have all : ∀ v ∈ vs, ∃ x t, v = Value.str x t := fun v hv => by
    obtain ⟨e, he, q⟩ := List.mem_map.mp (pv.mem_iff.mp hv)
    obtain ⟨x, t, h1, _⟩ := gd e he
    exact ⟨x, t, by rw [← q]; exact h1⟩
  have hT := txts_of all
  have pk : (vs.map strOf).Perm L := by
    refine (pv.map strOf).trans ?_
    rw [List.map_map]
    have e : es.toList.map (strOf ∘ (·.2)) = es.toList.map tx := List.map_congr_left fun e he => by
      obtain ⟨x, t, h1, _⟩ := gd e he
      show strOf e.2 = tx e
      unfold tx
      rw [h1]
      rfl
    rw [e]
    exact pm
  have hvl : vs.length < 64 := by
    have q := pk.length_eq
    rw [List.length_map] at q
    omega
  refine wpAny_bind (wpAny_newList ?_ (small64 hvl))
  have gL : (z.heap.push (seqObj "list" vs.toArray 0)).get? z.heap.objs.size = some (seqObj "list" vs.toArray 0) := Heap.get?_push_size _ rfl
  refine wpAny_bind (wpAny_holding (wpAny_call_entry slot_list_sort ⟨_, gL, rfl⟩ entry_list_sort (list_sort_treeK strKind_oneLt gL hT.keysOf (fun v1 v2 rest e => keyKind_strs (by rw [← e]; exact hT)) hvl fun st a1 a2 => ⟨_, rfl, ?_⟩) (args_list_sort _)))
  obtain ⟨ys, b1, b2, b3⟩ := sorted_out_str hT a1 a2
  obtain ⟨c, hc⟩ := sortedHeap_at (vs := vs) (out := (arrOf st).map (·.2)) gL
  refine wpAny_pure ⟨_, rfl, hQ _ z.heap.objs.size _ c ys (fun b u e => ?_) g1 o1 hz hc b1 (b2.trans pk) b3⟩
  have q := k1 b u e
  have lt := Heap.lt_size q
  show (sortedHeap (z.heap.push (seqObj "list" vs.toArray 0)) z.heap.objs.size vs _).get? b = some u
  rw [sortedHeap_old (Nat.ne_of_lt lt) (by rw [size_push']; exact Nat.lt_succ_of_lt lt)]
  exact Heap.get?_push_of_some _ q
end
def SetS (P : Program) (w : World) (a : Addr) (L : List Str) : HO := .ext fun h => SetT P w h a L
theorem setS_new {P : Program} {w : World} {H : Hp} {h : Heap} {a : Addr} {L : List Str} (R : SetT P w h a L) : ObjOk P w H h a (SetS P w a L) := by
  have ⟨o, _, _, _, ho, _⟩ := R
  exact ⟨R, ⟨o, ho⟩, fun _ _ p k => p.at k⟩
def rSetT (K : PySem.W.Frag) (P : Program) (w : World) : List V → Hp → VK → Prop := fun xs H Q => ∃ (l : Addr) (ys : List Str), xs = [.ref l] ∧ SqL K H l (ys.map V.str) ∧ ys.length < 64 ∧
  ∀ a L, H a = none → L.Nodup → (∀ y, y ∈ L ↔ y ∈ ys) → Q (.ref a) (upd H a (SetS P w a L))
def rSrtT (P : Program) (w : World) : List V → Hp → VK → Prop := fun xs H Q => ∃ (a : Addr) (L : List Str), xs = [.ref a] ∧ H a = some (SetS P w a L) ∧ L.length < 64 ∧
  ∀ ys p, ys.Perm L → sortedS ys = true → H p = none → Q (.ref p) (upd H p (.lst (ys.map V.str)))
section
variable {X : Cx} (K : PySem.W.Frag) (P : Program) (w : World)
theorem k_set (hK : X.K = K) (hP : X.prog = P) (hw : X.w = w) (hc : X.calm = true) : CallR X (.type "set") (rSetT K P w) := by
  subst hK; subst hP; subst hw
  intro pins s σ H xs us Q I r h
  obtain ⟨l, ys, rfl, hl, h64, q⟩ := h
  rw [Vals.ref1 r]
  obtain ⟨its, rv, pl, hz⟩ := I.list hl
  have hn : H s.heap.objs.size = none := I.hok.fresh (Nat.le_refl _)
  have hb : ys.length + 1 < scanBound := by
    have : scanBound = 4096 := rfl
    omega
  refine call_setT ys (I.ok.hd hc) pl.isList (by simpa using rv.strs) hb fun h' tk L R hL k => ?_
  have nd : L.Nodup := by
    have ⟨_, _, _, _, _, _, _, _, _, nd, _⟩ := R
    exact nd
  exact ⟨.ref s.heap.objs.size, upd H s.heap.objs.size (SetS X.prog X.w s.heap.objs.size L), I.laid (t' := tk) k (Nat.le_refl _) (setS_new R), rfl, q _ L hn nd hL⟩
theorem k_srt (hP : X.prog = P) (hw : X.w = w) (hc : X.calm = true) : CallR X (.builtin "sorted") (rSrtT P w) := by
  subst hP; subst hw
  intro pins s σ H xs us Q I r h
  obtain ⟨a, L, rfl, ha, h64, q⟩ := h
  have R : SetT X.prog X.w s.heap a L := (I.hok a _ ha).1
  rw [Vals.ref1 r]
  refine sorted_T R (I.ok.hd hc) h64 fun z p out c ys k g o hp hg hs pm st => ?_
  have hlen : (ys.map V.str).length ≤ sizeLine := by
    rw [List.length_map, pm.length_eq]
    exact small64 h64
  have hn : H p = none := I.hok.fresh hp
  have J : Inv X pins σ (upd H p (.lst (ys.map V.str))) { s with heap := z.heap, gens := z.gens, drawn := z.drawn, toks := z.toks } :=
    I.call (ch := []) (Un.laid k hp hn) (I.hok.laid k hp ⟨hlen, out.toList, c, vals_of_strs hs, hg⟩) (by rw [g]; exact I.bare) (fun _ q => nomatch q)
  have e : z = { s with heap := z.heap, gens := z.gens, drawn := z.drawn, toks := z.toks } := by
    cases z; cases s; cases o; rfl
  rw [e]
  exact ⟨.ref p, _, J, rfl, q ys p pm st hn⟩
end
/-- each once -/
def once : List Str → List Str
  | [] => []
  | x :: r => if x ∈ r then once r else x :: once r
theorem mem_once {y : Str} : ∀ {l : List Str}, y ∈ once l ↔ y ∈ l
  | [] => Iff.rfl
  | x :: r => by
    unfold once
    by_cases h : x ∈ r
    · rw [if_pos h, mem_once, List.mem_cons]
      exact ⟨.inr, fun z => z.elim (fun e => by rw [e]; exact h) id⟩
    · rw [if_neg h, List.mem_cons, List.mem_cons, mem_once]
theorem nodup_once : ∀ l : List Str, (once l).Nodup
  | [] => List.nodup_nil
  | x :: r => by
    unfold once
    by_cases h : x ∈ r
    · rw [if_pos h]; exact nodup_once r
    · rw [if_neg h]; exact List.nodup_cons.mpr ⟨fun z => h (mem_once.mp z), nodup_once r⟩
theorem len_once : ∀ l : List Str, (once l).length ≤ l.length
  | [] => Nat.le_refl _
  | x :: r => by
    have ih := len_once r
    unfold once
    by_cases h : x ∈ r
    · rw [if_pos h, List.length_cons]; omega
    · rw [if_neg h, List.length_cons, List.length_cons]; omega
/-- sorted(set(e)) of texts -/
def nSortSet (f : SE) : SN := fun ρ C => bnd (f ρ C) fun v C1 => bn1 (see C1 v) fun d => match d with
  | .lst ds => bn1 (txts ds) fun xs => gd (xs.length < 64) (some (.lst ((sortStr (once xs)).map D.str), C1))
  | _ => none
theorem perm_same {α : Type} [DecidableEq α] {a b : List α} (ha : a.Nodup) (hb : b.Nodup) (h : ∀ x, x ∈ a ↔ x ∈ b) : a.Perm b := (List.perm_ext_iff_of_nodup ha hb).mpr h
section
variable {G : Gm} {P : Program} {w : World}
theorem sim_sortset {te : TE} {f : SE} (he : SimE G te f) : SimN G (tCB (rSrtT P w) (tCons (tCB (rSetT G.K P w) (tCons te tNil)) tNil)) (nSortSet f) := by
  intro φ M H C σ ρ d C' hE hs e0 Q hQ
  obtain ⟨v, C1, h1, e1⟩ := bnd_i e0
  obtain ⟨d1, h2, e2⟩ := bn1_i e1
  cases d1 with
  | lst ds =>
    obtain ⟨xs, h3, e3⟩ := bn1_i e2
    obtain ⟨h4, e4⟩ := gd_i e3
    cases e4
    refine he φ M H C σ ρ v C' hE hs h1 _ fun x H1 x1 s1 r1 => ?_
    have rp := s1.see_rp r1 h2
    have e5 := txts_some h3
    subst e5
    cases rp with
    | @lst l vs _ nM rd hl rl =>
      have e6 := Rp.txts rl
      subst e6
      refine ⟨l, xs, rfl, .inl rd, h4, fun a L ha nd hL => ?_⟩
      have x2 : Ext φ H1 (upd H1 a (SetS P w a L)) := Ext.laid ha
      have s2 := s1.laid (o := SetS P w a L) ha
      have pm : L.Perm (once xs) := perm_same nd (nodup_once xs) fun y => by rw [hL y, mem_once]
      have hL64 : L.length < 64 := by
        rw [pm.length_eq]
        exact Nat.lt_of_le_of_lt (len_once xs) h4
      refine ⟨a, L, rfl, upd_same, hL64, fun ys p pz sz hp => ?_⟩
      have e7 := sort_one (pz.trans pm) (sortedS_pw sz)
      subst e7
      have hl2 : ((sortStr (once xs)).map V.str).length ≤ sizeLine := by
        rw [List.length_map, ← pz.length_eq.symm]
        exact small64 hL64
      exact hQ p _ ((x1.trans x2).none_ hp) ((x1.trans x2).trans (Ext.laid hp)) (s2.laidM hp) (CelR.newL s2 hp hl2 (rpL_txts _))
  | _ => cases e2
end
end DX

/-! DTop: a law's own promise. -/
namespace DX
open PySem PySem.Spec PyProof.Rows L2
abbrev gm (K : PySem.W.Frag) : Gm := ⟨K, fun _ => 0⟩
def spTop (K : PySem.W.Frag) : Sp := fun vs H Q _ => ∃ (a : Addr) (ns : List Int), vs = [.ref a] ∧ SqL K H a (ns.map V.int) ∧ ns.length ≤ 63 ∧ ∀ H', Q (.bl true) H'
theorem st0 {G : Gm} {H : Hp} : StR G [] (fun _ => False) H [] where
  len := rfl
  nd := List.nodup_nil
  sub := fun _ z => nomatch z
  live := fun _ z => False.elim z
  cel := fun n d b h1 h2 => by simp at h2
  mt := fun _ z => False.elim z
theorem top_imp {G : Gm} {F : FE} (hM : ∀ ns : List Int, ns.length ≤ 63 → ∃ C', F [.dat (.scr ns)] [] = some (.dat (.bl true), C')) (vs : List V) (H : Hp) (Q : VK) (E : XK) (h : spTop G.K vs H Q E) : spE G 1 F vs H Q E := by
  obtain ⟨a, ns, rfl, hS, hl, q⟩ := h
  obtain ⟨C', hC⟩ := hM ns hl
  have hL : LstAt G (fun _ => False) H a (ns.map V.int) := by
    rcases hS with h | h
    · exact .inl ⟨id, h⟩
    · exact .inr fun _ => .inr h
  exact ⟨[], fun _ => False, [], [.dat (.scr ns)], .dat (.bl true), C', st0, .cons (.scr hL hl) .nil, rfl, hC, fun v H' _ _ r => by cases r; exact q H'⟩
end DX

/-! DEval: what the mirrors reckon, step by step. -/
namespace DX
open PySem PySem.Spec L2
section
variable {ρ : Env} {C : Store} {f g : SE} {a b : SA} {m m2 : SS} {c : ST} {n np : Nat} {d : D}
@[simp] theorem e_var {i : Nat} : eVar i ρ C = bn1 (ρ[i]?.join) fun v => some (v, C) := rfl
@[simp] theorem e_c : eC d ρ C = some (.dat d, C) := rfl
@[simp] theorem e_bin {r : D → D → Option D} : eBin r f g ρ C = bnd (f ρ C) fun v C1 => bnd (g ρ C1) fun w C2 => bn1 (see C2 v) fun d => bn1 (see C2 w) fun e => bn1 (r d e) fun z => some (.dat z, C2) := rfl
@[simp] theorem e_un {r : D → Option D} : eUn r f ρ C = bnd (f ρ C) fun v C1 => bn1 (see C1 v) fun d => bn1 (r d) fun z => some (.dat z, C1) := rfl
@[simp] theorem e_nil : aNil ρ C = some ([], C) := rfl
@[simp] theorem e_cons : aCons f a ρ C = bnd (f ρ C) fun v C1 => bnd (a ρ C1) fun vs C2 => some (v :: vs, C2) := rfl
@[simp] theorem e_b {k : List D → Option D} : eB k a ρ C = bnd (a ρ C) fun ss C1 => bn1 (sees C1 ss) fun ds => bn1 (k ds) fun z => some (.dat z, C1) := rfl
@[simp] theorem e_nb {k : List D → Option D} : nB k a ρ C = bnd (a ρ C) fun ss C1 => bn1 (sees C1 ss) fun ds => bn1 (k ds) fun z => some (z, C1) := rfl
@[simp] theorem e_nbin {r : D → D → Option D} : nBin r f g ρ C = bnd (f ρ C) fun v C1 => bnd (g ρ C1) fun w C2 => bn1 (see C2 v) fun d => bn1 (see C2 w) fun e => bn1 (r d e) fun z => some (z, C2) := rfl
@[simp] theorem e_tup : eTup a ρ C = bnd (a ρ C) fun vs C1 => bn1 (dats vs) fun ds => gd (ds.length ≤ 1000) (some (.dat (.tup ds), C1)) := rfl
@[simp] theorem e_lst : nLst a ρ C = bnd (a ρ C) fun vs C1 => bn1 (dats vs) fun ds => gd (ds.length ≤ 1000) (some (.lst ds, C1)) := rfl
@[simp] theorem e_fr {h : SN} : eFr h ρ C = bnd (h ρ C) fun d C1 => gd (nolk d = true) (some (.dat d, C1)) := rfl
@[simp] theorem t_b : tB' f ρ C = bnd (f ρ C) fun v C1 => match v with | .dat (.bl b) => some (b, C1) | _ => none := rfl
@[simp] theorem t_tru : tTru f ρ C = bnd (f ρ C) fun v C1 => bn1 (see C1 v) fun d => bn1 (truD d) fun b => some (b, C1) := rfl
@[simp] theorem t_and {p q : ST} : tAnd' p q ρ C = bnd (p ρ C) fun b C1 => if b = true then q ρ C1 else some (false, C1) := rfl
@[simp] theorem t_or {p q : ST} : tOr' p q ρ C = bnd (p ρ C) fun b C1 => if b = true then some (true, C1) else q ρ C1 := rfl
@[simp] theorem t_not : tNot' c ρ C = bnd (c ρ C) fun b C1 => some (!b, C1) := rfl
@[simp] theorem e_if : eIf c f g ρ C = bnd (c ρ C) fun b C1 => if b = true then f ρ C1 else g ρ C1 := rfl
@[simp] theorem s_nil : sNil ρ C = some (.nx ρ, C) := rfl
@[simp] theorem s_seq : sSeq m m2 ρ C = bnd (m ρ C) fun o C1 => match o with | .nx ρ1 => m2 ρ1 C1 | o => some (o, C1) := rfl
@[simp] theorem s_set {i : Nat} : sSet i f ρ C = bnd (f ρ C) fun v C1 => some (.nx (ρ.set i (some v)), C1) := rfl
@[simp] theorem s_new {i : Nat} {h : SN} : sNew i h ρ C = bnd (h ρ C) fun d C1 => some (.nx (ρ.set i (some (.cel C1.length))), C1 ++ [d]) := rfl
@[simp] theorem s_ret : sRet f ρ C = bnd (f ρ C) fun v C1 => some (.rt v, C1) := rfl
@[simp] theorem s_drop : sDrop f ρ C = bnd (f ρ C) fun _ C1 => some (.nx ρ, C1) := rfl
@[simp] theorem s_if : sIf c m m2 ρ C = bnd (c ρ C) fun b C1 => if b = true then m ρ C1 else m2 ρ C1 := rfl
@[simp] theorem e_call {F : FE} : eCall np F a ρ C = bnd (a ρ C) fun ss C1 => gd (ss.length = np) (F ss C1) := rfl
@[simp] theorem e_put {h : SE} : sPut f g h ρ C = bnd (f ρ C) fun z C1 => bnd (g ρ C1) fun v C2 => bnd (h ρ C2) fun i C3 => bn1 (datOf z) fun z => bn1 (see C3 i) fun i => match v with
  | .cel n => bn1 (C3[n]?) fun c => bn1 (putAt c i z) fun c' => some (.nx ρ, C3.set n c')
  | _ => none := by first | rfl | (unfold sPut; rfl)
@[simp] theorem see_d : see C (.dat d) = some d := rfl
@[simp] theorem see_c : see C (.cel n) = (C[n]?).map unlk := rfl
@[simp] theorem dat_d : datOf (.dat d) = some d := rfl
@[simp] theorem gd_tt {β : Type} {o : Option β} : gd True o = o := if_pos trivial
end
end DX

/-! DMath: loops and comprehensions, reckoned as a whole. -/
namespace DX
open PySem PySem.Spec L2
section
variable {cels : List (Nat × D)} {b : D → Env → Option Env} {tt : ST} {te : SE} {ρ : Env} {C : Store}
theorem comp_filter {f : D → D} {p : D → Bool} (hs : stays C cels = true) : ∀ {items : List D}, (∀ d ∈ items, ∃ ρ1, b d ρ = some ρ1 ∧ tt ρ1 C = some (p d, C) ∧ (p d = true → te ρ1 C = some (.dat (f d), C))) →
    compL cels b tt te ρ items C = some ((items.filter p).map f, C)
  | [], _ => by unfold compL; rw [gd_t hs]; rfl
  | d :: ds, h => by
    obtain ⟨ρ1, h1, h2, h3⟩ := h d List.mem_cons_self
    have ih := comp_filter (f := f) (p := p) hs (items := ds) fun x hx => h x (List.mem_cons_of_mem _ hx)
    unfold compL
    rw [gd_t hs, h1, bn1_s, h2, bnd_s, List.filter_cons]
    cases hp : p d with
    | false => rw [if_neg Bool.false_ne_true, if_neg Bool.false_ne_true]; exact ih
    | true => rw [if_pos rfl, if_pos rfl, h3 hp, bnd_s, dat_d, bn1_s, ih]; rfl
theorem comp_map {f : D → D} (hs : stays C cels = true) {items : List D} (h : ∀ d ∈ items, ∃ ρ1, b d ρ = some ρ1 ∧ te ρ1 C = some (.dat (f d), C)) :
    compL cels b tYes' te ρ items C = some (items.map f, C) := by
  have q := comp_filter (b := b) (tt := tYes') (te := te) (ρ := ρ) (f := f) (p := fun _ => true) hs (items := items) fun d hd => let ⟨ρ1, h1, h2⟩ := h d hd; ⟨ρ1, h1, rfl, fun _ => h2⟩
  rw [List.filter_eq_self.mpr fun _ _ => rfl] at q
  exact q
/-- a loop that ends -/
theorem for_inv {body : SS} {items : List D} {I : Nat → Env → Store → Prop} (h0 : I 0 ρ C)
    (hs : ∀ i d ρ C, items[i]? = some d → I i ρ C → stays C cels = true ∧ ∃ ρ1 ρ2 C1, b d ρ = some ρ1 ∧ body ρ1 C = some (.nx ρ2, C1) ∧ I (i + 1) ρ2 C1)
    (he : ∀ ρ C, I items.length ρ C → stays C cels = true) : ∃ ρ' C', forL cels b body items ρ C = some (.nx ρ', C') ∧ I items.length ρ' C' := by
  have go : ∀ k i ρ C, items.length - i = k → i ≤ items.length → I i ρ C → ∃ ρ' C', forL cels b body (items.drop i) ρ C = some (.nx ρ', C') ∧ I items.length ρ' C' := by
    intro k
    induction k with
    | zero =>
      intro i ρ C hk hi q
      have e : i = items.length := by omega
      subst e
      refine ⟨ρ, C, ?_, q⟩
      rw [List.drop_length]
      unfold forL
      rw [gd_t (he ρ C q)]
    | succ k ih =>
      intro i ρ C hk hi q
      have lt : i < items.length := by omega
      obtain ⟨h1, ρ1, ρ2, C1, h2, h3, h4⟩ := hs i _ ρ C (List.getElem?_eq_getElem lt) q
      obtain ⟨ρ', C', h5, h6⟩ := ih (i + 1) ρ2 C1 (by omega) lt h4
      refine ⟨ρ', C', ?_, h6⟩
      rw [List.drop_eq_getElem_cons lt]
      unfold forL
      rw [gd_t h1, h2, bn1_s, h3, bnd_s]
      exact h5
  have q := go _ 0 ρ C rfl (Nat.zero_le _) h0
  rwa [List.drop_zero] at q
/-- a comprehension whose items change what is held -/
theorem comp_inv {items : List D} {I : Nat → List D → Store → Prop} (h0 : I 0 [] C)
    (hs : ∀ i d zs C, items[i]? = some d → I i zs C → stays C cels = true ∧ ∃ ρ1 k C1, b d ρ = some ρ1 ∧ tt ρ1 C = some (k, C1) ∧ ((k = false ∧ I (i + 1) zs C1) ∨ (k = true ∧ ∃ z C2, te ρ1 C1 = some (.dat z, C2) ∧ I (i + 1) (zs ++ [z]) C2)))
    (he : ∀ zs C, I items.length zs C → stays C cels = true) : ∃ zs C', compL cels b tt te ρ items C = some (zs, C') ∧ I items.length zs C' := by
  have go : ∀ k i acc C, items.length - i = k → i ≤ items.length → I i acc C → ∃ zs C', compL cels b tt te ρ (items.drop i) C = some (zs, C') ∧ I items.length (acc ++ zs) C' := by
    intro k
    induction k with
    | zero =>
      intro i acc C hk hi q
      have e : i = items.length := by omega
      subst e
      refine ⟨[], C, ?_, by rw [List.append_nil]; exact q⟩
      rw [List.drop_length]
      unfold compL
      rw [gd_t (he acc C q)]
    | succ k ih =>
      intro i acc C hk hi q
      have lt : i < items.length := by omega
      obtain ⟨h1, ρ1, kk, C1, h2, h3, h4⟩ := hs i _ acc C (List.getElem?_eq_getElem lt) q
      rw [List.drop_eq_getElem_cons lt]
      unfold compL
      rw [gd_t h1, h2, bn1_s, h3, bnd_s]
      rcases h4 with ⟨rfl, h4⟩ | ⟨rfl, z, C2, h5, h6⟩
      · rw [if_neg Bool.false_ne_true]
        exact ih (i + 1) acc C1 (by omega) lt h4
      · obtain ⟨zs, C', h7, h8⟩ := ih (i + 1) (acc ++ [z]) C2 (by omega) lt h6
        rw [if_pos rfl, h5, bnd_s, dat_d, bn1_s, h7, bnd_s]
        exact ⟨z :: zs, C', rfl, by rw [List.append_assoc] at h8; exact h8⟩
  have q := go _ 0 [] C rfl (Nat.zero_le _) h0
  rwa [List.drop_zero] at q
end
end DX
namespace DX
open PySem PySem.Spec L2
/-! ### shapes -/
mutual
/-- numbers, truths, short texts, lists and tuples, n levels deep at the most -/
def okD : Nat → D → Bool
  | _, .non => true
  | _, .bl _ => true
  | _, .int _ => true
  | _, .str x => PySem.PyData.strOk x
  | n + 1, .tup xs => okDs n xs
  | n + 1, .lst xs => okDs n xs
  | _, _ => false
def okDs : Nat → List D → Bool
  | _, [] => true
  | n, d :: ds => okD n d && okDs n ds
end
mutual
theorem okD_shp : ∀ (n : Nat) (d : D), okD n d = true → (toPy d).canLay0 = true ∧ (toPy d).depth ≤ n + 1
  | _, .non, _ => by simp [toPy, PyData.canLay0, PyData.depth]
  | _, .bl _, _ => by simp [toPy, PyData.canLay0, PyData.depth]
  | _, .int _, _ => by simp [toPy, PyData.canLay0, PyData.depth]
  | _, .str x, h => by
    refine ⟨?_, by simp [toPy, PyData.depth]⟩
    unfold okD at h
    simpa [toPy, PyData.canLay0] using h
  | n + 1, .tup xs, h => by
    have q := okDs_shp n xs (by unfold okD at h; exact h)
    refine ⟨by simpa [toPy, PyData.canLay0] using q.1, ?_⟩
    simp only [toPy, PyData.depth]
    omega
  | n + 1, .lst xs, h => by
    have q := okDs_shp n xs (by unfold okD at h; exact h)
    refine ⟨by simpa [toPy, PyData.canLay0] using q.1, ?_⟩
    simp only [toPy, PyData.depth]
    omega
  | 0, .tup _, h => by simp [okD] at h
  | 0, .lst _, h => by simp [okD] at h
  | _, .dK _, h => by simp [okD] at h
  | _, .dT _, h => by simp [okD] at h
  | _, .ins _ _, h => by simp [okD] at h
  | _, .scr _, h => by simp [okD] at h
  | _, .kt _, h => by simp [okD] at h
  | _, .lk _, h => by simp [okD] at h
theorem okDs_shp : ∀ (n : Nat) (ds : List D), okDs n ds = true → PyData.canLayAll0 (toPyL ds) = true ∧ PyData.depthAll (toPyL ds) ≤ n + 1
  | _, [], _ => by simp [toPyL, PyData.canLayAll0, PyData.depthAll]
  | n, d :: ds, h => by
    unfold okDs at h
    rw [Bool.and_eq_true] at h
    have q1 := okD_shp n d h.1
    have q2 := okDs_shp n ds h.2
    simp only [toPyL, PyData.canLayAll0, PyData.depthAll, q1.1, q2.1, Bool.and_self, true_and]
    omega
end
theorem shp_of {n : Nat} {d : D} (h : okD n d = true) (hn : n ≤ 63) : shp d = true := by
  have q := okD_shp n d h
  show ((toPy d).canLay0 && decide ((toPy d).depth ≤ 64)) = true
  rw [q.1, decide_eq_true (by omega)]
  rfl
theorem okDs_all {n : Nat} : ∀ {ds : List D}, okDs n ds = true ↔ ∀ d ∈ ds, okD n d = true
  | [] => by simp [okDs]
  | d :: ds => by
    unfold okDs
    rw [Bool.and_eq_true, okDs_all]
    simp
end DX

/-! DMore: chains, texts in order, truths by identity, walks over a dict's values, sorted rows, pairs turned about. -/
namespace DX
open PySem PySem.Spec L2 PyProof.Rows
section
variable {G : Gm}
/-! ### texts in order -/
abbrev rLtS : R2 := fun x y H Q => ∃ i j, x = .str i ∧ y = .str j ∧ Q (.bl (decide (i.cps.toList < j.cps.toList))) H
abbrev rLeS : R2 := fun x y H Q => ∃ i j, x = .str i ∧ y = .str j ∧ Q (.bl (!decide (j.cps.toList < i.cps.toList))) H
def dLtS : D → D → Option D
  | .str x, .str y => some (.bl (decide (x.cps.toList < y.cps.toList)))
  | _, _ => none
def dLeS : D → D → Option D
  | .str x, .str y => some (.bl (!decide (y.cps.toList < x.cps.toList)))
  | _, _ => none
theorem sim2_ltS : Sim2M G rLtS dLtS := by
  refine Sim2.m ?_
  intro φ M H C x y d e z hs rx ry hg Q hQ
  cases d with
  | str a =>
    cases e with
    | str b => cases hg; exact ⟨a, b, rx.strI, ry.strI, hQ _ H Ext.refl hs (.bl _)⟩
    | _ => cases hg
  | _ => cases hg
theorem sim2_leS : Sim2M G rLeS dLeS := by
  refine Sim2.m ?_
  intro φ M H C x y d e z hs rx ry hg Q hQ
  cases d with
  | str a =>
    cases e with
    | str b => cases hg; exact ⟨a, b, rx.strI, ry.strI, hQ _ H Ext.refl hs (.bl _)⟩
    | _ => cases hg
  | _ => cases hg
variable {ta tb tc : TE} {f g h : SE}
theorem sim_ltS (ha : SimE G ta f) (hb : SimE G tb g) : SimE G (tOp rLtS ta tb) (eBin dLtS f g) := sim_op sim2_ltS ha hb
theorem sim_leS (ha : SimE G ta f) (hb : SimE G tb g) : SimE G (tOp rLeS ta tb) (eBin dLeS f g) := sim_op sim2_leS ha hb
theorem sim2_leI : Sim2M G (rI0 fun i j => .bl (decide (i ≤ j))) dLe := sim2_I0 fun _ _ _ _ => .bl _

/-! ### a < b < c -/
def eChain (r r2 : D → D → Option D) (f g h : SE) : SE := fun ρ C => bnd (f ρ C) fun v C1 => bnd (g ρ C1) fun w C2 => bn1 (see C2 v) fun d => bn1 (see C2 w) fun e => bn1 (r d e) fun z => match z with
  | .bl true => bnd (h ρ C2) fun u C3 => bn1 (see C3 w) fun e' => bn1 (see C3 u) fun k => bn1 (r2 e' k) fun z' => some (.dat z', C3)
  | .bl false => some (.dat (.bl false), C2)
  | _ => none
theorem sim_chain {r r2 : R2} {k k2 : D → D → Option D} (hr : Sim2M G r k) (hr2 : Sim2M G r2 k2) (ha : SimE G ta f) (hb : SimE G tb g) (hc : SimE G tc h) : SimE G (tChain r r2 ta tb tc) (eChain k k2 f g h) := by
  intro φ M H C σ ρ s C' he hs e Q hQ
  obtain ⟨v, C1, h1, e⟩ := bnd_i e
  obtain ⟨w, C2, h2, e⟩ := bnd_i e
  obtain ⟨d, h3, e⟩ := bn1_i e
  obtain ⟨d', h4, e⟩ := bn1_i e
  obtain ⟨z, h5, e⟩ := bn1_i e
  refine ha φ M H C σ ρ v C1 he hs h1 _ fun x H1 x1 s1 r1 => ?_
  refine hb φ M H1 C1 σ ρ w C2 (he.ext x1 hs.sub) s1 h2 _ fun y H2 x2 s2 r2 => ?_
  refine hr φ M H2 C2 x y v w d d' z s2 (r1.ext x2 hs.sub) r2 h3 h4 h5 _ fun u H3 x3 s3 r3 => ?_
  cases z with
  | bl b =>
    cases r3
    cases b with
    | false => cases e; exact ⟨false, rfl, by rw [if_neg Bool.false_ne_true]; exact hQ _ H3 ((x1.trans x2).trans x3) s3 (.bl false)⟩
    | true =>
      obtain ⟨u2, C3, h6, e⟩ := bnd_i e
      obtain ⟨e', h7, e⟩ := bn1_i e
      obtain ⟨kk, h8, e⟩ := bn1_i e
      obtain ⟨z', h9, e⟩ := bn1_i e
      cases e
      refine ⟨true, rfl, ?_⟩
      rw [if_pos rfl]
      refine hc φ M H3 C2 σ ρ u2 C' (he.ext ((x1.trans x2).trans x3) hs.sub) s3 h6 _ fun q H4 x4 s4 r4 => ?_
      exact hr2 φ M H4 C' y q w u2 e' kk z' s4 (r2.ext (x3.trans x4) hs.sub) r4 h7 h8 h9 Q fun t H5 x5 s5 r5 => hQ t H5 ((((x1.trans x2).trans x3).trans x4).trans x5) s5 r5
  | _ => cases e

/-! ### x is False -/
abbrev rIsB1 : R2 := fun x y H Q => ∃ a b : Bool, x = .bl a ∧ y = .bl b ∧ Q (.bl (decide (a = b))) H
abbrev rNotB1 : R2 := fun x y H Q => ∃ a b : Bool, x = .bl a ∧ y = .bl b ∧ Q (.bl (!decide (a = b))) H
def dSameB : D → D → Option D
  | .bl x, .bl y => some (.bl (decide (x = y)))
  | _, _ => none
def dNotB : D → D → Option D
  | .bl x, .bl y => some (.bl (!decide (x = y)))
  | _, _ => none

theorem sim_sameB (ha : SimE G ta f) (hb : SimE G tb g) : SimE G (tOp rIsB1 ta tb) (eBin dSameB f g) := by
  refine sim_op (Sim2.m ?_) ha hb
  intro φ M H C x y d e z hs rx ry hg Q hQ
  cases d with
  | bl a =>
    cases e with
    | bl b => cases hg; exact ⟨a, b, rx.blI, ry.blI, hQ _ H Ext.refl hs (.bl _)⟩
    | _ => cases hg
  | _ => cases hg
theorem sim_notB (ha : SimE G ta f) (hb : SimE G tb g) : SimE G (tOp rNotB1 ta tb) (eBin dNotB f g) := by
  refine sim_op (Sim2.m ?_) ha hb
  intro φ M H C x y d e z hs rx ry hg Q hQ
  cases d with
  | bl a =>
    cases e with
    | bl b => cases hg; exact ⟨a, b, rx.blI, ry.blI, hQ _ H Ext.refl hs (.bl _)⟩
    | _ => cases hg
  | _ => cases hg

/-! ### for v in d.values() -/
def iVl (f : SE) : SI := fun ρ C => bnd (f ρ C) fun v C1 => match v with
  | .dat (.dK kvs) => some (⟨kvs.map (·.2), []⟩, C1)
  | _ => none
theorem itr_vals {φ : List Addr} {M : Addr → Prop} {H : Hp} {a : Addr} {o : Obj} {kvs : List (Key × V)} {ds : List (Key × D)} (hf : H a = some (.frz o (.dK kvs))) (hn : ¬ M a) (rl : RpL G M H (kvs.map (·.2)) (ds.map (·.2))) (hsub : ∀ a ∈ φ, M a) :
    ItR G φ M H (Itd a o kvs) ⟨ds.map (·.2), []⟩ := by
  intro φ2 M2 H2 C2 g2 s2 _
  have hf2 := g2.keeps.keep a _ hn hf
  have rl2 := rl.keeps g2.keeps
  have hl : kvs.length = ds.length := by simpa using rl.length
  refine ⟨⟨hf2, by simp [hl]⟩, fun i d hi => ⟨⟨hf2, ?_⟩, fun x H3 y => ?_⟩⟩
  · have := (List.getElem?_eq_some_iff.mp hi).1
    simpa [hl] using this
  · obtain ⟨rfl, k, h1⟩ := y
    refine ⟨.inl rfl, ?_⟩
    obtain ⟨v, hv, r⟩ := rl2.get hi
    rw [List.getElem?_map, h1] at hv
    cases hv
    exact r
theorem ivl_i {f : SE} {ρ : Env} {C C1 : Store} {src : Src} (h : iVl f ρ C = some (src, C1)) : ∃ kvs, f ρ C = some (.dat (.dK kvs), C1) ∧ src = ⟨kvs.map (·.2), []⟩ := by
  obtain ⟨v, C2, h1, h⟩ := bnd_i h
  cases v with
  | cel n => cases h
  | dat d =>
    cases d with
    | dK kvs => cases h; exact ⟨kvs, h1, rfl⟩
    | _ => cases h
theorem sim_nlcv {tk : TE} {g : TG} {tt : TT} {te : TE} {vs ws : List Nat} {fk : SE} {b : D → Env → Option Env} {ft : ST} {fe : SE} (hP : SimP G tk fk) (hG : SimG G g b ws) (hw : ∀ i ∈ ws, i ∈ vs) (hT : SimT G tt ft) (hE' : SimE G te fe) :
    SimN G (tLockA (tLc (iVals tk) g tt te vs)) (nLc (iVl fk) b ft fe vs) := by
  intro φ M H C σ ρ d C' hE hs e Q hQ
  obtain ⟨src, C1, h1, e⟩ := bnd_i e
  obtain ⟨hlen, e⟩ := gd_i e
  obtain ⟨zs, C2, h2, e⟩ := bnd_i e
  cases e
  obtain ⟨kvs, h3, rfl⟩ := ivl_i h1
  obtain ⟨rfl, v, rv, q0, q1⟩ := hP φ M H C σ ρ _ C1 hE hs h3
  cases rv with
  | @dK a kv _ nM rd l ek rl =>
    have hn : a ∉ φ := fun z => nM (hs.sub a z)
    rcases rd with hd | ⟨o, hd⟩
    · refine .inl ⟨a, _, hd, trivial, fun od => ?_⟩
      have w := sw_lock (od := od) hd trivial
      refine lc_at (hE.sw w) (hs.sw w hn) (src := ⟨kvs.map (·.2), []⟩) (fun R hR => q1 a _ w _ ⟨a, od, kv, rfl, upd_same, hR _ _ Ext.refl (hs.sw w hn) (itr_vals upd_same nM (rl.sw w) hs.sub)⟩) hG hw hT hE' hlen h2 (fun p H' hp x s c => ?_)
      have hk := x.keep a _ upd_same hn
      have w2 := sw_unlock (od := od) hk trivial
      have npa : p ≠ a := fun z => by rw [z, upd_same] at hp; cases hp
      refine ⟨hk, hQ p _ (by rw [upd_ne npa] at hp; exact hp) (ext_lock hd x) (s.sw w2 hn) (c.sw w2 npa)⟩
    · exact .inr (lc_at hE hs (src := ⟨kvs.map (·.2), []⟩) (fun R hR => q0 _ ⟨a, o, kv, rfl, hd, hR _ _ Ext.refl hs (itr_vals hd nM rl hs.sub)⟩) hG hw hT hE' hlen h2 hQ)
end
end DX

/-! DSrt: sorted(..) of texts, of rows (text, tuple of texts), of a dict's keys; a pair turned about. -/
namespace DX
open PySem PySem.Spec L2 PyProof.Rows
section
variable {X : Cx}
/-- sorted(xs), xs a list of alike data -/
def rSortD (K : PySem.W.Frag) : List V → Hp → VK → Prop := fun vs H Q => ∃ (a : Addr) (bs : List (V × D)), vs = [V.ref a] ∧ SqL K H a (bs.map (·.1)) ∧ (∀ b ∈ bs, Dp K H b.1 (toPy b.2)) ∧ PySem.W.AllAlike (bs.map fun b => toPy b.2) ∧ PySem.W.Sortable (bs.map fun b => toPy b.2) ∧ bs.length ≤ sizeLine ∧
  (∀ b ∈ bs, (toPy b.2).depth ≤ 32) ∧ ∀ p, H p = none → Q (.ref p) (upd H p (.lst ((bs.mergeSort (PySem.W.dataLe false fun b => toPy b.2)).map (·.1))))
theorem each_vals {bs : List (V × D)} : ∀ {its : List Value}, Vals (bs.map (·.1)) its → PySem.W.EachIs (fun (v : Value) (b : V × D) => RelV b.1 v) its bs := by
  induction bs with
  | nil => intro its h; cases h; exact .nil
  | cons b bs ih => intro its h; cases h with
    | cons r t => exact .cons r (ih t)
theorem vals_each {bs : List (V × D)} : ∀ {its : List Value}, PySem.W.EachIs (fun (v : Value) (b : V × D) => RelV b.1 v) its bs → Vals (bs.map (·.1)) its := by
  induction bs with
  | nil => intro its h; cases h; exact .nil
  | cons b bs ih => intro its h; cases h with
    | cons r t => exact .cons r (ih t)
theorem each_reads {X : Cx} {pins : List (Addr × Obj)} {σ : L2.St} {H : Hp} {s : Shared} (I : Inv X pins σ H s) {bs : List (V × D)} : ∀ {its : List Value}, Vals (bs.map (·.1)) its → (∀ b ∈ bs, Dp X.K H b.1 (toPy b.2)) → PySem.W.EachIs (fun (v : Value) (b : V × D) => ∃ as, Reads s.heap v (toPy b.2) as) its bs := by
  induction bs with
  | nil => intro its h _; cases h; exact .nil
  | cons b bs ih => intro its h hd; cases h with
    | cons r t => exact .cons (Dp.reads I _ _ _ (hd b List.mem_cons_self) r) (ih t fun c hc => hd c (List.mem_cons_of_mem _ hc))
theorem cr_sortD (hu : X.A.units + 64 < cLine) : CallR X (.builtin "sorted") (rSortD X.K) := by
  intro pins s σ H vs us Q I r h
  obtain ⟨a, bs, rfl, hs, hd, hal, hk, hL, hdep, q⟩ := h
  obtain ⟨its, rv, hl, hz⟩ := I.list hs
  obtain ⟨u, rfl, ru⟩ := vals1 r
  obtain rfl : u = Value.ref a := ru
  refine PySem.W.sorted_data (enc := fun b : V × D => toPy b.2) hl.isList (each_vals rv) (each_reads I rv hd) hal hk hL (fun b hb => ?_) fun out ho eo => ?_
  · have := hdep b hb
    show X.A.units + 2 + (toPy b.2).depth < cLine
    omega
  · have hv := vals_each eo
    have kp : ∀ b o, s.heap.get? b = some o → (sortedAll s.heap its (List.toArray out)).get? b = some o := fun b o => sortedAll_old
    have hd2 : s.heap.objs.size ≤ s.heap.objs.size + 1 := Nat.le_succ _
    obtain ⟨n, hn⟩ := sortedAll_at s.heap its out.toArray
    refine ⟨.ref (s.heap.objs.size + 1), _, I.laid (t' := s.toks) (o := .lst ((bs.mergeSort (PySem.W.dataLe false fun b => toPy b.2)).map (·.1))) kp hd2 ⟨?_, out, n, hv, hn⟩, rfl, q _ (I.hok.fresh hd2)⟩
    rw [List.length_map, List.length_mergeSort]
    exact hL
end
end DX

/-! DSrt2: what sorted(..) reckons; a pair turned about. -/
namespace DX
open PySem PySem.Spec L2 PyProof.Rows
def rowS : D → Bool
  | .tup [.str _, .tup ss] => (txts ss).isSome
  | _ => false
def rowD (d : D) : Bool := rowS d && okD 2 d
theorem rowS_form {d : D} (h : rowS d = true) : ∃ (x : Str) (xs : List Str), d = .tup [.str x, .tup (xs.map D.str)] := by
  unfold rowS at h
  split at h
  · rename_i x ss
    change (txts ss).isSome = true at h
    cases e : txts ss with
    | none => rw [e] at h; cases h
    | some xs => exact ⟨x, xs, by rw [txts_some e]⟩
  · cases h
theorem toPy_row (x : Str) (xs : List Str) : toPy (.tup [.str x, .tup (xs.map D.str)]) = .tuple [.str x, .tuple (xs.map PyData.str)] := by
  have q : toPyL (xs.map D.str) = xs.map PyData.str := by
    rw [toPyL_map, List.map_map]
    exact List.map_congr_left fun u _ => by simp [toPy]
  simp [toPy, toPyL, q]
theorem alike_strs : ∀ xs ys : List Str, PySem.W.alikeAll (xs.map PyData.str) (ys.map PyData.str) = true
  | [], _ => by simp [PySem.W.alikeAll]
  | _ :: _, [] => by simp [PySem.W.alikeAll]
  | x :: xs, y :: ys => by
    show PySem.W.alikeAll (.str x :: xs.map .str) (.str y :: ys.map .str) = true
    rw [PySem.W.alikeAll, alike_strs xs ys]
    simp [PySem.W.alike]
theorem alike_row (x y : Str) (xs ys : List Str) : PySem.W.alike (.tuple [.str x, .tuple (xs.map PyData.str)]) (.tuple [.str y, .tuple (ys.map PyData.str)]) = true := by
  simp [PySem.W.alike, PySem.W.alikeAll, alike_strs]
theorem depth_strs : ∀ xs : List Str, PyData.depthAll (xs.map .str) = 0
  | [] => by simp [PyData.depthAll]
  | x :: xs => by
    show PyData.depthAll (.str x :: xs.map .str) = 0
    rw [PyData.depthAll, depth_strs xs]
    simp [PyData.depth]
theorem depth_row (x : Str) (xs : List Str) : PyData.depth (.tuple [.str x, .tuple (xs.map PyData.str)]) ≤ 32 := by
  simp [PyData.depth, PyData.depthAll, depth_strs]
def keysS : List (Key × D) → Option (List Str)
  | [] => some []
  | (.inr x, _) :: r => (keysS r).map (x :: ·)
  | _ :: _ => none
theorem keysS_some : ∀ {kvs : List (Key × D)} {ks : List Str}, keysS kvs = some ks → kvs.map (·.1) = ks.map Sum.inr
  | [], ks, h => by cases h; rfl
  | (.inr x, _) :: r, ks, h => by
    unfold keysS at h
    cases hs : keysS r with
    | none => rw [hs] at h; cases h
    | some ys => rw [hs] at h; cases h; rw [List.map_cons, List.map_cons, keysS_some hs]
  | (.inl _, _) :: _, _, h => by cases h
def dSort2 : List D → Option D
  | [.lst ds] => match txts ds with
    | some xs => gd (xs.length < 64) (some (.lst ((sortStr xs).map D.str)))
    | none => gd (ds.all rowD = true ∧ ds.length ≤ 1000) (some (.lst (ds.mergeSort (PySem.W.dataLe false toPy))))
  | [.dK kvs] => bn1 (keysS kvs) fun ks => gd (ks.length < 64) (some (.lst ((sortStr ks).map D.str)))
  | _ => none
theorem sort2_lst (ds : List D) : dSort2 [.lst ds] = match txts ds with
    | some xs => gd (xs.length < 64) (some (.lst ((sortStr xs).map D.str)))
    | none => gd (ds.all rowD = true ∧ ds.length ≤ 1000) (some (.lst (ds.mergeSort (PySem.W.dataLe false toPy)))) := rfl
abbrev rSortKeys : List V → Hp → VK → Prop := fun xs H Q => ∃ (a : Addr) (kvs : List (Key × V)) (ks : List Str), xs = [.ref a] ∧ Rd H a (.dK kvs) ∧ kvs.map (·.1) = ks.map Sum.inr ∧ ks.length < 64 ∧
    ∀ ys p, ys.Perm ks → sortedS ys = true → H p = none → Q (.ref p) (upd H p (.lst (ys.map V.str)))
def rSort2 (K : PySem.W.Frag) : List V → Hp → VK → Prop := fun vs H Q => rSortedS K vs H Q ∨ (rSortKeys vs H Q ∨ rSortD K vs H Q)
theorem k_sort2 {X : Cx} (K : PySem.W.Frag) (hK : X.K = K) (hc : X.calm = true) (hu : X.A.units + 64 < cLine) : CallR X (.builtin "sorted") (rSort2 K) := by
  subst hK
  exact cr_sortedS.or ((call_sortedD hc).or (cr_sortD hu))
section
variable {G : Gm}
theorem rpL_zip {M : Addr → Prop} {H : Hp} : ∀ {vs : List V} {ds : List D}, RpL G M H vs ds → (vs.zip ds).map (·.1) = vs ∧ (vs.zip ds).map (·.2) = ds ∧ ∀ b ∈ vs.zip ds, Rp G M H b.1 b.2
  | _, _, .nil => ⟨rfl, rfl, fun _ h => by cases h⟩
  | _, _, .cons r t => by
    obtain ⟨h1, h2, h3⟩ := rpL_zip t
    refine ⟨by simp [h1], by simp [h2], fun b hb => ?_⟩
    rcases List.mem_cons.mp hb with z | z
    · rw [z]; exact r
    · exact h3 b z
theorem rpL_unzip {M : Addr → Prop} {H : Hp} : ∀ {bs : List (V × D)}, (∀ b ∈ bs, Rp G M H b.1 b.2) → RpL G M H (bs.map (·.1)) (bs.map (·.2))
  | [], _ => .nil
  | b :: bs, h => .cons (h b List.mem_cons_self) (rpL_unzip fun c hc => h c (List.mem_cons_of_mem _ hc))
theorem sim_nsort2 {ta : TA} {a : SA} (ha : SimA G ta a) : SimN G (tCB (rSort2 G.K) ta) (nB dSort2 a) := by
  intro φ M H C σ ρ d C' hE hs e Q hQ
  obtain ⟨ss, C1, h1, e⟩ := bnd_i e
  obtain ⟨ds, h2, e⟩ := bn1_i e
  obtain ⟨z, h3, e⟩ := bn1_i e
  cases e
  refine ha φ M H C σ ρ ss C' hE hs h1 _ fun xs H1 x1 s1 r1 => ?_
  cases r1 with
  | nil => simp [sees] at h2; subst h2; cases h3
  | cons r t =>
    unfold sees at h2
    obtain ⟨d1, h4, h2⟩ := bn1_i h2
    obtain ⟨ds1, h5, h2⟩ := bn1_i h2
    cases h2
    cases t with
    | cons r' t' =>
      unfold sees at h5
      obtain ⟨d2, _, h5⟩ := bn1_i h5
      obtain ⟨d3, _, h5⟩ := bn1_i h5
      cases h5
      cases d1 <;> cases h3
    | nil =>
      cases h5
      have rp := s1.see_rp r h4
      cases d1 with
      | lst xs0 =>
        rw [sort2_lst] at h3
        cases htx : txts xs0 with
        | some ys =>
          rw [htx] at h3
          obtain ⟨h7, h3⟩ := gd_i h3
          cases h3
          have e2 := txts_some htx
          subst e2
          cases rp with
          | lst nM rd hl rl =>
            have e3 := Rp.txts rl
            subst e3
            refine .inl ⟨_, ys, rfl, .inl rd, h7, fun zs p pz sz hp => ?_⟩
            have e4 := sort_one pz (sortedS_pw sz)
            subst e4
            have hl2 : ((sortStr ys).map V.str).length ≤ sizeLine := by
              rw [List.length_map, (sortStr_perm ys).length_eq]
              exact small_line (by omega)
            exact hQ p _ (x1.none_ hp) (x1.trans (Ext.laid hp)) (s1.laidM hp) (CelR.newL s1 hp hl2 (rpL_txts _))
        | none =>
          rw [htx] at h3
          obtain ⟨⟨h7, h8⟩, h3⟩ := gd_i h3
          cases h3
          rw [List.all_eq_true] at h7
          obtain ⟨aa, vs2, rfl, w1, w2, w3⟩ := s1.seeL r h4
          obtain ⟨z1, z2, z3⟩ := rpL_zip w3
          have form : ∀ b ∈ vs2.zip xs0, ∃ (x : Str) (ys : List Str), b.2 = .tup [.str x, .tup (ys.map D.str)] := fun b hb => by
            have m : b.2 ∈ xs0 := by rw [← z2]; exact List.mem_map.mpr ⟨b, hb, rfl⟩
            have q := h7 _ m
            unfold rowD at q
            rw [Bool.and_eq_true] at q
            exact rowS_form q.1
          have okb : ∀ b ∈ vs2.zip xs0, okD 2 b.2 = true := fun b hb => by
            have m : b.2 ∈ xs0 := by rw [← z2]; exact List.mem_map.mpr ⟨b, hb, rfl⟩
            have q := h7 _ m
            unfold rowD at q
            rw [Bool.and_eq_true] at q
            exact q.2
          refine .inr (.inr ⟨_, vs2.zip xs0, rfl, .inl (by rw [z1]; exact w1), fun b hb => (z3 b hb).dpS (shp_of (okb b hb) (by omega)), ?_, .inl ?_, ?_, ?_, fun p hp => ?_⟩)
          · intro d hd d' hd'
            obtain ⟨b, hb, rfl⟩ := List.mem_map.mp hd
            obtain ⟨b', hb', rfl⟩ := List.mem_map.mp hd'
            obtain ⟨x, ys, e1⟩ := form b hb
            obtain ⟨x', ys', e1'⟩ := form b' hb'
            rw [e1, e1', toPy_row, toPy_row]
            exact alike_row _ _ _ _
          · intro d hd
            obtain ⟨b, hb, rfl⟩ := List.mem_map.mp hd
            obtain ⟨x, ys, e1⟩ := form b hb
            rw [e1, toPy_row]
            exact ⟨_, _, rfl⟩
          · have : (vs2.zip xs0).length = xs0.length := by
              have q := congrArg List.length z2
              rwa [List.length_map] at q
            rw [this]
            exact small_line h8
          · intro b hb
            obtain ⟨x, ys, e1⟩ := form b hb
            rw [e1, toPy_row]
            exact depth_row _ _
          · have em : ((vs2.zip xs0).mergeSort (PySem.W.dataLe false fun b => toPy b.2)).map (·.2) = xs0.mergeSort (PySem.W.dataLe false toPy) := by
              have q := List.map_mergeSort (r := PySem.W.dataLe false fun b : V × D => toPy b.2) (s := PySem.W.dataLe false toPy) (f := fun b : V × D => b.2) (l := vs2.zip xs0) (fun a _ b _ => rfl)
              rw [z2] at q
              exact q
            have rl2 : RpL G M H1 (((vs2.zip xs0).mergeSort (PySem.W.dataLe false fun b => toPy b.2)).map (·.1)) (xs0.mergeSort (PySem.W.dataLe false toPy)) := by
              rw [← em]
              exact rpL_unzip fun b hb => z3 b ((List.mergeSort_perm _ _).mem_iff.mp hb)
            have hl2 : (((vs2.zip xs0).mergeSort (PySem.W.dataLe false fun b => toPy b.2)).map (·.1)).length ≤ sizeLine := by
              rw [rl2.length, List.length_mergeSort]
              exact small_line h8
            exact hQ p _ (x1.none_ hp) (x1.trans (Ext.laid hp)) (s1.laidM hp) (CelR.newL s1 hp hl2 rl2)
      | dK kvs =>
        obtain ⟨ys, h6, h3⟩ := bn1_i h3
        obtain ⟨h7, h3⟩ := gd_i h3
        cases h3
        have ek2 := keysS_some h6
        cases rp with
        | dK nM rd hl ek rl =>
          refine .inr (.inl ⟨_, _, ys, rfl, rd, by rw [ek, ek2], h7, fun zs p pz sz hp => ?_⟩)
          have e4 := sort_one pz (sortedS_pw sz)
          subst e4
          have hl2 : ((sortStr ys).map V.str).length ≤ sizeLine := by
            rw [List.length_map, (sortStr_perm ys).length_eq]
            exact small_line (by omega)
          exact hQ p _ (x1.none_ hp) (x1.trans (Ext.laid hp)) (s1.laidM hp) (CelR.newL s1 hp hl2 (rpL_txts _))
      | _ => cases h3
end
end DX

/-! DRev: a pair turned about. -/
namespace HT
open PySem PySem.Spec PyProof.Rows
section
variable {prog : Program} {w : World} {A : Around} {E : Value → Shared → Prop} {s : Shared}
theorem sliceApplied_back2 {sl : Addr} {vl vu vs : Value} {Q : Int × Int × Nat → Shared → Prop} (hs : s.heap.IsSliceOf sl vl vu vs) (pl : IsPart vl none) (pu : IsPart vu none) (ps : IsPart vs (some (-1)))
    (h : Q (1, -1, 2) s) : wpAny (model prog w) A (Builtin.Slice.sliceApplied (.ref sl) (pure (2 : Int))) Q E s := by
  obtain ⟨os, hos, hcs, hds⟩ := id hs
  unfold Builtin.Slice.sliceApplied Builtin.Slice.sliceFields
  refine wpAny_bind (wpAny_bind (wpAny_field hos hds (x := vl) rfl (wpAny_bind (wpAny_field hos hds (x := vu) rfl (wpAny_bind (wpAny_field hos hds (x := vs) rfl (wpAny_pure ?_)))))))
  refine wpAny_bind (slicePart_ ps ?_)
  show wpAny _ _ (if ((-1 : Int) == 0) = true then _ else _) _ _ s
  rw [if_neg (by decide)]
  refine wpAny_bind (slicePart_ pl (wpAny_bind (slicePart_ pu (wpAny_bind (wpAny_pure ?_)))))
  show wpAny _ _ (pure ((1 : Int), (-1 : Int), (2 : Nat))) _ _ s
  exact wpAny_pure h
theorem getItem_tuple_back2 {t sl : Addr} {x y vl vu vs : Value} {Q : Value → Shared → Prop} (ht : IsTup s.heap t #[x, y]) (hs : s.heap.IsSliceOf sl vl vu vs) (pl : IsPart vl none) (pu : IsPart vu none) (ps : IsPart vs (some (-1)))
    (h : Q (.ref s.heap.objs.size) { s with heap := s.heap.push { cls := .type "tuple", data := .seq #[y, x] } }) : wpAny (model prog w) A (getItem (.ref t) (.ref sl)) Q E s := by
  have htake : sizeOk (.seq #[y, x]) := by
    show 2 ≤ sizeLine
    decide
  obtain ⟨os, hos, hcs, hds⟩ := id hs
  have hTs : s.TypeIs (.ref sl) "slice" := ⟨os, hos, hcs⟩
  unfold getItem
  try with_reducible refine wpAny_holding ?_
  first | refine wpAny_bind (wpAny_pure ?_) | skip
  refine wpAny_bind (wpAny_sequenceKey ht.typeIs (by decide) ?_)
  refine wpAny_bind (wpAny_callSpecial?_slot (name := Str.ofString "__getitem__") ht.typeIs PyProof.Rows.slot_tuple_getitem
    (wpAny_call_entry PyProof.Rows.slot_tuple_getitem ht.typeIs entry_tuple_getitem ?_ (args_tuple_getitem _ _)))
  show wpAny _ _ (Builtin.Tuple.tupleItemsOf (.ref t) >>= _) _ _ s
  refine wpAny_bind (tupleItemsOf_ ht ?_)
  refine wpAny_bind (wpAny_typeOf hTs ?_)
  rw [if_pos (by decide)]
  refine wpAny_bind (sliceApplied_back2 hs pl pu ps ?_)
  show wpAny _ _ (if ((1 : Int) == 0 && (-1 : Int) == 1 && (2 : Nat) == 2) = true then _ else _) _ _ s
  rw [if_neg (by decide)]
  first
    | exact wpAny_bind (m := Builtin.Tuple.tupleExact _) (wpAny_newObj_type (wpAny_pure ⟨_, rfl, wpAny_pure h⟩) htake)
    | exact wpAny_bind (m := Builtin.Tuple.tupleExact _) (wpAny_newObj_type (wpAny_bind (wpAny_pure (wpAny_pure ⟨_, rfl, wpAny_pure h⟩))) htake)
    | exact wpAny_bind (wpAny_bind (m := Builtin.Tuple.tupleExact _) (wpAny_newObj_type (wpAny_pure (wpAny_pure ⟨_, rfl, wpAny_pure h⟩)) htake))
    | exact wpAny_bind (wpAny_bind (m := Builtin.Tuple.tupleExact _) (wpAny_newObj_type (wpAny_pure ⟨_, rfl, wpAny_pure h⟩) htake))
end
end HT
namespace DX
open PySem PySem.Spec L2 PyProof.Rows
/-- t[::-1], t a pair -/
def tBack2 (K : PySem.W.Frag) (te : TE) : TE := fun σ H Q => te σ H fun x H1 => ∃ a y z, x = .ref a ∧ SqT K H1 a [y, z] ∧ ∀ p, H1 p = none → Q (.ref p) (upd H1 p (.tup [z, y]))
theorem pe_back2 {X : Cx} {e : Expr} {te : TE} {k : Nat} {p1 p2 p3 pos : Pos} (K : PySem.W.Frag) (hK : X.K = K) (he : PE X e te) : PE X (.Subscript e (.Slice none none (some (.UnaryOp .USub (.Constant (.int 1) k p1) p2)) p3) pos) (tBack2 K te) := by
  subst hK
  refine ⟨fun pins s σ H Q I h => ?_⟩
  refine Subscript_ (thn (he.run pins s σ H _ I h) fun v s1 ⟨x, H1, I1, r1, q1⟩ => ?_)
  obtain ⟨a, y, z, ex, hx, q⟩ := q1
  subst ex
  cases r1
  have hst : PO X (some (.UnaryOp .USub (.Constant (.int 1) k p1) p2)) (tPart (tUn (rU fun i => .int (-i)) (tC (.int 1)))) := po_some (pe_un un_neg pe_int)
  refine wpAny_Slice (thn (po_none.run pins s1 σ H1 (fun o H2 => o = none ∧ H2 = H1) I1 ⟨rfl, rfl⟩) fun vl s2 ⟨l, H2, I2, pl, el, e2⟩ => ?_)
  subst el e2
  refine thn (po_none.run pins s2 σ H2 (fun o H3 => o = none ∧ H3 = H2) I2 ⟨rfl, rfl⟩) fun vu s3 ⟨u, H3, I3, pu, eu, e3⟩ => ?_
  subst eu e3
  refine thn (hst.run pins s3 σ H3 (fun o H4 => o = some (-1) ∧ H4 = H3) I3 ⟨1, rfl, -1, rfl, rfl, rfl⟩) fun vs s4 ⟨o, H4, I4, ps, eo, e4⟩ => ?_
  subst eo e4
  have I5 : Inv X pins σ H4 { s4 with heap := s4.heap.push { cls := .type "slice", data := .fields #[vl, vu, vs] } } := I4.kept (t' := s4.toks) fun b ob q => Heap.get?_push_of_some _ q
  obtain ⟨its, r, ht, hz⟩ := I5.tuple hx
  obtain ⟨u1, u2, rfl, ry, rz⟩ := vals2 r
  show wpAny (model X.prog X.w) X.A (subscriptTail e (.Slice none none (some (.UnaryOp .USub (.Constant (.int 1) k p1) p2)) p3) (.ref a) (.ref s4.heap.objs.size)) (EP X pins σ Q) X.xe { s4 with heap := s4.heap.push { cls := .type "slice", data := .fields #[vl, vu, vs] } }
  refine tail_any (ops := [.ref a, .ref s4.heap.objs.size]) ht.typeIs (PyProof.Rows.slot_tuple_getitem.lookup) ?_ (by with_unfolding_all rfl)
  refine HT.getItem_tuple_back2 ht (Heap.IsSliceOf.new _ vl vu vs) pl pu ps ?_
  refine ⟨.ref _, _, I5.laid (t' := s4.toks) (o := .tup [z, y]) (fun b ob q => Heap.get?_push_of_some _ q) (Nat.le_refl _) ?_, rfl, q _ (I5.hok.fresh (Nat.le_refl _))⟩
  exact ⟨show 2 ≤ sizeLine by decide, [u2, u1], .cons rz (.cons ry .nil), _, Heap.get?_push_size _ rfl, rfl, ⟨0, rfl⟩⟩
end DX
namespace DX
open PySem PySem.Spec L2 PyProof.Rows
section
variable {G : Gm}
def eBack2 (f : SE) : SE := fun ρ C => bnd (f ρ C) fun v C1 => bn1 (see C1 v) fun d => match d with
  | .tup [y, z] => some (.dat (.tup [z, y]), C1)
  | _ => none
theorem sim_back2 {te : TE} {f : SE} (hf : SimE G te f) : SimE G (tBack2 G.K te) (eBack2 f) := by
  intro φ M H C σ ρ s C' he hs e Q hQ
  obtain ⟨v, C1, h1, e⟩ := bnd_i e
  obtain ⟨d, h2, e⟩ := bn1_i e
  refine hf φ M H C σ ρ v C1 he hs h1 _ fun x H1 x1 s1 r1 => ?_
  cases d with
  | tup ds =>
    match ds, h2, e with
    | [y, z], h2, e =>
      cases e
      obtain ⟨a, vs, rfl, t1, l, r⟩ := s1.seeT r1 h2
      cases r with
      | @cons vy _ _ _ ry rt =>
        cases rt with
        | @cons vz _ _ _ rz rn =>
          cases rn
          refine ⟨a, vy, vz, rfl, t1.sq, fun p hp => ?_⟩
          have x2 : Ext φ H1 (upd H1 p (.tup [vz, vy])) := Ext.laid hp
          exact hQ _ _ (x1.trans x2) (s1.laid hp) (.tup ⟨s1.nm hp, upd_same⟩ (show 2 ≤ sizeLine by decide) ((RpL.cons rz (RpL.cons ry RpL.nil)).keeps (x2.keeps s1.sub)))
    | [], _, e => cases e
    | [_], _, e => cases e
    | _ :: _ :: _ :: _, _, e => cases e
  | _ => cases e
/-- a number that the program's top keeps -/
theorem pe_gint {X : Cx} {x : Str} {i : Int} {p : Pos} (hg : Gl X x) (hm : ∃ t, X.mg x = some (.int i t)) (hd : (x == ("__debug__" : Str)) = false := by decide) : PE X (.Name x p) (tC (.int i)) := by
  obtain ⟨t, h⟩ := hm
  exact pe_glob hg h ⟨t, rfl⟩ hd
end
end DX
namespace DX
open PySem PySem.Spec L2 PyProof.Rows
section
variable {G : Gm}
theorem sim_spar3 {i j l : Nat} {ta : TA} {a : SA} (ha : SimAg G ta a) : SimS G (tPar3 i j l ta) (sMul [i, j, l] a) := by
  intro φ M H C σ ρ o C' hE hs e Dd hD
  obtain ⟨ss, C1, h1, e⟩ := bnd_i e
  obtain ⟨hl, e⟩ := gd_i e
  cases e
  refine ha φ M H C σ ρ ss C' hE hs h1 _ fun vs φ' M' H1 g1 s1 r1 => ?_
  cases r1 with
  | nil => simp at hl
  | cons r t =>
    cases t with
    | nil => simp at hl
    | cons r2 t =>
      cases t with
      | nil => simp at hl
      | cons r3 t =>
        cases t with
        | cons _ _ => simp at hl
        | nil =>
          exact ⟨_, _, _, rfl, hD φ' M' _ H1 g1 ((((hE.grow g1 hs.sub).set i r).set j r2).set l r3) s1⟩
end
end DX

/-! DObj: objects of own classes: fields, methods, making; dict comprehensions. -/
namespace DX
open PySem PySem.Spec L2 PyProof.Rows
abbrev gc (K : PySem.W.Frag) (C : Addr) : Gm := ⟨K, fun _ => C⟩
def putD (f : Str) (z : D) : List (Str × D) → List (Str × D)
  | [] => [(f, z)]
  | (g, x) :: r => if g = f then (g, z) :: r else (g, x) :: putD f z r
section
variable {G : Gm}
theorem StR.seeI {φ : List Addr} {M : Addr → Prop} {H : Hp} {C : Store} {x : V} {s : Sv} {c : Str} {ds : List (Str × D)} (st : StR G φ M H C) (r : SvR G φ M H x s) (e : see C s = some (.ins c ds)) :
    ∃ a dx fs, x = .ref a ∧ H a = some (.ins (G.cls c) dx fs) ∧ fs.map (·.1) = ds.map (·.1) ∧ RpL G M H (fs.map (·.2)) (ds.map (·.2)) := by
  rcases st.see_rd r e with ⟨_, h⟩ | ⟨n, a, c', _, rfl, _, _, hu, h⟩
  · cases h with
    | ins _ _ h1 _ e1 rl => exact ⟨_, _, _, rfl, h1, e1, rl⟩
  · cases c' with
    | ins c2 ds' =>
      cases hu
      obtain ⟨dx, fs, _, h1, _, e1, rl⟩ := h
      exact ⟨a, dx, fs, rfl, h1, e1, rl⟩
    | lk d =>
      have hu' : D.ins c ds = d := hu
      subst hu'
      exact h.elim
    | _ => cases hu
theorem lookup_rel {M : Addr → Prop} {H : Hp} {f : Str} : ∀ {fs : List (Str × V)} {ds : List (Str × D)} {z : D}, fs.map (·.1) = ds.map (·.1) → RpL G M H (fs.map (·.2)) (ds.map (·.2)) → ds.lookup f = some z → ∃ v, fs.lookup f = some v ∧ Rp G M H v z
  | [], [], _, _, _, h => by cases h
  | [], _ :: _, _, e, _, _ => by simp at e
  | _ :: _, [], _, e, _, _ => by simp at e
  | (g, v) :: fs, (g', d) :: ds, z, e, r, h => by
    simp only [List.map_cons, List.cons.injEq] at e
    obtain ⟨rfl, e⟩ := e
    cases r with
    | cons r t =>
      rw [List.lookup_cons] at h ⊢
      cases q : f == g with
      | true => rw [q] at h; cases h; exact ⟨v, rfl, r⟩
      | false => rw [q] at h; exact lookup_rel e t h
theorem lookup_none {f : Str} : ∀ {fs : List (Str × V)} {ds : List (Str × D)}, fs.map (·.1) = ds.map (·.1) → ds.lookup f = none → fs.lookup f = none
  | [], _, _, _ => rfl
  | _ :: _, [], e, _ => by simp at e
  | (g, v) :: fs, (g', d) :: ds, e, h => by
    simp only [List.map_cons, List.cons.injEq] at e
    obtain ⟨rfl, e⟩ := e
    rw [List.lookup_cons] at h ⊢
    cases q : f == g with
    | true => rw [q] at h; cases h
    | false => rw [q] at h; exact lookup_none e h
theorem putF_rel {M : Addr → Prop} {H : Hp} {f : Str} {v : V} {z : D} (r : Rp G M H v z) : ∀ {fs : List (Str × V)} {ds : List (Str × D)}, fs.map (·.1) = ds.map (·.1) → RpL G M H (fs.map (·.2)) (ds.map (·.2)) → (putF f v fs).map (·.1) = (putD f z ds).map (·.1) ∧ RpL G M H ((putF f v fs).map (·.2)) ((putD f z ds).map (·.2))
  | [], [], _, _ => ⟨rfl, .one r⟩
  | [], _ :: _, e, _ => by simp at e
  | _ :: _, [], e, _ => by simp at e
  | (g, x) :: fs, (g', d) :: ds, e, rl => by
    simp only [List.map_cons, List.cons.injEq] at e
    obtain ⟨rfl, e⟩ := e
    cases rl with
    | cons r0 t =>
      unfold putF putD
      by_cases q : g = f
      · rw [if_pos q, if_pos q]
        exact ⟨by simp [e], .cons r t⟩
      · rw [if_neg q, if_neg q]
        obtain ⟨h1, h2⟩ := putF_rel r e t
        exact ⟨by simp [h1], .cons r0 h2⟩
theorem putD_len (f : Str) (z : D) : ∀ ds : List (Str × D), (putD f z ds).length ≤ ds.length + 1
  | [] => by simp [putD]
  | (g, x) :: r => by
    unfold putD
    have := putD_len f z r
    split <;> simp <;> omega

/-! ### o.f -/
def eFld (c0 f : Str) (g : SE) : SE := fun ρ C => bnd (g ρ C) fun v C1 => bn1 (see C1 v) fun d => match d with
  | .ins c fs => gd (c = c0) (bn1 (fs.lookup f) fun z => some (.dat z, C1))
  | _ => none
theorem k_fld {X : Cx} {e : Expr} {ta : TE} {f : Str} {pos : Pos} (K : PySem.W.Frag) (hK : X.K = K) (he : PE X e ta) (hb : attributeBase e f X.env (eval e X.env) = eval e X.env := by rfl) : PE X (.Attribute e f pos) (tFld K ta f) := by
  subst hK
  exact pe_fld he hb
theorem sim_fld {c0 f : Str} {ta : TE} {g : SE} (cl : Cls G.K (G.cls c0)) (na : NoAttr G.K (G.cls c0) f) (hg : SimE G ta g) : SimE G (tFld G.K ta f) (eFld c0 f g) := by
  intro φ M H C σ ρ s C' he hs e Q hQ
  obtain ⟨v, C1, h1, e⟩ := bnd_i e
  obtain ⟨d, h2, e⟩ := bn1_i e
  refine hg φ M H C σ ρ v C1 he hs h1 _ fun x H1 x1 s1 r1 => ?_
  cases d with
  | ins c ds =>
    obtain ⟨hc0, e2⟩ := gd_i e
    subst hc0
    obtain ⟨z, h3, e3⟩ := bn1_i e2
    cases e3
    obtain ⟨a, dx, fs, rfl, ha, ek, rl⟩ := s1.seeI r1 h2
    obtain ⟨u, hu, ru⟩ := lookup_rel ek rl h3
    exact ⟨a, G.cls c, dx, fs, u, rfl, ha, cl, na, hu, hQ u H1 x1 s1 ru⟩
  | _ => cases e
/-- .. of data, for walks -/
theorem simp_fld {c0 f : Str} {ta : TE} {g : SE} (cl : Cls G.K (G.cls c0)) (na : NoAttr G.K (G.cls c0) f) (hg : SimP G ta g) : SimP G (tFld G.K ta f) (fun ρ C => bnd (g ρ C) fun v C1 => match v with | .dat (.ins c fs) => gd (c = c0) (bn1 (fs.lookup f) fun z => some (.dat z, C1)) | _ => none) := by
  intro φ M H C σ ρ x C' he hs e
  obtain ⟨v, C1, h1, e⟩ := bnd_i e
  cases v with
  | cel n => cases e
  | dat d =>
    cases d with
    | ins c ds =>
      obtain ⟨hc0, e2⟩ := gd_i e
      subst hc0
      obtain ⟨z, h3, e3⟩ := bn1_i e2
      cases e3
      obtain ⟨rfl, u, ru, q0, q1⟩ := hg φ M H C σ ρ _ C' he hs h1
      cases ru with
      | ins n n' h h' ek rl =>
        obtain ⟨w, hw, rw⟩ := lookup_rel ek rl h3
        refine ⟨rfl, w, rw, fun Q q => q0 _ ⟨_, G.cls c, _, _, w, rfl, h, cl, na, hw, q⟩, fun dd H' sw Q q => q1 dd H' sw _ ⟨_, G.cls c, _, _, w, rfl, sw.keep h (fun z => z) (by intro _ _ z; cases z), cl, na, hw, q⟩⟩
    | _ => cases e

/-! ### o.f = value -/
def sFldS (c0 f : Str) (o e : SE) : SS := fun ρ C => bnd (e ρ C) fun v C1 => bn1 (datOf v) fun z => bnd (o ρ C1) fun w C2 => match w with
  | .cel n => bn1 (C2[n]?) fun d => match d with
    | .ins c ds => gd (c = c0 ∧ ds.length < 1000) (some (.nx ρ, C2.set n (.ins c (putD f z ds))))
    | _ => none
  | _ => none
theorem sim_sfld {c0 f : Str} {ta tv : TE} {o e : SE} (cl : Cls G.K (G.cls c0)) (na : NoAttr G.K (G.cls c0) f) (ho : SimE G ta o) (hv : SimE G tv e) : SimS G (sFld G.K ta tv f) (sFldS c0 f o e) := by
  intro φ M H C σ ρ r C' hE hs h Dd hD
  obtain ⟨v, C1, h1, h⟩ := bnd_i h
  obtain ⟨z, h2, h⟩ := bn1_i h
  obtain ⟨w, C2, h3, h⟩ := bnd_i h
  refine hv φ M H C σ ρ v C1 hE hs h1 _ fun y H1 x1 s1 r1 => ?_
  refine ho φ M H1 C1 σ ρ w C2 (hE.ext x1 hs.sub) s1 h3 _ fun x H2 x2 s2 r2 => ?_
  cases w with
  | dat d => cases h
  | cel n =>
    obtain ⟨d, h4, h⟩ := bn1_i h
    cases d with
    | ins c ds =>
      obtain ⟨⟨hc0, hl⟩, h5⟩ := gd_i h
      subst hc0
      cases h5
      obtain ⟨a, hφ, rfl⟩ := r2
      obtain ⟨dx, fs, nd, ha, hdx, ek, rl⟩ := s2.cel n _ a h4 hφ
      have haφ : a ∈ φ := List.mem_of_getElem? hφ
      have lf : fs.length = ds.length := by simpa using congrArg List.length ek
      cases v with
      | cel m => cases h2
      | dat z' =>
        cases h2
        have rz : Rp G M H2 y z := (r1.ext x2 hs.sub : SvR G φ M H2 y (.dat z))
        obtain ⟨p1, p2⟩ := putF_rel (f := f) rz ek rl
        refine ⟨a, G.cls c, dx, fs, rfl, ha, cl, na, by omega, ?_⟩
        have hne : dx ≠ a := fun q => nd (by rw [q]; exact s2.sub a haφ)
        have kw : Keeps M M H2 (upd H2 a (.ins (G.cls c) dx (putF f y fs))) := keepsW (s2.sub a haφ)
        have cw : CelR G M (upd H2 a (.ins (G.cls c) dx (putF f y fs))) a (.ins c (putD f z ds)) := ⟨dx, _, nd, upd_same, by rw [upd_ne hne]; exact hdx, p1, p2.keeps kw⟩
        have xx : Ext φ H (upd H2 a (.ins (G.cls c) dx (putF f y fs))) := (x1.trans x2).trans (Ext.wrote haφ)
        exact hD φ M _ _ xx.grow (hE.ext xx hs.sub) (wrote_ok s2 hφ cw)
    | _ => cases h

/-! ### o.m(..) -/
structure ClM (P : Program) (w : World) (K : PySem.W.Frag) (mg : Str → Option Value) (base : Heap) (k : Nat) (C : Addr) (m : Str) (ps : List Str) (sp : Sp) : Prop where
  ex : ∃ (f : Addr) (fd : FuncData), FnOk P w K mg base CX0 k f fd ps sp ∧ Meth K C m f ∧ Binds K fd ps []
theorem pe_cm {X : Cx} {k j : Nat} {m : Str} {C : Addr} {ps : List Str} {sp : Sp} {apos pos : Pos} {o e : Expr} {es : List Expr} {ta : TE} {t : TA} {pl : Sem Bool} (c : ClM X.prog X.w X.K X.mg X.base k C m ps sp) (cl : Cls X.K C) (hr : Room j X.A) (hk : k ≤ j) (he : PE X o ta) (ha : PA X (e :: es) t)
    (hst : starEach (e :: es) X.env = (false, eval e X.env) :: starEach es X.env := by rfl) (hpl : (backTo pos (starEach es X.env)).any (·.1) = false := by rfl)
    (ht : eval (.Call (.Attribute o m apos) (e :: es) [] pos) X.env = (do
      let ov ← eval o X.env
      standAt apos.atName
      let (f, first) ← holding [ov] (getMethod ov m pl)
      callWith pos f first (backTo pos (starEach (e :: es) X.env)) (backToKw pos (keywordEach [] X.env))) := by rfl) :
    PE X (.Call (.Attribute o m apos) (e :: es) [] pos) (tMeth C m sp [] E0 ta t) := by
  obtain ⟨f, fd, F, hm, b⟩ := c.ex
  exact pe_meth he cl hm F (hr.mono hk) b .nil pass0 ha hst hpl ht
def eMeth (c0 m : Str) (np : Nat) (F : FE) (o : SE) (a : SA) : SE := fun ρ C => bnd (o ρ C) fun v C1 => bn1 (see C1 v) fun d => match d with
  | .ins c fs => gd (c = c0 ∧ (fs.lookup m).isNone = true) (bnd (a ρ C1) fun ss C2 => gd (ss.length + 1 = np) (F (v :: ss) C2))
  | _ => none
theorem sim_meth {c0 m : Str} {np : Nat} {F : FE} {E : XK} {to : TE} {ta : TA} {o : SE} {a : SA} (ho : SimE G to o) (ha : SimA G ta a) : SimE G (tMeth (G.cls c0) m (spE G np F) [] E to ta) (eMeth c0 m np F o a) := by
  intro φ M H C σ ρ s C' hE hs e Q hQ
  obtain ⟨v, C1, h1, e⟩ := bnd_i e
  obtain ⟨d, h2, e⟩ := bn1_i e
  refine ho φ M H C σ ρ v C1 hE hs h1 _ fun x H1 x1 s1 r1 => ?_
  cases d with
  | ins c ds =>
    obtain ⟨⟨hc0, hn⟩, e2⟩ := gd_i e
    subst hc0
    obtain ⟨ss, C2, h3, e3⟩ := bnd_i e2
    obtain ⟨hl, e4⟩ := gd_i e3
    obtain ⟨p, dx, fs, rfl, hp, ek, rl⟩ := s1.seeI r1 h2
    refine ⟨p, dx, fs, rfl, hp, lookup_none ek (Option.isNone_iff_eq_none.mp hn), ?_⟩
    refine ha φ M H1 C1 σ ρ ss C2 (hE.ext x1 hs.sub) s1 h3 _ fun vs H2 x2 s2 r2 => ?_
    exact ⟨φ, M, C2, v :: ss, s, C', s2, by rw [List.append_nil]; exact .cons (r1.ext x2 hs.sub) r2, by rw [List.append_nil, List.length_cons, r2.length, hl], e4, fun u H' x3 s3 r3 => hQ u H' ((x1.trans x2).trans x3) s3 r3⟩
  | _ => cases e

/-! ### C(..) -/
structure ClI (P : Program) (w : World) (K : PySem.W.Frag) (mg : Str → Option Value) (base : Heap) (k : Nat) (x : Str) (C : Addr) (ps : List Str) (sp : Sp) : Prop where
  ex : ∃ (f : Addr) (fd : FuncData), FnOk P w K mg base CX0 k f fd ps sp ∧ Mk K C f ∧ mg x = some (.ref C) ∧ Binds K fd ps []
theorem pe_mk {X : Cx} {k j : Nat} {x : Str} {C : Addr} {ps : List Str} {sp : Sp} {p pos : Pos} {e : Expr} {es : List Expr} {t : TA} (c : ClI X.prog X.w X.K X.mg X.base k x C ps sp) (hr : Room j X.A) (hk : k + 1 ≤ j) (hg : Gl X x) (ha : PA X (e :: es) t)
    (hdb : (x == ("__debug__" : Str)) = false := by decide) (he : starEach (e :: es) X.env = (false, eval e X.env) :: starEach es X.env := by rfl) (hpl : (backTo pos (starEach es X.env)).any (·.1) = false := by rfl) :
    PE X (.Call (.Name x p) (e :: es) [] pos) (tMake C sp [] E0 t) := by
  obtain ⟨f, fd, F, M, hm, b⟩ := c.ex
  exact pe_make M F (hr.mono hk) hg hm b .nil pass0 ha hdb he hpl
def nMk (c0 : Str) (np : Nat) (F : FE) (a : SA) : SN := fun ρ C => bnd (a ρ C) fun ss C1 => gd (ss.length + 1 = np) (bnd (F (.cel C1.length :: ss) (C1 ++ [.ins c0 []])) fun s C2 => match s with
  | .dat .non => bn1 (C2[C1.length]?) fun d => some (d, C2.take C1.length)
  | _ => none)
theorem sim_mk {c0 : Str} {np : Nat} {F : FE} {E : XK} {ta : TA} {a : SA} (ha : SimA G ta a) : SimN G (tMake (G.cls c0) (spE G np F) [] E ta) (nMk c0 np F a) := by
  intro φ M H C σ ρ d C' hE hs e Q hQ
  obtain ⟨ss, C1, h1, e⟩ := bnd_i e
  obtain ⟨hl, e⟩ := gd_i e
  obtain ⟨s, C2, h2, e⟩ := bnd_i e
  refine ha φ M H C σ ρ ss C1 hE hs h1 _ fun vs H1 x1 s1 r1 => ?_
  intro x dx hx hdx hne
  have hdx' : upd H1 dx (.own x) x = none := by rw [upd_ne (fun z => hne z.symm)]; exact hx
  have sa := s1.laid (o := .own x) hdx
  have sb := sa.laidM (o := .ins (G.cls c0) dx []) hdx'
  have nMx : ¬ M x := s1.nm hx
  have nMd : ¬ (M dx ∨ dx = x) := fun z => by
    rcases z with z | z
    · exact s1.live dx z hdx
    · exact hne z
  have cx : CelR G (fun a => M a ∨ a = x) (upd (upd H1 dx (.own x)) x (.ins (G.cls c0) dx [])) x (.ins c0 []) := ⟨dx, [], nMd, upd_same, by rw [upd_ne hne]; exact upd_same, rfl, .nil⟩
  have sc := alloc_ok sb s1.sub nMx cx
  have x2 : Ext φ H1 (upd (upd H1 dx (.own x)) x (.ins (G.cls c0) dx [])) := (Ext.laid hdx).trans (Ext.laid hdx')
  have g2 : Grow φ M H1 (φ ++ [x]) (fun a => M a ∨ a = x) (upd (upd H1 dx (.own x)) x (.ins (G.cls c0) dx [])) := alloc_grow x2 hx
  have hat : (φ ++ [x])[C1.length]? = some x := by rw [← s1.len]; exact List.getElem?_concat_length
  refine ⟨φ ++ [x], _, C1 ++ [.ins c0 []], .cel C1.length :: ss, s, C2, sc, by rw [List.append_nil]; exact .cons ⟨x, hat, rfl⟩ (r1.grow g2 s1.sub), by rw [List.append_nil, List.length_cons, r1.length, hl], h2, fun v H' x3 s3 r3 => ?_⟩
  cases s with
  | cel n => cases e
  | dat ds =>
    cases ds with
    | non =>
      obtain ⟨d', h4, e⟩ := bn1_i e
      cases e
      cases r3
      refine ⟨rfl, ?_⟩
      have l3 := s3.len
      have xk : Ext φ H1 H' := ⟨fun b u hb hn => by
        have hbx : b ≠ x := fun z => by rw [z, hx] at hb; cases hb
        exact x3.keep b u (x2.keep b u hb hn) (fun z => by
          rcases List.mem_append.mp z with z | z
          · exact hn z
          · exact hbx (by simpa using z)), fun b hb => x3.live b (x2.live b hb)⟩
      have s4 : StR G φ (fun a => M a ∨ a = x) H' (C2.take C1.length) := by
        refine ⟨?_, s1.nd, fun b hb => .inl (s1.sub b hb), s3.live, fun n e b q1 q2 => ?_, s3.mt⟩
        · rw [List.length_take, ← l3, List.length_append, s1.len]
          simp
        · have hb : n < φ.length := (List.getElem?_eq_some_iff.mp q2).1
          rw [List.getElem?_take_of_lt (by rw [← s1.len]; exact hb)] at q1
          exact s3.cel n e b q1 (by rw [List.getElem?_append_left hb]; exact q2)
      exact hQ x H' (x1.none_ hx) (x1.trans xk) s4 (s3.cel C1.length d x h4 hat)
    | _ => cases e

/-! ### {k: v for ..} -/
def dcompL (cels : List (Nat × D)) (b : D → Env → Option Env) (tt : ST) (tk te : SE) (ρ : Env) : List D → List (Key × D) → Store → Option (List (Key × D) × Store)
  | [], acc, C => gd (stays C cels = true) (some (acc, C))
  | d :: ds, acc, C => gd (stays C cels = true) (bn1 (b d ρ) fun ρ1 => bnd (tt ρ1 C) fun k C1 =>
      if k = true then bnd (tk ρ1 C1) fun w C2 => bn1 (datOf w) fun kd => bn1 (dKey kd) fun kk => bnd (te ρ1 C2) fun v C3 => bn1 (datOf v) fun z => dcompL cels b tt tk te ρ ds (dPut acc kk z) C3
      else dcompL cels b tt tk te ρ ds acc C1)
def nDc (si : SI) (b : D → Env → Option Env) (tt : ST) (tk te : SE) (vs : List Nat) : SN := fun ρ C => bnd (si ρ C) fun src C1 => gd (src.items.length ≤ sizeLine) (bnd (dcompL src.cels b tt tk te (wipeE ρ vs) src.items [] C1) fun kvs C2 => some (.dK kvs, C2))
theorem putK_len {κ α : Type} [DecidableEq κ] (kvs : List (κ × V)) (k : κ) (v : V) : (putK kvs k v).length ≤ kvs.length + 1 := by
  unfold putK
  split <;> simp
theorem dc_by {J : It} {n : Nat} {g : TG} {tt : TT} {tk te : TE} {vs : List Nat} {σ : L2.St} {H1 : Hp} {Dn : Addr} {Qd : Hp → Prop} (Pv : Nat → Hp → Prop) (h0 : Pv 0 (upd H1 Dn (.dK [])))
    (hs : ∀ i H, i < n → Pv i H → J.go i H ∧ ∀ x H', J.yld i H x H' → g x (L2.wipe σ vs) H' fun σ2 H2 => L2.wipe σ2 vs = L2.wipe σ vs ∧ tt σ2 H2 fun b H3 =>
      if b = true then tk σ2 H3 fun y H4 => te σ2 H4 fun z H5 => ∃ kvs k, y = kV k ∧ H5 Dn = some (.dK kvs) ∧ kvs.length < sizeLine ∧ Pv (i + 1) (upd H5 Dn (.dK (putK kvs k z))) else Pv (i + 1) H3) (hd : ∀ H, Pv n H → J.stop n H ∧ Qd H) :
    ∃ W : Nat → Nat → Hp → Prop, (∃ m, W 0 m (upd H1 Dn (.dK []))) ∧ ∀ i m H, W i m H →
      (J.stop i H ∧ Qd H) ∨ (J.go i H ∧ ∃ Nx : Hp → Prop, (∀ H', Nx H' → ∃ m', m' < m ∧ W (i + 1) m' H') ∧ ∀ x H', J.yld i H x H' → g x (L2.wipe σ vs) H' fun σ2 H2 => L2.wipe σ2 vs = L2.wipe σ vs ∧ tt σ2 H2 fun b H3 =>
        if b = true then tk σ2 H3 fun y H4 => te σ2 H4 fun z H5 => ∃ kvs k, y = kV k ∧ H5 Dn = some (.dK kvs) ∧ kvs.length < sizeLine ∧ Nx (upd H5 Dn (.dK (putK kvs k z))) else Nx H3) := by
  refine ⟨fun i m H => m = n - i ∧ i ≤ n ∧ Pv i H, ⟨n, by simp, Nat.zero_le _, h0⟩, fun i m H ⟨hm, hi, p⟩ => ?_⟩
  subst hm
  by_cases hlt : i < n
  · obtain ⟨a, b⟩ := hs i H hlt p
    exact .inr ⟨a, Pv (i + 1), fun H' p' => ⟨n - (i + 1), by omega, rfl, hlt, p'⟩, b⟩
  · have e : i = n := by omega
    subst e
    exact .inl (hd H p)
theorem sim_ndc {wi : TI} {g : TG} {tt : TT} {tk te : TE} {vs ws : List Nat} {si : SI} {b : D → Env → Option Env} {ft : ST} {fk fe : SE} (hI0 : SimI G wi si) (hG : SimG G g b ws) (hw : ∀ i ∈ ws, i ∈ vs) (hT : SimT G tt ft) (hK : SimE G tk fk) (hE' : SimE G te fe) :
    SimN G (tDc wi g tt tk te vs) (nDc si b ft fk fe vs) := by
  intro φ M H C σ ρ d C' hE hs e Q hQ
  obtain ⟨src, C1, h1, e⟩ := bnd_i e
  obtain ⟨hlen, e⟩ := gd_i e
  obtain ⟨zs, C2, h2, e⟩ := bnd_i e
  cases e
  refine hI0 φ M H C σ ρ src C1 hE hs h1 _ fun J H1 x1 s1 itr => fun Dn hD => ?_
  have hDφ : Dn ∉ φ := fun z => s1.live _ (s1.sub _ z) hD
  refine dc_by (n := src.items.length) (fun i H' => ∃ Ci acc accV, StR G φ (fun a => M a ∨ a = Dn) H' Ci ∧ Grow φ M H1 φ (fun a => M a ∨ a = Dn) H' ∧ H' Dn = some (.dK accV) ∧ accV.map (·.1) = acc.map (·.1) ∧ RpL G (fun a => M a ∨ a = Dn) H' (accV.map (·.2)) (acc.map (·.2)) ∧ accV.length ≤ i ∧
      dcompL src.cels b ft fk fe (wipeE ρ vs) (src.items.drop i) acc Ci = some (zs, C')) ⟨C1, [], [], s1.laidM hD, ?_, upd_same, rfl, .nil, Nat.le_refl _, by simpa using h2⟩ (fun i H' hlt ⟨Ci, acc, accV, s', g', hDv, ek, rv, hacc, hc⟩ => ?_) (fun H' ⟨Ci, acc, accV, s', g', hDv, ek, rv, hacc, hc⟩ => ?_)
  · refine ⟨⟨[], by simp, fun _ h => by cases h⟩, fun a u e _ => by rw [upd_ne (ne_of_none e hD)]; exact e, fun a h => ?_, fun _ h => .inl h, fun a h => ?_⟩
    · by_cases z : a = Dn
      · subst z; rw [upd_same]; simp
      · rw [upd_ne z]; exact h
    · rcases h with h | h
      · exact .inl h
      · rw [h]; exact .inr hD
  · have hget : src.items[i]? = some src.items[i] := List.getElem?_eq_getElem hlt
    have hdrop : src.items.drop i = src.items[i] :: src.items.drop (i + 1) := List.drop_eq_getElem_cons hlt
    rw [hdrop] at hc
    obtain ⟨hst, hc⟩ := gd_i hc
    obtain ⟨jstop, jgo⟩ := itr φ _ H' Ci (g'.stp s1.sub) s' hst
    obtain ⟨ρ1, hb, hc⟩ := bn1_i hc
    obtain ⟨k, Cb, ht, hc⟩ := bnd_i hc
    obtain ⟨go, yl⟩ := jgo i _ hget
    refine ⟨go, fun x H3 y => ?_⟩
    obtain ⟨hst3, rx⟩ := yl x H3 y
    obtain ⟨x3, s3⟩ := Rp.step s' hst3
    have g3 := g'.trans x3.grow
    have hD3 : H3 Dn = some (.dK accV) := x3.keep _ _ hDv hDφ
    have rv3 := rv.keeps (x3.keeps s'.sub)
    have hE3 : EnvR G φ (fun a => M a ∨ a = Dn) H3 (L2.wipe σ vs) (wipeE ρ vs) := ((hE.ext x1 hs.sub).grow g3 s1.sub).wipe vs
    refine hG φ _ H3 Ci _ _ x _ ρ1 hE3 s3 rx hb _ fun σ2 hE2 l2 k2 => ⟨wipe_eq l2 fun j hj => k2 j fun z => hj (hw j z), ?_⟩
    refine hT φ _ H3 Ci σ2 ρ1 k Cb hE2 s3 ht _ fun H4 x4 s4 => ?_
    have g4 := g3.trans x4.grow
    have hD4 := x4.keep _ _ hD3 hDφ
    have rv4 := rv3.keeps (x4.keeps s3.sub)
    cases k with
    | false =>
      rw [if_neg Bool.false_ne_true] at hc ⊢
      exact ⟨Cb, acc, accV, s4, g4, hD4, ek, rv4, by omega, hc⟩
    | true =>
      rw [if_pos rfl] at hc ⊢
      obtain ⟨w, Cw, hw1, hc⟩ := bnd_i hc
      obtain ⟨kd, hkd, hc⟩ := bn1_i hc
      obtain ⟨kk, hkk, hc⟩ := bn1_i hc
      obtain ⟨v, Cv, hv, hc⟩ := bnd_i hc
      obtain ⟨z, hz1, hc⟩ := bn1_i hc
      cases w with
      | cel n => cases hkd
      | dat kd0 =>
        cases hkd
        refine hK φ _ H4 Cb σ2 ρ1 _ Cw (hE2.ext x4 s3.sub) s4 hw1 _ fun ky H5 x5 s5 r5 => ?_
        have g5 := g4.trans x5.grow
        have hD5 := x5.keep _ _ hD4 hDφ
        have rv5 := rv4.keeps (x5.keeps s4.sub)
        cases v with
        | cel n => cases hz1
        | dat z0 =>
          cases hz1
          refine hE' φ _ H5 Cw σ2 ρ1 _ Cv ((hE2.ext x4 s3.sub).ext x5 s4.sub) s5 hv _ fun y H6 x6 s6 r6 => ?_
          have g6 := g5.trans x6.grow
          have hD6 := x6.keep _ _ hD5 hDφ
          have rv6 := rv5.keeps (x6.keeps s5.sub)
          obtain ⟨p1, p2⟩ := put_rel (v := y) (z := z) r6 kk ek rv6
          have ekey := keyV (r5 : Rp G (fun a => M a ∨ a = Dn) H5 ky kd) hkk
          have kw : Keeps (fun a => M a ∨ a = Dn) (fun a => M a ∨ a = Dn) H6 (upd H6 Dn (.dK (putK accV kk y))) := keepsW (.inr rfl)
          refine ⟨accV, kk, ekey, hD6, by omega, Cv, dPut acc kk z, putK accV kk y, s6.wroteM (.inr rfl) hDφ, ?_, upd_same, p1, p2.keeps kw, ?_, hc⟩
          · refine ⟨g6.pre, fun a u e hn => ?_, fun a h => ?_, g6.up, g6.new⟩
            · rw [upd_ne (ne_of_none e hD)]; exact g6.keep a u e hn
            · by_cases q : a = Dn
              · subst q; rw [upd_same]; simp
              · rw [upd_ne q]; exact g6.live a h
          · have := putK_len (α := V) accV kk y
            omega
  · rw [List.drop_length] at hc
    obtain ⟨hst, hc⟩ := gd_i hc
    cases hc
    refine ⟨(itr φ _ H' _ (g'.stp s1.sub) s' hst).1, ?_⟩
    have xx : Ext φ H H' := x1.trans ⟨g'.keep, g'.live⟩
    exact hQ Dn H' (x1.none_ hD) xx s' ⟨accV, hDv, by omega, ek, rv⟩
end
end DX

/-! DNev: a statement that is never reached. -/
namespace DX
open PySem PySem.Spec L2
def tNever : TS := fun _ _ _ => False
theorem ps_never {X : Cx} {st : Stmt} : PS X st tNever := ⟨fun _ _ _ _ _ _ h => h.elim⟩
def sNever : SS := fun _ _ => none
theorem sim_never {G : Gm} : SimS G tNever sNever := fun _ _ _ _ _ _ _ _ _ _ e => by cases e
end DX

/-! DBit: bits of whole numbers. -/
namespace DX
open PySem PySem.Spec L2
section
variable {G : Gm} {ta tb : TE} {f g : SE}
def dShl : D → D → Option D := dI fun i j => gd (CPow i j) (some (.int (i * 2 ^ j.toNat)))
def dShr : D → D → Option D := dI fun i j => gd (0 ≤ j) (some (.int (i / 2 ^ j.toNat)))
def dBAnd : D → D → Option D := dI fun i j => some (.int (Builtin.bitAnd i j))
def dBOr : D → D → Option D := dI fun i j => some (.int (Builtin.bitOr i j))
theorem sim_shl (ha : SimE G ta f) (hb : SimE G tb g) : SimE G (tOp (rI CPow fun i j => .int (i * 2 ^ j.toNat)) ta tb) (eBin dShl f g) := sim_op (sim2_I fun _ _ _ _ => .int _) ha hb
theorem sim_shr (ha : SimE G ta f) (hb : SimE G tb g) : SimE G (tOp (rI (fun _ j => 0 ≤ j) fun i j => .int (i / 2 ^ j.toNat)) ta tb) (eBin dShr f g) := sim_op (sim2_I fun _ _ _ _ => .int _) ha hb
theorem sim_band (ha : SimE G ta f) (hb : SimE G tb g) : SimE G (tOp (rI0 fun i j => .int (Builtin.bitAnd i j)) ta tb) (eBin dBAnd f g) := sim_op (sim2_I0 fun _ _ _ _ => .int _) ha hb
theorem sim_bor (ha : SimE G ta f) (hb : SimE G tb g) : SimE G (tOp (rI0 fun i j => .int (Builtin.bitOr i j)) ta tb) (eBin dBOr f g) := sim_op (sim2_I0 fun _ _ _ _ => .int _) ha hb
def dXor : D → D → Option D := dI fun i j => some (.int (Builtin.bitXor i j))
theorem sim_xor (ha : SimE G ta f) (hb : SimE G tb g) : SimE G (tOp (rI0 fun i j => .int (Builtin.bitXor i j)) ta tb) (eBin dXor f g) := sim_op (sim2_I0 fun _ _ _ _ => .int _) ha hb
def dInv : D → Option D
  | .int i => some (.int (Builtin.bitNot i))
  | _ => none
theorem sim_inv (ha : SimE G ta f) : SimE G (tUn (rU fun i => .int (Builtin.bitNot i)) ta) (eUn dInv f) := by
  refine sim_un ?_ ha
  intro φ M H C x sx d z hs rx ex hg Q hQ
  cases d with
  | int i => cases hg; exact ⟨i, (hs.see_rp rx ex).intI, hQ _ H Ext.refl hs (.int _)⟩
  | _ => cases hg
def dBits : D → Option D
  | .int i => some (.int (Builtin.Int.intBits i : Nat))
  | _ => none
theorem sim_bits (ha : SimE G ta f) : SimE G (tBits ta) (eUn dBits f) := by
  intro φ M H C σ ρ s C' hE hs e Q hQ
  obtain ⟨v, C1, h1, e⟩ := bnd_i e
  obtain ⟨d, h2, e⟩ := bn1_i e
  obtain ⟨z, h3, e⟩ := bn1_i e
  cases e
  refine ha φ M H C σ ρ v C' hE hs h1 _ fun x H1 x1 s1 r1 => ?_
  cases d with
  | int i => cases h3; exact ⟨i, (s1.see_rp r1 h2).intI, hQ _ H1 x1 s1 (Rp.int _)⟩
  | _ => cases h3
def sAug (i : Nat) (g : Int → Int → Int) (f : SE) : SS := fun ρ C => match ρ[i]? with
  | some (some (.dat (.int k))) => bnd (f ρ C) fun v C1 => bn1 (see C1 v) fun d => match d with
    | .int j => some (.nx (ρ.set i (some (.dat (.int (g k j))))), C1)
    | _ => none
  | _ => none
theorem sim_aug {i : Nat} {k : Int → Int → Int} (he : SimE G ta f) : SimS G (tAug i ta (ipI k)) (sAug i k f) := by
  intro φ M H C σ ρ o C' hE hs e Dd hD
  unfold sAug at e
  split at e
  · rename_i n hn
    obtain ⟨w, h3, h4⟩ := hE.at_ i _ hn
    have ew : w = .int n := Rp.intI h4
    obtain ⟨v, C1, h1, e⟩ := bnd_i e
    obtain ⟨d, h2, e⟩ := bn1_i e
    cases d with
    | int j =>
      cases e
      refine ⟨w, h3, he φ M H C σ ρ v C' hE hs h1 _ fun y H1 x1 s1 r1 => ?_⟩
      have ey : y = .int j := (s1.see_rp r1 h2).intI
      exact ⟨n, j, ew, ey, hD φ M _ H1 x1.grow ((hE.ext x1 hs.sub).set i (Rp.int _)) s1⟩
    | _ => cases e
  · cases e
/-! ### d.get(k) -/
def isDK : D → Bool
  | .dK _ => true
  | _ => false
theorem StR.isD {φ : List Addr} {M : Addr → Prop} {H : Hp} {C : Store} {x : V} {s : Sv} {d : D} (st : StR G φ M H C) (r : SvR G φ M H x s) (e : see C s = some d) (h : isDK d = true) : ∃ a, x = .ref a ∧ IsD H a := by
  cases d with
  | dK ds =>
    obtain ⟨a, ex, u, dg, _⟩ := st.dget (y := .str "") (sk := .dat (.str "")) (k := .str "") r (Rp.str _) e rfl (o := dGet ds (.inr "")) rfl
    refine ⟨a, ex, ?_⟩
    rcases dg with ⟨kvs, _, h1, _⟩ | ⟨kvs, _, _, h1, _⟩
    · exact .inl ⟨kvs, h1⟩
    · exact .inr ⟨kvs, h1⟩
  | _ => cases h
def eDGet (f g : SE) : SE := fun ρ C => bnd (f ρ C) fun v C1 => bn1 (see C1 v) fun d1 => gd (isDK d1 = true) (bnd (g ρ C1) fun w C2 => bn1 (see C2 v) fun d => bn1 (see C2 w) fun k => bn1 (dictAt d k) fun o => some (.dat (o.getD .non), C2))
theorem sim_dget1 (hf : SimE G ta f) (hg : SimE G tb g) : SimE G (tDGet1 ta tb) (eDGet f g) := by
  intro φ M H C σ ρ s C' hE hs e Q hQ
  obtain ⟨v, C1, h1, e⟩ := bnd_i e
  obtain ⟨d1, h2, e⟩ := bn1_i e
  obtain ⟨hk, e⟩ := gd_i e
  obtain ⟨w, C2, h3, e⟩ := bnd_i e
  obtain ⟨d, h4, e⟩ := bn1_i e
  obtain ⟨k, h5, e⟩ := bn1_i e
  obtain ⟨o, h6, e⟩ := bn1_i e
  cases e
  refine hf φ M H C σ ρ v C1 hE hs h1 _ fun x H1 x1 s1 r1 => ?_
  obtain ⟨a, ex, isd⟩ := s1.isD r1 h2 hk
  refine ⟨a, ex, isd, hg φ M H1 C1 σ ρ w C' (hE.ext x1 hs.sub) s1 h3 _ fun y H2 x2 s2 r2 => ?_⟩
  obtain ⟨a', ex', u, dg, rel⟩ := s2.dget (r1.ext x2 hs.sub) r2 h4 h5 h6
  have ea : a' = a := by
    rw [ex] at ex'
    cases ex'
    rfl
  subst ea
  refine ⟨u, dg, ?_⟩
  rcases rel with ⟨e1, e2⟩ | ⟨z, b, e1, e2, e3⟩
  · subst e1; subst e2
    exact hQ _ H2 (x1.trans x2) s2 Rp.non
  · subst e1; subst e2
    exact hQ _ H2 (x1.trans x2) s2 e3
end
end DX

/-! DSrt3: sorted(..) of tuples of texts, too. -/
namespace DX
open PySem PySem.Spec L2 PyProof.Rows
def tupS : D → Bool
  | .tup ss => (txts ss).isSome && !ss.isEmpty
  | _ => false
def tupD (d : D) : Bool := tupS d && okD 2 d
theorem tupS_form {d : D} (h : tupS d = true) : ∃ (x : Str) (xs : List Str), d = .tup ((x :: xs).map D.str) := by
  unfold tupS at h
  split at h
  · rename_i ss
    change ((txts ss).isSome && !ss.isEmpty) = true at h
    rw [Bool.and_eq_true] at h
    cases e : txts ss with
    | none => rw [e] at h; cases h.1
    | some xs =>
      have q := txts_some e
      cases xs with
      | nil => rw [q] at h; cases h.2
      | cons x xs => exact ⟨x, xs, by rw [q]⟩
  · cases h
theorem toPy_tup (xs : List Str) : toPy (.tup (xs.map D.str)) = .tuple (xs.map PyData.str) := by
  have q : toPyL (xs.map D.str) = xs.map PyData.str := by
    rw [toPyL_map, List.map_map]
    exact List.map_congr_left fun u _ => by simp [toPy]
  simp [toPy, q]
theorem alike_tup (xs ys : List Str) : PySem.W.alike (.tuple (xs.map PyData.str)) (.tuple (ys.map PyData.str)) = true := by
  simp [PySem.W.alike, alike_strs]
theorem depth_tup (xs : List Str) : PyData.depth (.tuple (xs.map PyData.str)) ≤ 32 := by
  simp [PyData.depth, depth_strs]
def dSort3 : List D → Option D
  | [.lst ds] => if (ds.all tupD && !ds.isEmpty) = true then gd (ds.length ≤ 1000) (some (.lst (ds.mergeSort (PySem.W.dataLe false toPy)))) else dSort2 [.lst ds]
  | xs => dSort2 xs
section
variable {G : Gm}
theorem sim_nsort3 {ta : TA} {a : SA} (ha : SimA G ta a) : SimN G (tCB (rSort2 G.K) ta) (nB dSort3 a) := by
  intro φ M H C σ ρ d C' hE hs e Q hQ
  obtain ⟨ss, C1, h1, e⟩ := bnd_i e
  obtain ⟨ds, h2, e⟩ := bn1_i e
  obtain ⟨z, h3, e⟩ := bn1_i e
  cases e
  by_cases old : dSort2 ds = some d
  · refine sim_nsort2 ha φ M H C σ ρ d C' hE hs ?_ Q hQ
    show bnd (a ρ C) (fun ss C1 => bn1 (sees C1 ss) fun ds => bn1 (dSort2 ds) fun z => some (z, C1)) = _
    rw [h1]
    show bn1 (sees C' ss) _ = _
    rw [h2]
    show bn1 (dSort2 ds) _ = _
    rw [old]
    rfl
  · refine ha φ M H C σ ρ ss C' hE hs h1 _ fun xs H1 x1 s1 r1 => ?_
    cases r1 with
    | nil =>
      simp [sees] at h2
      subst h2
      exact absurd h3 old
    | cons r t =>
      unfold sees at h2
      obtain ⟨d1, h4, h2⟩ := bn1_i h2
      obtain ⟨ds1, h5, h2⟩ := bn1_i h2
      cases h2
      cases t with
      | cons r' t' =>
        unfold sees at h5
        obtain ⟨d2, _, h5⟩ := bn1_i h5
        obtain ⟨d3, _, h5⟩ := bn1_i h5
        cases h5
        refine absurd ?_ old
        have : dSort3 (d1 :: d2 :: d3) = dSort2 (d1 :: d2 :: d3) := by cases d1 <;> rfl
        rw [← this]
        exact h3
      | nil =>
        cases h5
        cases d1 with
        | lst xs0 =>
          have h3' : (if (xs0.all tupD && !xs0.isEmpty) = true then gd (xs0.length ≤ 1000) (some (D.lst (xs0.mergeSort (PySem.W.dataLe false toPy)))) else dSort2 [.lst xs0]) = some d := h3
          by_cases c : (xs0.all tupD && !xs0.isEmpty) = true
          · rw [if_pos c] at h3'
            obtain ⟨h8, h3'⟩ := gd_i h3'
            cases h3'
            rw [Bool.and_eq_true, List.all_eq_true] at c
            have h7 := c.1
            obtain ⟨aa, vs2, rfl, w1, w2, w3⟩ := s1.seeL r h4
            obtain ⟨z1, z2, z3⟩ := rpL_zip w3
            have form : ∀ b ∈ vs2.zip xs0, ∃ (y : Str) (ys : List Str), b.2 = .tup ((y :: ys).map D.str) := fun b hb => by
              have m : b.2 ∈ xs0 := by rw [← z2]; exact List.mem_map.mpr ⟨b, hb, rfl⟩
              have q := h7 _ m
              unfold tupD at q
              rw [Bool.and_eq_true] at q
              exact tupS_form q.1
            have okb : ∀ b ∈ vs2.zip xs0, okD 2 b.2 = true := fun b hb => by
              have m : b.2 ∈ xs0 := by rw [← z2]; exact List.mem_map.mpr ⟨b, hb, rfl⟩
              have q := h7 _ m
              unfold tupD at q
              rw [Bool.and_eq_true] at q
              exact q.2
            refine .inr (.inr ⟨_, vs2.zip xs0, rfl, .inl (by rw [z1]; exact w1), fun b hb => (z3 b hb).dpS (shp_of (okb b hb) (by omega)), ?_, .inl ?_, ?_, ?_, fun p hp => ?_⟩)
            · intro d hd d' hd'
              obtain ⟨b, hb, rfl⟩ := List.mem_map.mp hd
              obtain ⟨b', hb', rfl⟩ := List.mem_map.mp hd'
              obtain ⟨y, ys, e1⟩ := form b hb
              obtain ⟨y', ys', e1'⟩ := form b' hb'
              rw [e1, e1', toPy_tup, toPy_tup]
              exact alike_tup _ _
            · intro d hd
              obtain ⟨b, hb, rfl⟩ := List.mem_map.mp hd
              obtain ⟨y, ys, e1⟩ := form b hb
              rw [e1, toPy_tup]
              exact ⟨_, _, rfl⟩
            · have : (vs2.zip xs0).length = xs0.length := by
                have q := congrArg List.length z2
                rwa [List.length_map] at q
              rw [this]
              exact small_line h8
            · intro b hb
              obtain ⟨y, ys, e1⟩ := form b hb
              rw [e1, toPy_tup]
              exact depth_tup _
            · have em : ((vs2.zip xs0).mergeSort (PySem.W.dataLe false fun b => toPy b.2)).map (·.2) = xs0.mergeSort (PySem.W.dataLe false toPy) := by
                have q := List.map_mergeSort (r := PySem.W.dataLe false fun b : V × D => toPy b.2) (s := PySem.W.dataLe false toPy) (f := fun b : V × D => b.2) (l := vs2.zip xs0) (fun a _ b _ => rfl)
                rw [z2] at q
                exact q
              have rl2 : RpL G M H1 (((vs2.zip xs0).mergeSort (PySem.W.dataLe false fun b => toPy b.2)).map (·.1)) (xs0.mergeSort (PySem.W.dataLe false toPy)) := by
                rw [← em]
                exact rpL_unzip fun b hb => z3 b ((List.mergeSort_perm _ _).mem_iff.mp hb)
              have hl2 : (((vs2.zip xs0).mergeSort (PySem.W.dataLe false fun b => toPy b.2)).map (·.1)).length ≤ sizeLine := by
                rw [rl2.length, List.length_mergeSort]
                exact small_line h8
              exact hQ p _ (x1.none_ hp) (x1.trans (Ext.laid hp)) (s1.laidM hp) (CelR.newL s1 hp hl2 rl2)
          · rw [if_neg c] at h3'
            exact absurd h3' old
        | _ => exact absurd h3 old
end
end DX

/-! DKt: walks over a dict whose keys are tuples. -/
namespace DX
open PySem PySem.Spec L2
section
variable {G : Gm}
/-- the keys of a dict that is data, each a tuple -/
def iKyT (f : SE) : SI := fun ρ C => bnd (f ρ C) fun v C1 => match v with
  | .dat (.dT kvs) => gd ((kvs.all fun kv => decide (kv.1.length ≤ 1000)) = true) (some (⟨kvs.map fun kv => .tup (kv.1.map keyD), []⟩, C1))
  | _ => none
theorem keysD_rp {M : Addr → Prop} {H : Hp} : ∀ ks : List Key, RpL G M H (ks.map kV) (ks.map keyD)
  | [] => .nil
  | k :: ks => .cons (keyD_rp k) (keysD_rp ks)
theorem itr_keysT {φ : List Addr} {M : Addr → Prop} {H : Hp} {a : Addr} {o : Obj} {kvs : List (List Key × V)} {ds : List (List Key × D)} (hf : H a = some (.frz o (.dT kvs))) (hn : ¬ M a) (ek : kvs.map (·.1) = ds.map (·.1)) (hl : ∀ kv ∈ ds, kv.1.length ≤ 1000) :
    ItR G φ M H (Itkt a o kvs) ⟨ds.map fun kv => .tup (kv.1.map keyD), []⟩ := by
  intro φ2 M2 H2 C2 g2 s2 _
  have hf2 := g2.keeps.keep a _ hn hf
  have hlen : kvs.length = ds.length := by simpa using congrArg List.length ek
  refine ⟨⟨hf2, by simp [hlen]⟩, fun i d hi => ⟨⟨hf2, ?_⟩, fun x H3 y => ?_⟩⟩
  · have := (List.getElem?_eq_some_iff.mp hi).1
    simpa [hlen] using this
  · obtain ⟨rfl, k, v, q, h1, rfl, h2⟩ := y
    refine ⟨.inl rfl, ?_⟩
    rw [List.getElem?_map] at hi
    cases hd : ds[i]? with
    | none => rw [hd] at hi; cases hi
    | some p =>
      rw [hd] at hi
      cases hi
      have e1 := congrArg (fun l => l[i]?) ek
      simp only [List.getElem?_map, h1, hd, Option.map_some, Option.some.injEq] at e1
      show Rp G M2 H3 (.ref q) (.tup (p.1.map keyD))
      have hm := hl p (List.mem_of_getElem? hd)
      rw [← e1] at hm ⊢
      refine .tup ⟨fun z => ?_, h2⟩ ?_ (keysD_rp k)
      · have := s2.mt q z _ h2
        cases this
      · rw [List.length_map]; exact Nat.le_trans hm (Nat.le_of_ble_eq_true rfl)
theorem ikyT_i {f : SE} {ρ : Env} {C C1 : Store} {src : Src} (h : iKyT f ρ C = some (src, C1)) : ∃ kvs, f ρ C = some (.dat (.dT kvs), C1) ∧ src = ⟨kvs.map fun kv => .tup (kv.1.map keyD), []⟩ ∧ ∀ kv ∈ kvs, kv.1.length ≤ 1000 := by
  obtain ⟨v, C2, h1, h⟩ := bnd_i h
  cases v with
  | cel n => cases h
  | dat d =>
    cases d with
    | dT kvs =>
      obtain ⟨g, h⟩ := gd_i h
      cases h
      exact ⟨kvs, h1, rfl, fun kv m => of_decide_eq_true (List.all_eq_true.mp g kv m)⟩
    | _ => cases h
theorem sim_nlckT {tk : TE} {g : TG} {tt : TT} {te : TE} {vs ws : List Nat} {fk : SE} {b : D → Env → Option Env} {ft : ST} {fe : SE} (hP : SimP G tk fk) (hG : SimG G g b ws) (hw : ∀ i ∈ ws, i ∈ vs) (hT : SimT G tt ft) (hE' : SimE G te fe) :
    SimN G (tLockA (tLc (iKeys tk) g tt te vs)) (nLc (iKyT fk) b ft fe vs) := by
  intro φ M H C σ ρ d C' hE hs e Q hQ
  obtain ⟨src, C1, h1, e⟩ := bnd_i e
  obtain ⟨hlen, e⟩ := gd_i e
  obtain ⟨zs, C2, h2, e⟩ := bnd_i e
  cases e
  obtain ⟨kvs, h3, rfl, hkl⟩ := ikyT_i h1
  obtain ⟨rfl, v, rv, q0, q1⟩ := hP φ M H C σ ρ _ C1 hE hs h3
  cases rv with
  | @dT a kv _ nM rd l ek rl =>
    have hn : a ∉ φ := fun z => nM (hs.sub a z)
    rcases rd with hd | ⟨o, hd⟩
    · refine .inl ⟨a, _, hd, trivial, fun od => ?_⟩
      have w := sw_lock (od := od) hd trivial
      refine lc_at (hE.sw w) (hs.sw w hn) (src := ⟨kvs.map fun kv => .tup (kv.1.map keyD), []⟩) (fun R hR => q1 a _ w _ ⟨a, od, rfl, .inr ⟨kv, upd_same, hR _ _ Ext.refl (hs.sw w hn) (itr_keysT upd_same nM ek hkl)⟩⟩) hG hw hT hE' hlen h2 (fun p H' hp x s c => ?_)
      have hk := x.keep a _ upd_same hn
      have w2 := sw_unlock (od := od) hk trivial
      have npa : p ≠ a := fun z => by rw [z, upd_same] at hp; cases hp
      refine ⟨hk, hQ p _ (by rw [upd_ne npa] at hp; exact hp) (ext_lock hd x) (s.sw w2 hn) (c.sw w2 npa)⟩
    · exact .inr (lc_at hE hs (src := ⟨kvs.map fun kv => .tup (kv.1.map keyD), []⟩) (fun R hR => q0 _ ⟨a, o, rfl, .inr ⟨kv, hd, hR _ _ Ext.refl hs (itr_keysT hd nM ek hkl)⟩⟩) hG hw hT hE' hlen h2 hQ)
theorem sim_sforkT {tk : TE} {g : TG} {tb : TS} {fk : SE} {b : D → Env → Option Env} {ws : List Nat} {body : SS} (hP : SimP G tk fk) (hG : SimG G g b ws) (hB : SimS G tb body) : SimS G (tLockB (tFor (iKeys tk) g tb)) (sFor (iKyT fk) b body) := by
  intro φ M H C σ ρ o C' hE hs e0 Dd hD
  obtain ⟨src, C1, h1, e1⟩ := bnd_i e0
  obtain ⟨kvs, h3, rfl, hkl⟩ := ikyT_i h1
  obtain ⟨rfl, v, rv, q0, q1⟩ := hP φ M H C σ ρ _ C1 hE hs h3
  cases rv with
  | @dT a kv _ nM rd l ek rl =>
    have hn : a ∉ φ := fun z => nM (hs.sub a z)
    rcases rd with hd | ⟨ob, hd⟩
    · refine .inl ⟨a, _, hd, trivial, fun od => ?_⟩
      have w := sw_lock (od := od) hd trivial
      refine for_at (hE.sw w) (hs.sw w hn) (src := ⟨kvs.map fun kv => .tup (kv.1.map keyD), []⟩) (fun R hR => q1 a _ w _ ⟨a, od, rfl, .inr ⟨kv, upd_same, hR _ _ Ext.refl (hs.sw w hn) (itr_keysT upd_same nM ek hkl)⟩⟩) hG hB e1 ?_
      have hnew : ∀ φ' M' H', Grow φ M (upd H a (.frz od (.dT kv))) φ' M' H' → a ∉ φ' := fun φ' M' H' x z => by
        obtain ⟨ps, e3, e2⟩ := x.pre
        rw [e3] at z
        rcases List.mem_append.mp z with z | z
        · exact hn z
        · have := e2 a z; rw [upd_same] at this; cases this
      cases o with
      | nx ρ1 =>
        refine fun φ' M' σ' H' x hE' s' => ?_
        have hk := x.keep a _ upd_same hn
        have w2 := sw_unlock (od := od) hk trivial
        exact ⟨hk, hD φ' M' σ' _ (grow_lock hd x) (hE'.sw w2) (s'.sw w2 (hnew _ _ _ x))⟩
      | bk ρ1 =>
        refine fun φ' M' σ' H' x hE' s' => ?_
        have hk := x.keep a _ upd_same hn
        have w2 := sw_unlock (od := od) hk trivial
        exact ⟨hk, hD φ' M' σ' _ (grow_lock hd x) (hE'.sw w2) (s'.sw w2 (hnew _ _ _ x))⟩
      | ct ρ1 =>
        refine fun φ' M' σ' H' x hE' s' => ?_
        have hk := x.keep a _ upd_same hn
        have w2 := sw_unlock (od := od) hk trivial
        exact ⟨hk, hD φ' M' σ' _ (grow_lock hd x) (hE'.sw w2) (s'.sw w2 (hnew _ _ _ x))⟩
      | rt sv =>
        refine fun φ' M' v H' x s' r' => ?_
        have hk := x.keep a _ upd_same hn
        have w2 := sw_unlock (od := od) hk trivial
        exact ⟨hk, hD φ' M' v _ (grow_lock hd x) (s'.sw w2 (hnew _ _ _ x)) (r'.sw w2)⟩
    · exact .inr (for_at hE hs (src := ⟨kvs.map fun kv => .tup (kv.1.map keyD), []⟩) (fun R hR => q0 _ ⟨a, ob, rfl, .inr ⟨kv, hd, hR _ _ Ext.refl hs (itr_keysT hd nM ek hkl)⟩⟩) hG hB e1 hD)

theorem sim_frz5 {a0 a1 a2 a3 a4 k : TS} {f g : SS} (h1 : SimS G (tSeq a0 (tSeq a1 (tSeq a2 (tSeq a3 a4)))) f) (h2 : SimS G k g) : SimS G (tSeq a0 (tSeq a1 (tSeq a2 (tSeq a3 (tSeq a4 k))))) (sSeq (sFrz f) g) := sim_sseq (t := (tSeq a0 (tSeq a1 (tSeq a2 (tSeq a3 a4))))) (sim_sfrz h1) h2
theorem sim_frz6 {a0 a1 a2 a3 a4 a5 k : TS} {f g : SS} (h1 : SimS G (tSeq a0 (tSeq a1 (tSeq a2 (tSeq a3 (tSeq a4 a5))))) f) (h2 : SimS G k g) : SimS G (tSeq a0 (tSeq a1 (tSeq a2 (tSeq a3 (tSeq a4 (tSeq a5 k)))))) (sSeq (sFrz f) g) := sim_sseq (t := (tSeq a0 (tSeq a1 (tSeq a2 (tSeq a3 (tSeq a4 a5)))))) (sim_sfrz h1) h2
theorem sim_frz7 {a0 a1 a2 a3 a4 a5 a6 k : TS} {f g : SS} (h1 : SimS G (tSeq a0 (tSeq a1 (tSeq a2 (tSeq a3 (tSeq a4 (tSeq a5 a6)))))) f) (h2 : SimS G k g) : SimS G (tSeq a0 (tSeq a1 (tSeq a2 (tSeq a3 (tSeq a4 (tSeq a5 (tSeq a6 k))))))) (sSeq (sFrz f) g) := sim_sseq (t := (tSeq a0 (tSeq a1 (tSeq a2 (tSeq a3 (tSeq a4 (tSeq a5 a6))))))) (sim_sfrz h1) h2
theorem sim_frz8 {a0 a1 a2 a3 a4 a5 a6 a7 k : TS} {f g : SS} (h1 : SimS G (tSeq a0 (tSeq a1 (tSeq a2 (tSeq a3 (tSeq a4 (tSeq a5 (tSeq a6 a7))))))) f) (h2 : SimS G k g) : SimS G (tSeq a0 (tSeq a1 (tSeq a2 (tSeq a3 (tSeq a4 (tSeq a5 (tSeq a6 (tSeq a7 k)))))))) (sSeq (sFrz f) g) := sim_sseq (t := (tSeq a0 (tSeq a1 (tSeq a2 (tSeq a3 (tSeq a4 (tSeq a5 (tSeq a6 a7)))))))) (sim_sfrz h1) h2
theorem sim_frz9 {a0 a1 a2 a3 a4 a5 a6 a7 a8 k : TS} {f g : SS} (h1 : SimS G (tSeq a0 (tSeq a1 (tSeq a2 (tSeq a3 (tSeq a4 (tSeq a5 (tSeq a6 (tSeq a7 a8)))))))) f) (h2 : SimS G k g) : SimS G (tSeq a0 (tSeq a1 (tSeq a2 (tSeq a3 (tSeq a4 (tSeq a5 (tSeq a6 (tSeq a7 (tSeq a8 k))))))))) (sSeq (sFrz f) g) := sim_sseq (t := (tSeq a0 (tSeq a1 (tSeq a2 (tSeq a3 (tSeq a4 (tSeq a5 (tSeq a6 (tSeq a7 a8))))))))) (sim_sfrz h1) h2
end
end DX

/-! DKi: walks over d.items(), d's keys tuples. -/
namespace DX
open PySem PySem.Spec L2 PyProof.Rows PySem.W
theorem frzTv {X : Cx} {pins : List (Addr × Obj)} {σ : L2.St} {H : Hp} {s : Shared} {d : Addr} {o : Obj} {kvs : List (List Key × V)} (I : Inv X pins σ H s) (h : H d = some (.frz o (.dT kvs))) :
    (d == sysModules) = false ∧ ∃ (es : Array DictEntry) (ep : Nat), o.data = .dict es ep ∧ DT.Raw s.heap d es ep ∧ es.size = kvs.length ∧
      ∀ (i : Nat) (p : List Key × V), kvs[i]? = some p → ∃ (hi : i < es.size) (q : Addr), es[i].key = .ref q ∧ H q = some (.tup (p.1.map kV)) ∧ RelV p.2 es[i].val := by
  obtain ⟨g1, z, hs, xs, pr, o', es, ep, ho, hx, hdt, he, w8⟩ := I.hok d _ h
  have eo : o' = o := by rw [g1] at ho; exact (Option.some.inj ho).symm
  subst eo
  refine ⟨hs, es, ep, hdt, ⟨o', g1, hx, hdt⟩, ?_, fun i p e => ?_⟩
  · have l1 : es.size = xs.length := size_of_entries he
    rw [l1]; exact (Paired.length pr).symm
  · obtain ⟨b, hb, e1, e2, e3⟩ := paired_get pr e
    have q := entry_at he i
    rw [hb] at q
    obtain ⟨hi, q2⟩ := Array.getElem?_eq_some_iff.mp (show es[i]? = some _ from q)
    exact ⟨hi, b.2.1, by rw [q2]; rfl, e2, by rw [q2]; exact e3⟩
/-- the pairs of a locked dict, keys tuples, each pair a new tuple -/
def Itit (d : Addr) (o : Obj) (kvs : List (List Key × V)) : It where
  go i H := H d = some (.frz o (.dT kvs)) ∧ i < kvs.length
  yld i H x H' := ∃ (T : Addr) (p : List Key × V) (q : Addr), kvs[i]? = some p ∧ x = .ref T ∧ H q = some (.tup (p.1.map kV)) ∧ H T = none ∧ H' = upd H T (.tup [.ref q, p.2])
  stop i H := H d = some (.frz o (.dT kvs)) ∧ kvs.length ≤ i
theorem turn_it {P : Program} {w : World} {K : PySem.W.Frag} {elts : List Expr} {kk : Nat} {tpos : Pos} {d : Addr} {o : Obj} {es : Array DictEntry} {ep : Nat} {kvs : List (List Key × V)} (it : Addr) (hod : o.data = .dict es ep) (hn : es.size = kvs.length) :
    Turn P w K (.Tuple elts kk tpos) (Itit d o kvs) [it] it (fun i h => ∃ u v, IsItemIter h it d i es.size ep u v) where
  mem := List.mem_singleton.mpr rfl
  obj := fun i h st b hb => by
    rw [List.mem_singleton.mp hb]
    obtain ⟨u, v, e⟩ := st
    exact ⟨_, e, fun _ z => nomatch z⟩
  keep := fun i h h' st k => by
    obtain ⟨u, v, e⟩ := st
    exact ⟨u, v, k it (List.mem_singleton.mpr rfl) _ e⟩
  item := by
    intro X h1 h2 h3 hc i pins s σ H E I hf st hg
    subst h1; subst h2; subst h3
    obtain ⟨hd, hlt⟩ := hg
    obtain ⟨hs, es', ep', hdt, raw, hsz, ent⟩ := frzTv I hd
    obtain ⟨rfl, rfl⟩ := dict_ep hod hdt
    obtain ⟨p, hp⟩ : ∃ p, kvs[i]? = some p := ⟨_, List.getElem?_eq_getElem hlt⟩
    obtain ⟨hi, q, k1, k2, k3⟩ := ent i p hp
    obtain ⟨u, v, he⟩ := st
    have below : it < s.heap.objs.size := Heap.lt_size he
    refine DT.nextI he raw hi fun h' ho hT hz hk => ⟨_, rfl, wpAny_letOwnedTupleGo_items (s := { s with heap := h' }) ho fun h'' he' sb => ?_⟩
    have hT2 := (sb.2 s.heap.objs.size (Nat.ne_of_gt below)).trans hT
    have new : ObjOk X.prog X.w (upd H s.heap.objs.size (.tup [.ref q, p.2])) h'' s.heap.objs.size (.tup [.ref q, p.2]) := by
      refine ⟨by show 2 ≤ sizeLine; decide, [es'[i].key, es'[i].val], .cons ?_ (.cons k3 .nil), ⟨_, hT2, rfl, _, rfl⟩⟩
      rw [k1]; rfl
    have I1 := I.turnedNew (t' := s.toks) (h' := h'') (ch := [it]) (fun b ob hb e => (sb.2 b (fun z => hb (List.mem_singleton.mpr z))).trans (hk b ob (fun z => hb (List.mem_singleton.mpr z)) e)) hf (Nat.le_refl _) new
    refine ⟨.ref s.heap.objs.size, _, I1, rfl, ⟨_, p, q, hp, rfl, k2, I.hok.fresh (Nat.le_refl _), rfl⟩, ⟨_, _, he'⟩, fun b hb => ?_⟩
    rw [List.mem_singleton.mp hb, upd_ne (Nat.ne_of_lt below)]
    exact (hf it (List.mem_singleton.mpr rfl)).1
  done := by
    intro X h1 h2 h3 hc i pins s σ H E I hf st hg
    subst h1; subst h2; subst h3
    obtain ⟨f0, f1, f2, f3, f4, f5⟩ := hf it (List.mem_singleton.mpr rfl)
    obtain ⟨hs, es', ep', hdt, raw, hsz, ent⟩ := frzTv I hg.1
    obtain ⟨rfl, rfl⟩ := dict_ep hod hdt
    obtain ⟨u, v, he⟩ := st
    exact DT.endI (I.ok.hd hc) he raw (by rw [hsz]; exact hg.2) fun h' eb => ⟨rfl, I.turned (t' := s.toks) (fun b ob hb e => eb b ob hb e) f0 f1 f3 f4 f5⟩
  self := fun A i s Q E st h => by
    obtain ⟨u, v, e⟩ := st
    exact PySem.W.kcp_self e h
def iItT (td : TE) : TI := fun σ H R => td σ H fun x H1 => ∃ d o kvs, x = .ref d ∧ H1 d = some (.frz o (.dT kvs)) ∧ R (Itit d o kvs) H1
theorem pi_itT {X : Cx} {e : Expr} {td : TE} {apos cpos : Pos} {elts : List Expr} {kk : Nat} {tpos : Pos} (he : PE X e td) (hb : attributeBase e "items" X.env (eval e X.env) = eval e X.env := by rfl) (hl : (apos.endLine == cpos.line) = true := by rfl) :
    PI X (.Tuple elts kk tpos) (.Call (.Attribute e "items" apos) [] [] cpos) (iItT td) := by
  refine ⟨fun pins s σ H R I h => wpAny_Call_method (T := "dict") (id := "dict.items") hb rfl hl F.plainAttrs_dict F.slot_dict_items F.type_dict_items (thn (he.run pins s σ H _ I h) fun u s1 ⟨x, H1, I1, rx, d, o, kvs, ex, hd, q⟩ => ?_)⟩
  subst ex
  have eu : u = Value.ref d := rx
  subst eu
  obtain ⟨hs, es, ep, hdt, raw, hsz, ent⟩ := frzTv I1 hd
  have nd : ∀ b, Value.ref d = .ref b → ∃ ob, s1.heap.get? b = some ob ∧ ob.dict = none := fun b eb => by
    cases eb
    obtain ⟨ob, h1, h2, _⟩ := raw
    exact ⟨ob, h1, h2.2.1⟩
  refine ⟨raw.typeIs, nd, ?_⟩
  have I2 := I1.kept (t' := s1.toks) (h' := s1.heap.push { cls := .type "dict_items", data := .fields #[.ref d] }) fun b ob q => Heap.get?_push_of_some _ q
  have fin : wpAny (model X.prog X.w) X.A (pyIter (.ref s1.heap.objs.size)) (PIE X pins σ (.Tuple elts kk tpos) R) X.xe { s1 with heap := s1.heap.push { cls := .type "dict_items", data := .fields #[.ref d] } } :=
    DT.iterI (d := d) ⟨_, Heap.get?_push_size _ rfl, rfl, rfl⟩ (raw.push _) (pi_one (tk := s1.toks) I2 _ (turn_it _ hdt hsz) ⟨.none, .none, Heap.get?_push_size _ rfl⟩ q)
  show wpAny _ _ (callWith cpos (.builtin "dict.items") [.ref d] [] []) _ X.xe s1
  exact method_meetsIn F.slot_dict_items F.entry_dict_items rfl (PySem.evalArgs_none ⟨rfl, raw.typeIs, F.args_dict_items_1 _, _, DT.meetsItems (es := es) (ep := ep) hs, ⟨raw, fin⟩⟩)
section
variable {G : Gm}
abbrev itP (kv : List Key × D) : D := .tup [.tup (kv.1.map keyD), kv.2]
/-- the pairs of a dict that is data, its keys tuples -/
def iItm (f : SE) : SI := fun ρ C => bnd (f ρ C) fun v C1 => match v with
  | .dat (.dT kvs) => gd ((kvs.all fun kv => decide (kv.1.length ≤ 1000)) = true) (some (⟨kvs.map itP, []⟩, C1))
  | _ => none
theorem iitm_i {f : SE} {ρ : Env} {C C1 : Store} {src : Src} (h : iItm f ρ C = some (src, C1)) : ∃ kvs, f ρ C = some (.dat (.dT kvs), C1) ∧ src = ⟨kvs.map itP, []⟩ ∧ ∀ kv ∈ kvs, kv.1.length ≤ 1000 := by
  obtain ⟨v, C2, h1, h⟩ := bnd_i h
  cases v with
  | cel n => cases h
  | dat d =>
    cases d with
    | dT kvs =>
      obtain ⟨g, h⟩ := gd_i h
      cases h
      exact ⟨kvs, h1, rfl, fun kv m => of_decide_eq_true (List.all_eq_true.mp g kv m)⟩
    | _ => cases h
theorem itr_itemsT {φ : List Addr} {M : Addr → Prop} {H : Hp} {a : Addr} {o : Obj} {kvs : List (List Key × V)} {ds : List (List Key × D)} (hf : H a = some (.frz o (.dT kvs))) (hn : ¬ M a) (ek : kvs.map (·.1) = ds.map (·.1)) (rl : RpL G M H (kvs.map (·.2)) (ds.map (·.2))) (hl : ∀ kv ∈ ds, kv.1.length ≤ 1000) :
    ItR G φ M H (Itit a o kvs) ⟨ds.map itP, []⟩ := by
  intro φ2 M2 H2 C2 g2 s2 _
  have hf2 := g2.keeps.keep a _ hn hf
  have rl2 := rl.keeps g2.keeps
  have hlen : kvs.length = ds.length := by simpa using congrArg List.length ek
  refine ⟨⟨hf2, by simp [hlen]⟩, fun i d hi => ⟨⟨hf2, ?_⟩, fun x H3 y => ?_⟩⟩
  · have := (List.getElem?_eq_some_iff.mp hi).1
    simpa [hlen] using this
  · obtain ⟨T, p, q, h1, rfl, h2, hT, rfl⟩ := y
    rw [List.getElem?_map] at hi
    cases hd : ds[i]? with
    | none => rw [hd] at hi; cases hi
    | some z =>
      rw [hd] at hi
      cases hi
      have e1 := congrArg (fun l => l[i]?) ek
      simp only [List.getElem?_map, h1, hd, Option.map_some, Option.some.injEq] at e1
      have hm := hl z (List.mem_of_getElem? hd)
      rw [← e1] at hm
      have rk : Rp G M2 H2 (.ref q) (.tup (z.1.map keyD)) := by
        rw [← e1]
        refine .tup ⟨fun zz => ?_, h2⟩ ?_ (keysD_rp p.1)
        · have := s2.mt q zz _ h2
          cases this
        · rw [List.length_map]; exact Nat.le_trans hm (Nat.le_of_ble_eq_true rfl)
      obtain ⟨v, hv, rv⟩ := rl2.get (show (ds.map (·.2))[i]? = some z.2 by rw [List.getElem?_map, hd]; rfl)
      rw [List.getElem?_map, h1] at hv
      cases hv
      exact ⟨.inr ⟨T, _, hT, rfl⟩, newPair s2 hT rk rv⟩
theorem sim_nlciT {tk : TE} {g : TG} {tt : TT} {te : TE} {vs ws : List Nat} {fk : SE} {b : D → Env → Option Env} {ft : ST} {fe : SE} (hP : SimP G tk fk) (hG : SimG G g b ws) (hw : ∀ i ∈ ws, i ∈ vs) (hT : SimT G tt ft) (hE' : SimE G te fe) :
    SimN G (tLockA (tLc (iItT tk) g tt te vs)) (nLc (iItm fk) b ft fe vs) := by
  intro φ M H C σ ρ d C' hE hs e Q hQ
  obtain ⟨src, C1, h1, e⟩ := bnd_i e
  obtain ⟨hlen, e⟩ := gd_i e
  obtain ⟨zs, C2, h2, e⟩ := bnd_i e
  cases e
  obtain ⟨kvs, h3, rfl, hkl⟩ := iitm_i h1
  obtain ⟨rfl, v, rv, q0, q1⟩ := hP φ M H C σ ρ _ C1 hE hs h3
  cases rv with
  | @dT a kv _ nM rd l ek rl =>
    have hn : a ∉ φ := fun z => nM (hs.sub a z)
    rcases rd with hd | ⟨o, hd⟩
    · refine .inl ⟨a, _, hd, trivial, fun od => ?_⟩
      have w := sw_lock (od := od) hd trivial
      refine lc_at (hE.sw w) (hs.sw w hn) (src := ⟨kvs.map itP, []⟩) (fun R hR => q1 a _ w _ ⟨a, od, kv, rfl, upd_same, hR _ _ Ext.refl (hs.sw w hn) (itr_itemsT upd_same nM ek (rl.sw w) hkl)⟩) hG hw hT hE' hlen h2 (fun p H' hp x s c => ?_)
      have hk := x.keep a _ upd_same hn
      have w2 := sw_unlock (od := od) hk trivial
      have npa : p ≠ a := fun z => by rw [z, upd_same] at hp; cases hp
      refine ⟨hk, hQ p _ (by rw [upd_ne npa] at hp; exact hp) (ext_lock hd x) (s.sw w2 hn) (c.sw w2 npa)⟩
    · exact .inr (lc_at hE hs (src := ⟨kvs.map itP, []⟩) (fun R hR => q0 _ ⟨a, o, kv, rfl, hd, hR _ _ Ext.refl hs (itr_itemsT hd nM ek rl hkl)⟩) hG hw hT hE' hlen h2 hQ)
theorem sim_sforiT {tk : TE} {g : TG} {tb : TS} {fk : SE} {b : D → Env → Option Env} {ws : List Nat} {body : SS} (hP : SimP G tk fk) (hG : SimG G g b ws) (hB : SimS G tb body) : SimS G (tLockB (tFor (iItT tk) g tb)) (sFor (iItm fk) b body) := by
  intro φ M H C σ ρ o C' hE hs e0 Dd hD
  obtain ⟨src, C1, h1, e1⟩ := bnd_i e0
  obtain ⟨kvs, h3, rfl, hkl⟩ := iitm_i h1
  obtain ⟨rfl, v, rv, q0, q1⟩ := hP φ M H C σ ρ _ C1 hE hs h3
  cases rv with
  | @dT a kv _ nM rd l ek rl =>
    have hn : a ∉ φ := fun z => nM (hs.sub a z)
    rcases rd with hd | ⟨ob, hd⟩
    · refine .inl ⟨a, _, hd, trivial, fun od => ?_⟩
      have w := sw_lock (od := od) hd trivial
      refine for_at (hE.sw w) (hs.sw w hn) (src := ⟨kvs.map itP, []⟩) (fun R hR => q1 a _ w _ ⟨a, od, kv, rfl, upd_same, hR _ _ Ext.refl (hs.sw w hn) (itr_itemsT upd_same nM ek (rl.sw w) hkl)⟩) hG hB e1 ?_
      have hnew : ∀ φ' M' H', Grow φ M (upd H a (.frz od (.dT kv))) φ' M' H' → a ∉ φ' := fun φ' M' H' x z => by
        obtain ⟨ps, e3, e2⟩ := x.pre
        rw [e3] at z
        rcases List.mem_append.mp z with z | z
        · exact hn z
        · have := e2 a z; rw [upd_same] at this; cases this
      cases o with
      | nx ρ1 =>
        refine fun φ' M' σ' H' x hE' s' => ?_
        have hk := x.keep a _ upd_same hn
        have w2 := sw_unlock (od := od) hk trivial
        exact ⟨hk, hD φ' M' σ' _ (grow_lock hd x) (hE'.sw w2) (s'.sw w2 (hnew _ _ _ x))⟩
      | bk ρ1 =>
        refine fun φ' M' σ' H' x hE' s' => ?_
        have hk := x.keep a _ upd_same hn
        have w2 := sw_unlock (od := od) hk trivial
        exact ⟨hk, hD φ' M' σ' _ (grow_lock hd x) (hE'.sw w2) (s'.sw w2 (hnew _ _ _ x))⟩
      | ct ρ1 =>
        refine fun φ' M' σ' H' x hE' s' => ?_
        have hk := x.keep a _ upd_same hn
        have w2 := sw_unlock (od := od) hk trivial
        exact ⟨hk, hD φ' M' σ' _ (grow_lock hd x) (hE'.sw w2) (s'.sw w2 (hnew _ _ _ x))⟩
      | rt sv =>
        refine fun φ' M' v H' x s' r' => ?_
        have hk := x.keep a _ upd_same hn
        have w2 := sw_unlock (od := od) hk trivial
        exact ⟨hk, hD φ' M' v _ (grow_lock hd x) (s'.sw w2 (hnew _ _ _ x)) (r'.sw w2)⟩
    · exact .inr (for_at hE hs (src := ⟨kvs.map itP, []⟩) (fun R hR => q0 _ ⟨a, ob, kv, rfl, hd, hR _ _ Ext.refl hs (itr_itemsT hd nM ek rl hkl)⟩) hG hB e1 hD)

def eFldP (c0 f : Str) (g : SE) : SE := fun ρ C => bnd (g ρ C) fun v C1 => match v with
  | .dat (.ins c fs) => gd (c = c0) (bn1 (fs.lookup f) fun z => some (.dat z, C1))
  | _ => none
theorem simp_fldP {c0 f : Str} {ta : TE} {g : SE} (cl : Cls G.K (G.cls c0)) (na : NoAttr G.K (G.cls c0) f) (hg : SimP G ta g) : SimP G (tFld G.K ta f) (eFldP c0 f g) := simp_fld cl na hg
end
end DX

/-! DL2: list(d) of a dict's keys. -/
namespace DX
open PySem PySem.Spec L2 PyProof.Rows
def dList2 : List D → Option D
  | [.dK kvs] => some (.lst (kvs.map fun kv => keyD kv.1))
  | xs => dList xs
abbrev rListDK : List V → Hp → VK → Prop := fun xs H Q => ∃ (a : Addr) (kvs : List (Key × V)), xs = [.ref a] ∧ Rd H a (.dK kvs) ∧ ∀ p, H p = none → Q (.ref p) (upd H p (.lst (kvs.map fun kv => kV kv.1)))
def rList2 (K : PySem.W.Frag) : List V → Hp → VK → Prop := fun vs H Q => rListOf K vs H Q ∨ rListDK vs H Q
theorem k_list2 {X : Cx} (K : PySem.W.Frag) (hK : X.K = K) (hc : X.calm = true) : CallR X (.type "list") (rList2 K) := by
  subst hK
  exact call_list_of.or (call_listD hc)
section
variable {G : Gm}
theorem keyL_rp {M : Addr → Prop} {H : Hp} {β : Type} : ∀ ks : List (Key × β), RpL G M H (ks.map fun kv => kV kv.1) (ks.map fun kv => keyD kv.1)
  | [] => .nil
  | k :: ks => .cons (keyD_rp k.1) (keyL_rp ks)
theorem keys_eq {α β : Type} {f : Key → α} : ∀ {as : List (Key × V)} {bs : List (Key × β)}, as.map (·.1) = bs.map (·.1) → as.map (fun kv => f kv.1) = bs.map (fun kv => f kv.1)
  | [], [], _ => rfl
  | [], _ :: _, e => by simp at e
  | _ :: _, [], e => by simp at e
  | a :: as, b :: bs, e => by
    simp only [List.map_cons, List.cons.injEq] at e ⊢
    exact ⟨by rw [e.1], keys_eq e.2⟩
theorem sim_nlist2 {ta : TA} {a : SA} (ha : SimA G ta a) : SimN G (tCB (rList2 G.K) ta) (nB dList2 a) := by
  intro φ M H C σ ρ d C' hE hs e Q hQ
  obtain ⟨ss, C1, h1, e⟩ := bnd_i e
  obtain ⟨ds, h2, e⟩ := bn1_i e
  obtain ⟨z, h3, e⟩ := bn1_i e
  cases e
  refine ha φ M H C σ ρ ss C' hE hs h1 _ fun xs H1 x1 s1 r1 => ?_
  obtain ⟨y, rfl⟩ := one_of h3 rfl fun a b r => by cases a <;> rfl
  obtain ⟨x, s, rfl, rfl, r2, h4⟩ := sees1 r1 h2
  cases y with
  | lst us =>
    cases h3
    obtain ⟨p, vs, rfl, t1, l, r⟩ := s1.seeL r2 h4
    exact .inl ⟨p, vs, rfl, .inl (.inl t1), fun q hq => hQ q _ (x1.none_ hq) (x1.trans (Ext.laid hq)) (s1.laidM hq) (CelR.newL s1 hq l r)⟩
  | tup us =>
    cases h3
    obtain ⟨p, vs, rfl, t1, l, r⟩ := s1.seeT r2 h4
    exact .inl ⟨p, vs, rfl, .inr t1.sq, fun q hq => hQ q _ (x1.none_ hq) (x1.trans (Ext.laid hq)) (s1.laidM hq) (CelR.newL s1 hq l r)⟩
  | dK kvs =>
    cases h3
    rcases s1.see_rd r2 h4 with ⟨_, h⟩ | ⟨n, a, c, _, rfl, _, _, hu, h⟩
    · cases h with
      | @dK a kv _ nM rd hl ek rl =>
        refine .inr ⟨a, kv, rfl, rd, fun q hq => hQ q _ (x1.none_ hq) (x1.trans (Ext.laid hq)) (s1.laidM hq) (CelR.newL s1 hq ?_ ?_)⟩
        · rw [List.length_map]; exact hl
        · rw [keys_eq (f := kV) ek]; exact keyL_rp kvs
    · have hd : ∃ kv : List (Key × V), Rd H1 a (.dK kv) ∧ kv.length ≤ sizeLine ∧ kv.map (·.1) = kvs.map (·.1) := by
        cases c with
        | dK ds' => cases hu; obtain ⟨kv, h1, h2, h3, h4⟩ := h; exact ⟨kv, .inl h1, h2, h3⟩
        | lk z =>
          have hu' : D.dK kvs = z := hu
          subst hu'
          obtain ⟨od, kv, h1, h2, h3, h4⟩ := h
          exact ⟨kv, .inr ⟨od, h1⟩, h2, h3⟩
        | _ => cases hu
      obtain ⟨kv, rd, hl, ek⟩ := hd
      refine .inr ⟨a, kv, rfl, rd, fun q hq => hQ q _ (x1.none_ hq) (x1.trans (Ext.laid hq)) (s1.laidM hq) (CelR.newL s1 hq ?_ ?_)⟩
      · rw [List.length_map]; exact hl
      · rw [keys_eq (f := kV) ek]; exact keyL_rp kvs
  | _ => cases h3
end
end DX

/-! NB1: plain types for data: how they are written as data, and what the operators reckon of them. -/
namespace DX
open PySem PySem.Spec L2

/-! ### texts -/
abbrev Tx := {s : Str // PyData.strOk s = true}
theorem tx_ext {a b : Tx} : a.1.cps.toList = b.1.cps.toList ↔ a = b := by
  constructor
  · intro h
    apply Subtype.ext
    cases a with
    | mk a _ => cases b with
      | mk b _ =>
        cases a; cases b
        simp_all
  · intro h; rw [h]
def eqN : List Nat → List Nat → Bool
  | [], [] => true
  | a :: r, b :: s => match Nat.beq a b with
    | true => eqN r s
    | false => false
  | _, _ => false
theorem eqN_iff : ∀ {a b : List Nat}, eqN a b = true ↔ a = b
  | [], [] => by simp [eqN]
  | [], _ :: _ => by simp [eqN]
  | _ :: _, [] => by simp [eqN]
  | a :: r, b :: s => by
    have ih := eqN_iff (a := r) (b := s)
    unfold eqN
    cases h : Nat.beq a b with
    | true => have := Nat.eq_of_beq_eq_true h; subst this; simp [ih]
    | false => have := Nat.ne_of_beq_eq_false h; simp [this]
instance (priority := 5000) decTx : DecidableEq Tx := fun a b => match h : eqN a.1.cps.toList b.1.cps.toList with
  | true => isTrue (tx_ext.mp (eqN_iff.mp h))
  | false => isFalse fun e => by rw [eqN_iff.mpr (tx_ext.mpr e)] at h; cases h
theorem strOk_nil : PyData.strOk ("" : Str) = true := by decide +kernel
instance : Inhabited Tx := ⟨⟨"", strOk_nil⟩⟩
abbrev tS (s : Str) (h : PyData.strOk s = true := by decide +kernel) : Tx := ⟨s, h⟩
theorem strOk_app {a b : Str} (ha : PyData.strOk a = true) (hb : PyData.strOk b = true) : PyData.strOk (a ++ b) = true := by
  unfold PyData.strOk at *
  show (a.cps ++ b.cps).all _ = true
  rw [Array.all_append, ha, hb]; rfl
instance : HAppend Tx Tx Tx := ⟨fun a b => ⟨a.1 ++ b.1, strOk_app a.2 b.2⟩⟩

/-! ### how values are written -/
abbrev qI : Int → D := D.int
abbrev qB : Bool → D := D.bl
abbrev qS : Tx → D := fun t => D.str t.1
abbrev qU : Unit → D := fun _ => D.non
abbrev qL {α : Type} (e : α → D) : List α → D := fun xs => .lst (xs.map e)
abbrev qT {α : Type} (e : α → D) : List α → D := fun xs => .tup (xs.map e)
abbrev qP {α β : Type} (e : α → D) (f : β → D) : α × β → D := fun p => .tup [e p.1, f p.2]
abbrev qP3 {α β γ : Type} (e : α → D) (f : β → D) (g : γ → D) : α × β × γ → D := fun p => .tup [e p.1, f p.2.1, g p.2.2]
abbrev qP4 {α β γ δ : Type} (e : α → D) (f : β → D) (g : γ → D) (h : δ → D) : α × β × γ × δ → D := fun p => .tup [e p.1, f p.2.1, g p.2.2.1, h p.2.2.2]
abbrev qP5 {α β γ δ ε : Type} (e : α → D) (f : β → D) (g : γ → D) (h : δ → D) (i : ε → D) : α × β × γ × δ × ε → D := fun p => .tup [e p.1, f p.2.1, g p.2.2.1, h p.2.2.2.1, i p.2.2.2.2]
abbrev qQ1 {α : Type} (e : α → D) : α → D := fun p => .lst [e p]
abbrev qQ {α β : Type} (e : α → D) (f : β → D) : α × β → D := fun p => .lst [e p.1, f p.2]
abbrev qQ3 {α β γ : Type} (e : α → D) (f : β → D) (g : γ → D) : α × β × γ → D := fun p => .lst [e p.1, f p.2.1, g p.2.2]
abbrev qQ4 {α β γ δ : Type} (e : α → D) (f : β → D) (g : γ → D) (h : δ → D) : α × β × γ × δ → D := fun p => .lst [e p.1, f p.2.1, g p.2.2.1, h p.2.2.2]
abbrev qQ5 {α β γ δ ε : Type} (e : α → D) (f : β → D) (g : γ → D) (h : δ → D) (i : ε → D) : α × β × γ × δ × ε → D := fun p => .lst [e p.1, f p.2.1, g p.2.2.1, h p.2.2.2.1, i p.2.2.2.2]
abbrev qP1 {α : Type} (e : α → D) : α → D := fun p => .tup [e p]
def qO {α : Type} (e : α → D) : Option α → D
  | none => .non
  | some a => e a
abbrev kS : Tx → Key := fun t => Sum.inr t.1
abbrev kI : Int → Key := fun t => Sum.inl t
abbrev kT : List Tx → List Key := fun t => t.map kS
abbrev qDK {β : Type} (e : β → D) : List (Tx × β) → D := fun d => .dK (d.map fun p => (kS p.1, e p.2))
abbrev qDI {β : Type} (e : β → D) : List (Int × β) → D := fun d => .dK (d.map fun p => (kI p.1, e p.2))
abbrev qDT {β : Type} (e : β → D) : List (List Tx × β) → D := fun d => .dT (d.map fun p => (kT p.1, e p.2))
abbrev qScr : List Int → D := D.scr
abbrev qKt {α : Type} (e : α → D) : List α → D := fun xs => .kt (xs.map e)

/-! ### dicts -/
section
variable {κ β : Type} [DecidableEq κ] [Inhabited β]
@[irreducible] def kGet (d : List (κ × β)) (k : κ) : Option β := (d.find? fun p => decide (p.1 = k)).map (·.2)
@[irreducible] def kHas (d : List (κ × β)) (k : κ) : Bool := (kGet d k).isSome
@[irreducible] def kAt (d : List (κ × β)) (k : κ) : β := (kGet d k).getD default
@[irreducible] def kPut (d : List (κ × β)) (k : κ) (v : β) : List (κ × β) := if (d.any fun p => decide (p.1 = k)) then d.map (fun p => if p.1 = k then (p.1, v) else p) else d ++ [(k, v)]
@[irreducible] def kMerge (d e : List (κ × β)) : List (κ × β) := e.foldl (fun acc p => kPut acc p.1 p.2) d
end
theorem kS_inj {a b : Tx} : kS a = kS b ↔ a = b := by
  constructor
  · intro h; exact Subtype.ext (Sum.inr.inj h)
  · intro h; rw [h]
theorem kI_inj {a b : Int} : kI a = kI b ↔ a = b := by
  constructor
  · intro h; exact Sum.inl.inj h
  · intro h; rw [h]
theorem kT_inj : ∀ {a b : List Tx}, kT a = kT b ↔ a = b
  | [], [] => by simp
  | [], _ :: _ => by simp
  | _ :: _, [] => by simp
  | x :: a, y :: b => by
    have ih := kT_inj (a := a) (b := b)
    show (kS x :: kT a = kS y :: kT b) ↔ _
    rw [List.cons.injEq, List.cons.injEq, kS_inj, ih]
section
variable {κ κ' β : Type} [DecidableEq κ] [DecidableEq κ']
theorem get_map {f : κ → κ'} (hf : ∀ a b, f a = f b ↔ a = b) {e : β → D} : ∀ {d : List (κ × β)} {k : κ}, dGet (d.map fun p => (f p.1, e p.2)) (f k) = (kGet d k).map e
  | [], k => by unfold kGet; rfl
  | p :: d, k => by
    have ih := get_map hf (e := e) (d := d) (k := k)
    unfold dGet kGet at *
    rw [List.map_cons, List.find?_cons, List.find?_cons]
    by_cases h : p.1 = k
    · have h' : f p.1 = f k := (hf _ _).mpr h
      simp only [h', h, decide_true]
      rfl
    · have h' : ¬ f p.1 = f k := fun z => h ((hf _ _).mp z)
      simp only [h', h, decide_false]
      exact ih
theorem put_map {f : κ → κ'} (hf : ∀ a b, f a = f b ↔ a = b) {e : β → D} {d : List (κ × β)} {k : κ} {v : β} : dPut (d.map fun p => (f p.1, e p.2)) (f k) (e v) = (kPut d k v).map fun p => (f p.1, e p.2) := by
  have ha : ((d.map fun p => (f p.1, e p.2)).any fun kv => decide (kv.1 = f k)) = d.any fun p => decide (p.1 = k) := by
    rw [List.any_map]
    congr 1
    funext p
    show decide (f p.1 = f k) = decide (p.1 = k)
    rw [decide_eq_decide]
    exact hf _ _
  unfold dPut kPut
  rw [ha]
  by_cases h : (d.any fun p => decide (p.1 = k)) = true
  · rw [if_pos h, if_pos h, List.map_map, List.map_map]
    refine List.map_congr_left fun p _ => ?_
    show (if f p.1 = f k then (f p.1, e v) else (f p.1, e p.2)) = _
    by_cases q : p.1 = k
    · have q' : f p.1 = f k := (hf _ _).mpr q
      rw [if_pos q']
      show _ = (fun p => (f p.1, e p.2)) (if p.1 = k then (p.1, v) else p)
      rw [if_pos q]
    · have q' : ¬ f p.1 = f k := fun z => q ((hf _ _).mp z)
      rw [if_neg q']
      show _ = (fun p => (f p.1, e p.2)) (if p.1 = k then (p.1, v) else p)
      rw [if_neg q]
  · rw [if_neg h, if_neg h, List.map_append]
    rfl
theorem merge_map {f : κ → Key} (hf : ∀ a b, f a = f b ↔ a = b) {e : β → D} : ∀ {m d : List (κ × β)}, mergeD (d.map fun p => (f p.1, e p.2)) (m.map fun p => (f p.1, e p.2)) = (kMerge d m).map fun p => (f p.1, e p.2)
  | [], d => by unfold kMerge; rfl
  | p :: m, d => by
    show mergeD (dPut (d.map fun p => (f p.1, e p.2)) (f p.1) (e p.2)) (m.map fun p => (f p.1, e p.2)) = _
    rw [put_map hf, merge_map hf]
    unfold kMerge
    rfl
end
theorem dKeys_kT : ∀ ts : List Tx, dKeys (ts.map qS) = some (kT ts)
  | [] => rfl
  | t :: ts => by
    show (match dKey (qS t), dKeys (ts.map qS) with | some k, some ks => some (k :: ks) | _, _ => none) = _
    rw [dKeys_kT ts]
    rfl

/-- a ∈ xs, as a truth -/
@[irreducible] def isIn {α : Type} [DecidableEq α] (a : α) (xs : List α) : Bool := decide (a ∈ xs)
@[simp] theorem isIn_iff {α : Type} [DecidableEq α] {a : α} {xs : List α} : isIn a xs = true ↔ a ∈ xs := by simp [isIn]
@[simp] theorem isIn_no {α : Type} [DecidableEq α] {a : α} {xs : List α} : isIn a xs = false ↔ a ∉ xs := by simp [isIn]
/-! ### lists -/
@[irreducible] def atD {α : Type} [Inhabited α] (xs : List α) (i : Int) : α := (atI xs i).getD default
theorem atI_map {α β : Type} (f : α → β) (xs : List α) (i : Int) : atI (xs.map f) i = (atI xs i).map f := by
  unfold atI
  rw [List.length_map]
  cases ixN xs.length i with
  | none => rfl
  | some j => show (xs.map f)[j]? = (xs[j]?).map f; rw [List.getElem?_map]
theorem cut_map {α β : Type} (f : α → β) (xs : List α) (lo hi : Option Int) : cutD (xs.map f) lo hi = (cutD xs lo hi).map f := by
  unfold cutD
  rw [List.length_map, List.map_take, List.map_drop]
/-- the numbers from lo to hi -/
@[irreducible] def rng (lo hi : Int) : List Int := (List.range (hi - lo).toNat).map fun i => lo + (i : Nat)
theorem rng_map (lo hi : Int) : rngD lo hi = (rng lo hi).map qI := by
  unfold rngD rng
  rw [List.map_map]
  rfl
@[irreducible] def enum {α : Type} (xs : List α) : List (Int × α) := (List.range xs.length).zipWith (fun (i : Nat) x => ((i : Int), x)) xs
theorem enum_map {α : Type} (e : α → D) (xs : List α) : enumD (xs.map e) = (enum xs).map (qP qI e) := by
  unfold enumD enum
  rw [List.length_map, List.map_zipWith, List.zipWith_map_right]
theorem zip_map {α β : Type} (e : α → D) (f : β → D) (xs : List α) (ys : List β) : zipD (xs.map e) (ys.map f) = (xs.zip ys).map (qP e f) := by
  unfold zipD List.zip
  rw [List.map_zipWith, List.zipWith_map]

/-! ### values that can be compared -/
theorem okD_mono : ∀ {n m : Nat} {d : D}, n ≤ m → okD n d = true → okD m d = true := by
  have key : ∀ (n : Nat) (d : D), okD n d = true → okD (n + 1) d = true := by
    intro n
    induction n with
    | zero =>
      intro d h
      cases d <;> simp_all [okD]
    | succ n ih =>
      intro d h
      cases d with
      | tup xs =>
        show okDs (n + 1) xs = true
        rw [okDs_all]
        have h' : okDs n xs = true := h
        rw [okDs_all] at h'
        exact fun x hx => ih x (h' x hx)
      | lst xs =>
        show okDs (n + 1) xs = true
        rw [okDs_all]
        have h' : okDs n xs = true := h
        rw [okDs_all] at h'
        exact fun x hx => ih x (h' x hx)
      | _ => simp_all [okD]
  intro n m d l h
  induction m with
  | zero => have : n = 0 := by omega
            subst this; exact h
  | succ m ih =>
    by_cases e : n = m + 1
    · subst e; exact h
    · exact key m d (ih (by omega))
theorem eqvC (d e : D) (ds es : List D) : PyData.eqvAll (toPyL (d :: ds)) (toPyL (e :: es)) = (PyData.eqv (toPy d) (toPy e) && PyData.eqvAll (toPyL ds) (toPyL es)) := by simp [toPyL, PyData.eqvAll]
class Nice {α : Type} [DecidableEq α] (e : α → D) (n : outParam Nat) : Prop where
  ok : ∀ a, okD n (e a) = true
  eq : ∀ a b, eqvD (e a) (e b) = decide (a = b)
instance : Nice qI 0 := ⟨fun _ => rfl, fun a b => by simp [eqvD, toPy, PyData.eqv]; rw [Bool.eq_iff_iff]; simp⟩
instance : Nice qB 0 := ⟨fun _ => rfl, fun a b => by simp [eqvD, toPy, PyData.eqv]; rw [Bool.eq_iff_iff]; simp⟩
instance : Nice qU 0 := ⟨fun _ => rfl, fun a b => by simp [eqvD, toPy, PyData.eqv]⟩
instance : Nice qS 0 := ⟨fun a => a.2, fun a b => by
  simp [eqvD, toPy, PyData.eqv]
  rw [Bool.eq_iff_iff]
  simp [Subtype.ext_iff]⟩
theorem eqv_all {α : Type} [DecidableEq α] {e : α → D} (he : ∀ a b, eqvD (e a) (e b) = decide (a = b)) : ∀ xs ys : List α, PyData.eqvAll (toPyL (xs.map e)) (toPyL (ys.map e)) = decide (xs = ys)
  | [], [] => by simp [toPyL, PyData.eqvAll]
  | [], _ :: _ => by simp [toPyL, PyData.eqvAll]
  | _ :: _, [] => by simp [toPyL, PyData.eqvAll]
  | x :: xs, y :: ys => by
    have ih := eqv_all he xs ys
    have h := he x y
    simp only [List.map_cons, toPyL, PyData.eqvAll, ih]
    have h' : PyData.eqv (toPy (e x)) (toPy (e y)) = decide (x = y) := h
    rw [h']
    simp
instance {α : Type} [DecidableEq α] {e : α → D} {n : Nat} [h : Nice e n] : Nice (qL e) (n + 1) := ⟨fun xs => by
  show okDs n (xs.map e) = true
  rw [okDs_all]
  intro d hd
  obtain ⟨x, _, rfl⟩ := List.mem_map.mp hd
  exact h.ok x, fun xs ys => by
  have := eqv_all h.eq xs ys
  simpa [eqvD, toPy, PyData.eqv] using this⟩
instance {α : Type} [DecidableEq α] {e : α → D} {n : Nat} [h : Nice e n] : Nice (qT e) (n + 1) := ⟨fun xs => by
  show okDs n (xs.map e) = true
  rw [okDs_all]
  intro d hd
  obtain ⟨x, _, rfl⟩ := List.mem_map.mp hd
  exact h.ok x, fun xs ys => by
  have := eqv_all h.eq xs ys
  simpa [eqvD, toPy, PyData.eqv] using this⟩
section
variable {α β γ δ ε : Type} [DecidableEq α] [DecidableEq β] [DecidableEq γ] [DecidableEq δ] [DecidableEq ε] {e : α → D} {f : β → D} {g : γ → D} {h : δ → D} {i : ε → D} {a b c d j : Nat}
instance [ha : Nice e a] : Nice (qP1 e) (a + 1) := ⟨fun p => by
  show okDs _ [e p] = true
  simp [okDs, ha.ok], fun p q => by
  have h1 := ha.eq p q
  simp only [eqvD] at h1
  simp [eqvD, toPy, toPyL, PyData.eqv, PyData.eqvAll, h1]⟩
instance [ha : Nice e a] : Nice (qQ1 e) (a + 1) := ⟨fun p => by
  show okDs _ [e p] = true
  simp [okDs, ha.ok], fun p q => by
  have h1 := ha.eq p q
  simp only [eqvD] at h1
  simp [eqvD, toPy, toPyL, PyData.eqv, PyData.eqvAll, h1]⟩
theorem nice2 [ha : Nice e a] [hb : Nice f b] (p q : α × β) : okDs (max a b) [e p.1, f p.2] = true ∧ PyData.eqvAll (toPyL [e p.1, f p.2]) (toPyL [e q.1, f q.2]) = decide (p = q) := by
  have h1 := ha.eq p.1 q.1
  have h2 := hb.eq p.2 q.2
  simp only [eqvD] at h1 h2
  refine ⟨by simp [okDs, okD_mono (Nat.le_max_left a b) (ha.ok _), okD_mono (Nat.le_max_right a b) (hb.ok _)], ?_⟩
  simp only [toPyL, PyData.eqvAll, h1, h2]
  obtain ⟨p1, p2⟩ := p
  obtain ⟨q1, q2⟩ := q
  simp
theorem nice3 [ha : Nice e a] [hb : Nice f b] [hc : Nice g c] (p q : α × β × γ) : okDs (max a (max b c)) [e p.1, f p.2.1, g p.2.2] = true ∧ PyData.eqvAll (toPyL [e p.1, f p.2.1, g p.2.2]) (toPyL [e q.1, f q.2.1, g q.2.2]) = decide (p = q) := by
  have h1 := ha.eq p.1 q.1
  have h2 := nice2 (e := f) (f := g) p.2 q.2
  simp only [eqvD] at h1
  refine ⟨?_, ?_⟩
  · rw [okDs_all]
    have q1 := h2.1
    rw [okDs_all] at q1
    intro d hd
    rcases List.mem_cons.mp hd with z | z
    · rw [z]; exact okD_mono (Nat.le_max_left _ _) (ha.ok _)
    · exact okD_mono (Nat.le_max_right _ _) (q1 d z)
  · have h3 : PyData.eqvAll (toPyL [f p.2.1, g p.2.2]) (toPyL [f q.2.1, g q.2.2]) = decide (p.2 = q.2) := h2.2
    rw [eqvC, h1, h3]
    obtain ⟨p1, p2⟩ := p
    obtain ⟨q1, q2⟩ := q
    simp
theorem nice4 [ha : Nice e a] [hb : Nice f b] [hc : Nice g c] [hd : Nice h d] (p q : α × β × γ × δ) : okDs (max a (max b (max c d))) [e p.1, f p.2.1, g p.2.2.1, h p.2.2.2] = true ∧ PyData.eqvAll (toPyL [e p.1, f p.2.1, g p.2.2.1, h p.2.2.2]) (toPyL [e q.1, f q.2.1, g q.2.2.1, h q.2.2.2]) = decide (p = q) := by
  have h1 := ha.eq p.1 q.1
  have h2 := nice3 (e := f) (f := g) (g := h) p.2 q.2
  simp only [eqvD] at h1
  refine ⟨?_, ?_⟩
  · rw [okDs_all]
    have q1 := h2.1
    rw [okDs_all] at q1
    intro d hd
    rcases List.mem_cons.mp hd with z | z
    · rw [z]; exact okD_mono (Nat.le_max_left _ _) (ha.ok _)
    · exact okD_mono (Nat.le_max_right _ _) (q1 d z)
  · have h3 : PyData.eqvAll (toPyL [f p.2.1, g p.2.2.1, h p.2.2.2]) (toPyL [f q.2.1, g q.2.2.1, h q.2.2.2]) = decide (p.2 = q.2) := h2.2
    rw [eqvC, h1, h3]
    obtain ⟨p1, p2⟩ := p
    obtain ⟨q1, q2⟩ := q
    simp
theorem nice5 [ha : Nice e a] [hb : Nice f b] [hc : Nice g c] [hd : Nice h d] [hi : Nice i j] (p q : α × β × γ × δ × ε) : okDs (max a (max b (max c (max d j)))) [e p.1, f p.2.1, g p.2.2.1, h p.2.2.2.1, i p.2.2.2.2] = true ∧ PyData.eqvAll (toPyL [e p.1, f p.2.1, g p.2.2.1, h p.2.2.2.1, i p.2.2.2.2]) (toPyL [e q.1, f q.2.1, g q.2.2.1, h q.2.2.2.1, i q.2.2.2.2]) = decide (p = q) := by
  have h1 := ha.eq p.1 q.1
  have h2 := nice4 (e := f) (f := g) (g := h) (h := i) p.2 q.2
  simp only [eqvD] at h1
  refine ⟨?_, ?_⟩
  · rw [okDs_all]
    have q1 := h2.1
    rw [okDs_all] at q1
    intro d hd
    rcases List.mem_cons.mp hd with z | z
    · rw [z]; exact okD_mono (Nat.le_max_left _ _) (ha.ok _)
    · exact okD_mono (Nat.le_max_right _ _) (q1 d z)
  · have h3 : PyData.eqvAll (toPyL [f p.2.1, g p.2.2.1, h p.2.2.2.1, i p.2.2.2.2]) (toPyL [f q.2.1, g q.2.2.1, h q.2.2.2.1, i q.2.2.2.2]) = decide (p.2 = q.2) := h2.2
    rw [eqvC, h1, h3]
    obtain ⟨p1, p2⟩ := p
    obtain ⟨q1, q2⟩ := q
    simp
instance [ha : Nice e a] [hb : Nice f b] : Nice (qP e f) (max a b + 1) := ⟨fun p => (nice2 p p).1, fun p q => by have := (nice2 (e := e) (f := f) p q).2; simpa [eqvD, toPy, PyData.eqv] using this⟩
instance [ha : Nice e a] [hb : Nice f b] : Nice (qQ e f) (max a b + 1) := ⟨fun p => (nice2 p p).1, fun p q => by have := (nice2 (e := e) (f := f) p q).2; simpa [eqvD, toPy, PyData.eqv] using this⟩
instance [ha : Nice e a] [hb : Nice f b] [hc : Nice g c] : Nice (qP3 e f g) (max a (max b c) + 1) := ⟨fun p => (nice3 p p).1, fun p q => by have := (nice3 (e := e) (f := f) (g := g) p q).2; simpa [eqvD, toPy, PyData.eqv] using this⟩
instance [ha : Nice e a] [hb : Nice f b] [hc : Nice g c] : Nice (qQ3 e f g) (max a (max b c) + 1) := ⟨fun p => (nice3 p p).1, fun p q => by have := (nice3 (e := e) (f := f) (g := g) p q).2; simpa [eqvD, toPy, PyData.eqv] using this⟩
instance [ha : Nice e a] [hb : Nice f b] [hc : Nice g c] [hd : Nice h d] : Nice (qP4 e f g h) (max a (max b (max c d)) + 1) := ⟨fun p => (nice4 p p).1, fun p q => by have := (nice4 (e := e) (f := f) (g := g) (h := h) p q).2; simpa [eqvD, toPy, PyData.eqv] using this⟩
instance [ha : Nice e a] [hb : Nice f b] [hc : Nice g c] [hd : Nice h d] : Nice (qQ4 e f g h) (max a (max b (max c d)) + 1) := ⟨fun p => (nice4 p p).1, fun p q => by have := (nice4 (e := e) (f := f) (g := g) (h := h) p q).2; simpa [eqvD, toPy, PyData.eqv] using this⟩
instance [ha : Nice e a] [hb : Nice f b] [hc : Nice g c] [hd : Nice h d] [hi : Nice i j] : Nice (qP5 e f g h i) (max a (max b (max c (max d j))) + 1) := ⟨fun p => (nice5 p p).1, fun p q => by have := (nice5 (e := e) (f := f) (g := g) (h := h) (i := i) p q).2; simpa [eqvD, toPy, PyData.eqv] using this⟩
instance [ha : Nice e a] [hb : Nice f b] [hc : Nice g c] [hd : Nice h d] [hi : Nice i j] : Nice (qQ5 e f g h i) (max a (max b (max c (max d j))) + 1) := ⟨fun p => (nice5 p p).1, fun p q => by have := (nice5 (e := e) (f := f) (g := g) (h := h) (i := i) p q).2; simpa [eqvD, toPy, PyData.eqv] using this⟩
end
/-- never None -/
class NoN {α : Type} (e : α → D) : Prop where
  no : ∀ a, isN (e a) = false
  eq : ∀ a, eqvD (e a) .non = false ∧ eqvD .non (e a) = false
instance : NoN qI := ⟨fun _ => rfl, fun _ => by simp [eqvD, toPy, PyData.eqv]⟩
instance : NoN qB := ⟨fun _ => rfl, fun _ => by simp [eqvD, toPy, PyData.eqv]⟩
instance : NoN qS := ⟨fun _ => rfl, fun _ => by simp [eqvD, toPy, PyData.eqv]⟩
section
variable {α β γ δ ε : Type} {e : α → D} {f : β → D} {g : γ → D} {h : δ → D} {i : ε → D}
instance : NoN (qL e) := ⟨fun _ => rfl, fun _ => by simp [eqvD, toPy, PyData.eqv]⟩
instance : NoN (qT e) := ⟨fun _ => rfl, fun _ => by simp [eqvD, toPy, PyData.eqv]⟩
instance : NoN (qP1 e) := ⟨fun _ => rfl, fun _ => by simp [eqvD, toPy, PyData.eqv]⟩
instance : NoN (qQ1 e) := ⟨fun _ => rfl, fun _ => by simp [eqvD, toPy, PyData.eqv]⟩
instance : NoN (qP e f) := ⟨fun _ => rfl, fun _ => by simp [eqvD, toPy, PyData.eqv]⟩
instance : NoN (qQ e f) := ⟨fun _ => rfl, fun _ => by simp [eqvD, toPy, PyData.eqv]⟩
instance : NoN (qP3 e f g) := ⟨fun _ => rfl, fun _ => by simp [eqvD, toPy, PyData.eqv]⟩
instance : NoN (qQ3 e f g) := ⟨fun _ => rfl, fun _ => by simp [eqvD, toPy, PyData.eqv]⟩
instance : NoN (qP4 e f g h) := ⟨fun _ => rfl, fun _ => by simp [eqvD, toPy, PyData.eqv]⟩
instance : NoN (qP5 e f g h i) := ⟨fun _ => rfl, fun _ => by simp [eqvD, toPy, PyData.eqv]⟩
instance : NoN (qDK e) := ⟨fun _ => rfl, fun _ => by simp [eqvD, toPy, PyData.eqv]⟩
instance : NoN (qDT e) := ⟨fun _ => rfl, fun _ => by simp [eqvD, toPy, PyData.eqv]⟩
instance : NoN (qDI e) := ⟨fun _ => rfl, fun _ => by simp [eqvD, toPy, PyData.eqv]⟩
end
instance {α : Type} [DecidableEq α] {e : α → D} {n : Nat} [h : Nice e n] [hn : NoN e] : Nice (qO e) n := ⟨fun o => by
  cases o with
  | none => show okD n .non = true; cases n <;> rfl
  | some a => exact h.ok a, fun a b => by
  cases a with
  | none => cases b with
    | none => simp [qO, eqvD, toPy, PyData.eqv]
    | some b => show eqvD .non (e b) = _; rw [(hn.eq b).2]; simp
  | some a => cases b with
    | none => show eqvD (e a) .non = _; rw [(hn.eq a).1]; simp
    | some b => show eqvD (e a) (e b) = _; rw [h.eq a b]; simp⟩

/-! ### operators -/
section
variable {α β : Type} {e : α → D} {f : β → D}
theorem r_addI (a b : Int) : dAdd (qI a) (qI b) = some (qI (a + b)) := rfl
theorem r_subI (a b : Int) : dSub (qI a) (qI b) = some (qI (a - b)) := rfl
theorem r_mulI {a b : Int} (g : CMul a b) : dMul (qI a) (qI b) = some (qI (a * b)) := gd_t g
theorem r_divI {a b : Int} (g : CDivN a b) : dDiv (qI a) (qI b) = some (qI (a.fdiv b)) := gd_t g
theorem r_modI {a b : Int} (g : b ≠ 0) : dMod (qI a) (qI b) = some (qI (a.fmod b)) := gd_t g
theorem r_powI {a b : Int} (g : CPow a b) : dPow (qI a) (qI b) = some (qI (a ^ b.toNat)) := gd_t g
theorem r_ltI (a b : Int) : dLt (qI a) (qI b) = some (qB (decide (a < b))) := rfl
theorem r_leI (a b : Int) : dLe (qI a) (qI b) = some (qB (decide (a ≤ b))) := rfl
theorem r_gtI (a b : Int) : dGt (qI a) (qI b) = some (qB (decide (b < a))) := rfl
theorem r_geI (a b : Int) : dGe (qI a) (qI b) = some (qB (decide (b ≤ a))) := rfl
theorem r_negI (a : Int) : dNeg (qI a) = some (qI (-a)) := rfl
theorem r_shlI {a b : Int} (g : CPow a b) : dShl (qI a) (qI b) = some (qI (a * 2 ^ b.toNat)) := gd_t g
theorem r_shrI {a b : Int} (g : 0 ≤ b) : dShr (qI a) (qI b) = some (qI (a / 2 ^ b.toNat)) := gd_t g
theorem r_andI (a b : Int) : dBAnd (qI a) (qI b) = some (qI (Builtin.bitAnd a b)) := rfl
theorem r_orI (a b : Int) : dBOr (qI a) (qI b) = some (qI (Builtin.bitOr a b)) := rfl
theorem r_xorI (a b : Int) : dXor (qI a) (qI b) = some (qI (Builtin.bitXor a b)) := rfl
theorem r_invI (a : Int) : dInv (qI a) = some (qI (Builtin.bitNot a)) := rfl
theorem r_bitsI (a : Int) : dBits (qI a) = some (qI (Builtin.Int.intBits a : Nat)) := rfl
theorem r_ltS (a b : Tx) : dLtS (qS a) (qS b) = some (qB (decide (a.1.cps.toList < b.1.cps.toList))) := rfl
theorem r_leS (a b : Tx) : dLeS (qS a) (qS b) = some (qB (!decide (b.1.cps.toList < a.1.cps.toList))) := rfl
theorem r_addS {a b : Tx} (g : a.1.length + b.1.length ≤ sizeLine) : dAdd (qS a) (qS b) = some (qS (a ++ b)) := gd_t g
theorem r_addL {xs ys : List α} (g : xs.length + ys.length ≤ sizeLine) : dAdd (qL e xs) (qL e ys) = some (qL e (xs ++ ys)) := by
  show gd _ _ = _
  rw [gd_t (by rw [List.length_map, List.length_map]; exact g), ← List.map_append]
theorem r_catL {xs ys : List α} (g : xs.length + ys.length ≤ sizeLine) : dCat (qL e xs) (qL e ys) = some (qL e (xs ++ ys)) := by
  show gd _ _ = _
  rw [gd_t (by rw [List.length_map, List.length_map]; exact g), ← List.map_append]
theorem r_addT {xs ys : List α} (g : xs.length + ys.length ≤ sizeLine) : dAdd (qT e xs) (qT e ys) = some (qT e (xs ++ ys)) := by
  show gd _ _ = _
  rw [gd_t (by rw [List.length_map, List.length_map]; exact g), ← List.map_append]
/-- tuples of tuples -/
theorem r_addD {xs ys : List D} (g : xs.length + ys.length ≤ sizeLine) : dAdd (.tup xs) (.tup ys) = some (.tup (xs ++ ys)) := gd_t g
theorem r_repL {xs : List α} {k : Int} (g : k ≤ 1000000 ∧ -1000000 ≤ k ∧ xs.length * k.toNat ≤ sizeLine) : dMul (qL e xs) (qI k) = some (qL e (List.replicate k.toNat xs).flatten) := by
  show gd _ _ = _
  rw [gd_t (by rw [List.length_map]; exact g), ← List.map_replicate, ← List.map_flatten]
theorem nice_shp [DecidableEq α] {n : Nat} [h : Nice e n] (hn : n ≤ 63 := by decide) (a : α) : shp (e a) = true := shp_of (h.ok a) hn
theorem r_eq [DecidableEq α] {n : Nat} [h : Nice e n] (a b : α) (hn : n ≤ 63 := by decide) : dEq (e a) (e b) = some (qB (decide (a = b))) := by
  unfold dEq
  rw [gd_t ⟨nice_shp hn a, nice_shp hn b⟩, h.eq]
theorem r_ne [DecidableEq α] {n : Nat} [h : Nice e n] (a b : α) (hn : n ≤ 63 := by decide) : dNe (e a) (e b) = some (qB (!decide (a = b))) := by
  unfold dNe
  rw [gd_t ⟨nice_shp hn a, nice_shp hn b⟩, h.eq]
theorem any_mem [DecidableEq α] {n : Nat} [h : Nice e n] (a : α) : ∀ xs : List α, ((xs.map e).any fun z => eqvD z (e a)) = isIn a xs
  | [] => by simp [isIn]
  | x :: xs => by
    rw [List.map_cons, List.any_cons, any_mem a xs, h.eq]
    unfold isIn
    by_cases q : x = a
    · subst q; simp
    · have q' : ¬ a = x := fun z => q z.symm
      simp [q, q']
theorem inL [DecidableEq α] {n : Nat} [h : Nice e n] (a : α) (xs : List α) (hn : n ≤ 62) : inB (e a) (qL e xs) = some (isIn a xs) := by
  have r : inB (e a) (qL e xs) = gd (shp (e a) = true ∧ shp (.lst (xs.map e)) = true) (some ((xs.map e).any fun z => eqvD z (e a))) := rfl
  have h2 : Nice (qL e) (n + 1) := inferInstance
  rw [r, gd_t ⟨nice_shp (by omega) a, nice_shp (e := qL e) (by omega) xs⟩, any_mem]
theorem r_inL [DecidableEq α] {n : Nat} [h : Nice e n] (a : α) (xs : List α) (hn : n ≤ 62 := by decide) : dIn (e a) (qL e xs) = some (qB (isIn a xs)) := by
  unfold dIn
  rw [inL a xs hn]
  rfl
theorem r_ninL [DecidableEq α] {n : Nat} [h : Nice e n] (a : α) (xs : List α) (hn : n ≤ 62 := by decide) : dNotIn (e a) (qL e xs) = some (qB (!isIn a xs)) := by
  unfold dNotIn
  rw [inL a xs hn]
  rfl
class Flat (e : α → D) : Prop where
  fl : ∀ a, flatD (e a) = true
instance : Flat qI := ⟨fun _ => rfl⟩
instance : Flat qB := ⟨fun _ => rfl⟩
instance : Flat qS := ⟨fun _ => rfl⟩
theorem inT [DecidableEq α] {n : Nat} [h : Nice e n] [hf : Flat e] (a : α) (xs : List α) : inB (e a) (qT e xs) = some (isIn a xs) := by
  have r : inB (e a) (qT e xs) = gd (flatD (e a) = true ∧ (xs.map e).all flatD = true) (some ((xs.map e).any fun z => eqvD z (e a))) := rfl
  rw [r, gd_t ⟨hf.fl a, by rw [List.all_map, List.all_eq_true]; exact fun x _ => hf.fl x⟩, any_mem]
theorem inKt [DecidableEq α] {n : Nat} [h : Nice e n] [hf : Flat e] (a : α) (xs : List α) : inB (e a) (qKt e xs) = some (isIn a xs) := by
  have r : inB (e a) (qKt e xs) = gd (flatD (e a) = true ∧ (xs.map e).all flatD = true) (some ((xs.map e).any fun z => eqvD z (e a))) := rfl
  rw [r, gd_t ⟨hf.fl a, by rw [List.all_map, List.all_eq_true]; exact fun x _ => hf.fl x⟩, any_mem]
theorem r_inT [DecidableEq α] {n : Nat} [h : Nice e n] [hf : Flat e] (a : α) (xs : List α) : dIn (e a) (qT e xs) = some (qB (isIn a xs)) := by
  unfold dIn; rw [inT]; rfl
theorem r_ninT [DecidableEq α] {n : Nat} [h : Nice e n] [hf : Flat e] (a : α) (xs : List α) : dNotIn (e a) (qT e xs) = some (qB (!isIn a xs)) := by
  unfold dNotIn; rw [inT]; rfl
theorem r_inKt [DecidableEq α] {n : Nat} [h : Nice e n] [hf : Flat e] (a : α) (xs : List α) : dIn (e a) (qKt e xs) = some (qB (isIn a xs)) := by
  unfold dIn; rw [inKt]; rfl
theorem r_ninKt [DecidableEq α] {n : Nat} [h : Nice e n] [hf : Flat e] (a : α) (xs : List α) : dNotIn (e a) (qKt e xs) = some (qB (!isIn a xs)) := by
  unfold dNotIn; rw [inKt]; rfl
theorem isSome_mapD {o : Option β} {g : β → D} : (o.map g).isSome = o.isSome := by cases o <;> rfl
theorem kHas_eq {κ β : Type} [DecidableEq κ] {d : List (κ × β)} {k : κ} : kHas d k = (kGet d k).isSome := by unfold kHas; rfl
theorem r_inDK (k : Tx) (d : List (Tx × β)) : dIn (qS k) (qDK f d) = some (qB (kHas d k)) := by
  have r : dIn (qS k) (qDK f d) = some (qB (dGet (d.map fun p => (kS p.1, f p.2)) (kS k)).isSome) := rfl
  rw [r, get_map (fun _ _ => kS_inj), isSome_mapD, kHas_eq]
theorem r_ninDK (k : Tx) (d : List (Tx × β)) : dNotIn (qS k) (qDK f d) = some (qB (!kHas d k)) := by
  have r : dNotIn (qS k) (qDK f d) = some (qB (!(dGet (d.map fun p => (kS p.1, f p.2)) (kS k)).isSome)) := rfl
  rw [r, get_map (fun _ _ => kS_inj), isSome_mapD, kHas_eq]
theorem r_inDI (k : Int) (d : List (Int × β)) : dIn (qI k) (qDI f d) = some (qB (kHas d k)) := by
  have r : dIn (qI k) (qDI f d) = some (qB (dGet (d.map fun p => (kI p.1, f p.2)) (kI k)).isSome) := rfl
  rw [r, get_map (fun _ _ => kI_inj), isSome_mapD, kHas_eq]
theorem r_ninDI (k : Int) (d : List (Int × β)) : dNotIn (qI k) (qDI f d) = some (qB (!kHas d k)) := by
  have r : dNotIn (qI k) (qDI f d) = some (qB (!(dGet (d.map fun p => (kI p.1, f p.2)) (kI k)).isSome)) := rfl
  rw [r, get_map (fun _ _ => kI_inj), isSome_mapD, kHas_eq]
theorem inDT (k : List Tx) (d : List (List Tx × β)) : inB (qT qS k) (qDT f d) = some (kHas d k) := by
  have r : inB (qT qS k) (qDT f d) = bn1 (dKeys (k.map qS)) fun q => some (dGet (d.map fun p => (kT p.1, f p.2)) q).isSome := rfl
  rw [r, dKeys_kT, bn1_s, get_map (fun _ _ => kT_inj), isSome_mapD, kHas_eq]
theorem r_inDT (k : List Tx) (d : List (List Tx × β)) : dIn (qT qS k) (qDT f d) = some (qB (kHas d k)) := by
  unfold dIn; rw [inDT]; rfl
theorem r_ninDT (k : List Tx) (d : List (List Tx × β)) : dNotIn (qT qS k) (qDT f d) = some (qB (!kHas d k)) := by
  unfold dNotIn; rw [inDT]; rfl
theorem r_isN [h : NoN e] (o : Option α) : dIsN (qO e o) .non = some (qB o.isNone) := by
  cases o with
  | none => rfl
  | some a => show gd _ (some (D.bl (isN (e a)))) = _; rw [h.no]; rfl
theorem r_notN [h : NoN e] (o : Option α) : dIsNotN (qO e o) .non = some (qB o.isSome) := by
  cases o with
  | none => rfl
  | some a => show gd _ (some (D.bl (!isN (e a)))) = _; rw [h.no]; rfl
theorem r_isN0 [h : NoN e] (a : α) : dIsN (e a) .non = some (qB false) := by
  show gd _ (some (D.bl (isN (e a)))) = _; rw [h.no]; rfl
theorem r_notN0 [h : NoN e] (a : α) : dIsNotN (e a) .non = some (qB true) := by
  show gd _ (some (D.bl (!isN (e a)))) = _; rw [h.no]; rfl
theorem r_sameB (a b : Bool) : dSameB (qB a) (qB b) = some (qB (decide (a = b))) := rfl
theorem r_notB (a b : Bool) : dNotB (qB a) (qB b) = some (qB (!decide (a = b))) := rfl
/-! items -/
theorem r_ixL [Inhabited α] {xs : List α} {i : Int} (g : (atI xs i).isSome = true) : dIx (qL e xs) (qI i) = some (e (atD xs i)) := by
  show atI (xs.map e) i = _
  rw [atI_map]
  obtain ⟨x, hx⟩ := Option.isSome_iff_exists.mp g
  unfold atD
  rw [hx]; rfl
theorem r_ixT [Inhabited α] {xs : List α} {i : Int} (g : (atI xs i).isSome = true) : dIx (qT e xs) (qI i) = some (e (atD xs i)) := by
  show atI (xs.map e) i = _
  rw [atI_map]
  obtain ⟨x, hx⟩ := Option.isSome_iff_exists.mp g
  unfold atD
  rw [hx]; rfl
theorem r_ixKt [Inhabited α] {xs : List α} {i : Int} (g : (atI xs i).isSome = true) : dIx (qKt e xs) (qI i) = some (e (atD xs i)) := by
  show atI (xs.map e) i = _
  rw [atI_map]
  obtain ⟨x, hx⟩ := Option.isSome_iff_exists.mp g
  unfold atD
  rw [hx]; rfl
theorem r_ixScr {xs : List Int} {i : Int} (g : (atI xs i).isSome = true) : dIx (qScr xs) (qI i) = some (qI (atD xs i)) := by
  show bn1 (atI xs i) _ = _
  obtain ⟨x, hx⟩ := Option.isSome_iff_exists.mp g
  unfold atD
  rw [hx]; rfl
theorem r_ixDK [Inhabited β] {d : List (Tx × β)} {k : Tx} (g : kHas d k = true) : dIx (qDK f d) (qS k) = some (f (kAt d k)) := by
  show (some (dGet (d.map fun p => (kS p.1, f p.2)) (kS k))).join = _
  rw [get_map (fun _ _ => kS_inj)]
  unfold kHas at g
  obtain ⟨x, hx⟩ := Option.isSome_iff_exists.mp g
  unfold kAt
  rw [hx]; rfl
theorem r_ixDI [Inhabited β] {d : List (Int × β)} {k : Int} (g : kHas d k = true) : dIx (qDI f d) (qI k) = some (f (kAt d k)) := by
  show (some (dGet (d.map fun p => (kI p.1, f p.2)) (kI k))).join = _
  rw [get_map (fun _ _ => kI_inj)]
  unfold kHas at g
  obtain ⟨x, hx⟩ := Option.isSome_iff_exists.mp g
  unfold kAt
  rw [hx]; rfl
theorem r_ixDT [Inhabited β] {d : List (List Tx × β)} {k : List Tx} (g : kHas d k = true) : dIx (qDT f d) (qT qS k) = some (f (kAt d k)) := by
  show ((dKeys (k.map qS)).map (dGet (d.map fun p => (kT p.1, f p.2)))).join = _
  rw [dKeys_kT]
  show dGet (d.map fun p => (kT p.1, f p.2)) (kT k) = _
  rw [get_map (fun _ _ => kT_inj)]
  unfold kHas at g
  obtain ⟨x, hx⟩ := Option.isSome_iff_exists.mp g
  unfold kAt
  rw [hx]; rfl
/-! built-ins -/
theorem r_lenL (xs : List α) : dLen [qL e xs] = some (qI (xs.length : Nat)) := by
  show some (D.int ((xs.map e).length : Nat)) = _; rw [List.length_map]
theorem r_lenT (xs : List α) : dLen [qT e xs] = some (qI (xs.length : Nat)) := by
  show some (D.int ((xs.map e).length : Nat)) = _; rw [List.length_map]
theorem r_lenScr (xs : List Int) : dLen [qScr xs] = some (qI (xs.length : Nat)) := rfl
theorem r_lenDK (xs : List (Tx × β)) : dLen [qDK f xs] = some (qI (xs.length : Nat)) := by
  show some (D.int ((xs.map _).length : Nat)) = _; rw [List.length_map]
theorem r_lenDI (xs : List (Int × β)) : dLen [qDI f xs] = some (qI (xs.length : Nat)) := by
  show some (D.int ((xs.map _).length : Nat)) = _; rw [List.length_map]
theorem r_lenS {a : Tx} (g : a.1.length ≤ sizeLine) : dLen [qS a] = some (qI (a.1.length : Nat)) := gd_t g
theorem bools_map : ∀ bs : List Bool, dBools (bs.map qB) = some bs
  | [] => rfl
  | b :: bs => by show bn1 (dBools (bs.map qB)) _ = _; rw [bools_map bs]; rfl
theorem r_all (bs : List Bool) : dAll [qL qB bs] = some (qB (bs.all id)) := by
  show bn1 (dBools (bs.map qB)) _ = _; rw [bools_map]; rfl
theorem r_any (bs : List Bool) : dAny [qL qB bs] = some (qB (bs.any id)) := by
  show bn1 (dBools (bs.map qB)) _ = _; rw [bools_map]; rfl
theorem ints_map : ∀ bs : List Int, dInts (bs.map qI) = some bs
  | [] => rfl
  | b :: bs => by show bn1 (dInts (bs.map qI)) _ = _; rw [ints_map bs]; rfl
theorem r_sum (bs : List Int) : dSum [qL qI bs] = some (qI bs.sum) := by
  show bn1 (dInts (bs.map qI)) _ = _; rw [ints_map]; rfl
theorem r_tupleL (xs : List α) : dTuple [qL e xs] = some (qT e xs) := rfl
theorem r_tupleT (xs : List α) : dTuple [qT e xs] = some (qT e xs) := rfl
theorem r_listL (xs : List α) : dList [qL e xs] = some (qL e xs) := rfl
theorem r_listT (xs : List α) : dList [qT e xs] = some (qL e xs) := rfl
theorem r_absI (a : Int) : dAbs [qI a] = some (qI (if a < 0 then -a else a)) := rfl
theorem r_intI (a : Int) : dInt [qI a] = some (qI a) := rfl
theorem r_intB (a : Bool) : dInt [qB a] = some (qI (if a = true then 1 else 0)) := rfl
/-! truth -/
theorem t_B (b : Bool) : truD (qB b) = some b := rfl
theorem t_I (b : Int) : truD (qI b) = some (b != 0) := rfl
theorem t_L (xs : List α) : truD (qL e xs) = some (!xs.isEmpty) := by cases xs <;> rfl
theorem t_T (xs : List α) : truD (qT e xs) = some (!xs.isEmpty) := by cases xs <;> rfl
theorem t_S {a : Tx} (g : a.1.length ≤ sizeLine) : truD (qS a) = some ((a.1.length : Int) != 0) := if_pos g
/-! slices -/
theorem r_slL (xs : List α) (lo hi : Option Int) : dSl (qL e xs) lo hi = some (qL e (cutD xs lo hi)) := by
  show some (D.lst (cutD (xs.map e) lo hi)) = _; rw [cut_map]
theorem r_slT (xs : List α) (lo hi : Option Int) : dSl (qT e xs) lo hi = some (qT e (cutD xs lo hi)) := by
  show some (D.tup (cutD (xs.map e) lo hi)) = _; rw [cut_map]
theorem r_slScr (xs : List Int) (lo hi : Option Int) : dSl (qScr xs) lo hi = some (qL qI (cutD xs lo hi)) := rfl
end
end DX

/-! NB2: what an expression of a mirror gives, and what a run of statements does, told of plain values. -/
namespace DX
open PySem PySem.Spec L2

def EvX (f : SE) (ρ : Env) (C : Store) (d : D) (C' : Store) : Prop := f ρ C = some (.dat d, C')
def EvD (f : SE) (ρ : Env) (C : Store) (d : D) (C' : Store) : Prop := ∃ s, f ρ C = some (s, C') ∧ see C' s = some d
def EvT (f : ST) (ρ : Env) (C : Store) (b : Bool) (C' : Store) : Prop := f ρ C = some (b, C')
def EvN (f : SN) (ρ : Env) (C : Store) (d : D) (C' : Store) : Prop := f ρ C = some (d, C')
/-- arguments that are data -/
def EvA (f : SA) (ρ : Env) (C : Store) (ds : List D) (C' : Store) : Prop := f ρ C = some (ds.map Sv.dat, C')
/-- arguments of which some change -/
def EvS (f : SA) (ρ : Env) (C : Store) (ss : List Sv) (C' : Store) : Prop := f ρ C = some (ss, C')
/-- arguments as they are seen -/
def EvE (f : SA) (ρ : Env) (C : Store) (ds : List D) (C' : Store) : Prop := ∃ ss, f ρ C = some (ss, C') ∧ sees C' ss = some ds
def EvI (f : SI) (ρ : Env) (C : Store) (xs : List D) (cels : List (Nat × D)) (C' : Store) : Prop := f ρ C = some (⟨xs, cels⟩, C')
def EvO (f : SO) (ρ : Env) (C : Store) (o : Option Int) (C' : Store) : Prop := f ρ C = some (o, C')
section
variable {f g h : SE} {ρ : Env} {C C1 C2 C3 : Store} {d d1 d2 d3 z : D} {i n : Nat} {a : SA} {ds : List D} {ss : List Sv} {t u : ST} {b c : Bool} {N N' : SN}
theorem EvX.ed (h : EvX f ρ C d C1) : EvD f ρ C d C1 := ⟨_, h, rfl⟩
theorem EvX.to (h : EvX f ρ C d C1) (e : d = d1) : EvX f ρ C d1 C1 := e ▸ h
theorem v_x (h : ρ[i]?.join = some (.dat d)) : EvX (eVar i) ρ C d C := by
  show bn1 (ρ[i]?.join) _ = _; rw [h]; rfl
theorem v_s {s : Sv} (h : ρ[i]?.join = some s) : eVar i ρ C = some (s, C) := by
  show bn1 (ρ[i]?.join) _ = _; rw [h]; rfl
theorem v_c (h : ρ[i]?.join = some (.cel n)) (hc : C[n]? = some d) (hu : unlk d = d := by rfl) : EvD (eVar i) ρ C d C := by
  refine ⟨.cel n, v_s h, ?_⟩
  show (C[n]?).map unlk = _; rw [hc]; show some (unlk d) = _; rw [hu]
theorem c_x : EvX (eC d) ρ C d C := rfl
theorem bin_x {r : D → D → Option D} (h1 : EvX f ρ C d1 C1) (h2 : EvD g ρ C1 d2 C2) (hr : r d1 d2 = some z) : EvX (eBin r f g) ρ C z C2 := by
  obtain ⟨s, e2, w⟩ := h2
  unfold EvX at *
  rw [e_bin, h1, bnd_s, e2, bnd_s, see_d, bn1_s, w, bn1_s, hr, bn1_s]
theorem bin_p {r : D → D → Option D} (h1 : EvD f ρ C d1 C) (h2 : EvD g ρ C d2 C) (hr : r d1 d2 = some z) : EvX (eBin r f g) ρ C z C := by
  obtain ⟨s1, e1, w1⟩ := h1
  obtain ⟨s, e2, w⟩ := h2
  unfold EvX at *
  rw [e_bin, e1, bnd_s, e2, bnd_s, w1, bn1_s, w, bn1_s, hr, bn1_s]
theorem nbin_x {r : D → D → Option D} (h1 : EvX f ρ C d1 C1) (h2 : EvD g ρ C1 d2 C2) (hr : r d1 d2 = some z) : EvN (nBin r f g) ρ C z C2 := by
  obtain ⟨s, e2, w⟩ := h2
  unfold EvX at *
  unfold EvN
  rw [e_nbin, h1, bnd_s, e2, bnd_s, see_d, bn1_s, w, bn1_s, hr, bn1_s]
theorem nbin_p {r : D → D → Option D} (h1 : EvD f ρ C d1 C) (h2 : EvD g ρ C d2 C) (hr : r d1 d2 = some z) : EvN (nBin r f g) ρ C z C := by
  obtain ⟨s1, e1, w1⟩ := h1
  obtain ⟨s, e2, w⟩ := h2
  unfold EvN
  rw [e_nbin, e1, bnd_s, e2, bnd_s, w1, bn1_s, w, bn1_s, hr, bn1_s]
theorem un_x {r : D → Option D} (h1 : EvD f ρ C d1 C1) (hr : r d1 = some z) : EvX (eUn r f) ρ C z C1 := by
  obtain ⟨s1, e1, w1⟩ := h1
  unfold EvX
  rw [e_un, e1, bnd_s, w1, bn1_s, hr, bn1_s]
theorem an : EvA aNil ρ C [] C := rfl
theorem ac (h1 : EvX f ρ C d C1) (h2 : EvA a ρ C1 ds C2) : EvA (aCons f a) ρ C (d :: ds) C2 := by
  unfold EvX EvA at *
  rw [e_cons, h1, bnd_s, h2, bnd_s]
  rfl
theorem sn : EvS aNil ρ C [] C := rfl
theorem sc_x (h1 : EvX f ρ C d C1) (h2 : EvS a ρ C1 ss C2) : EvS (aCons f a) ρ C (.dat d :: ss) C2 := by
  unfold EvX EvS at *
  rw [e_cons, h1, bnd_s, h2, bnd_s]
theorem sc_s {s : Sv} (h1 : f ρ C = some (s, C1)) (h2 : EvS a ρ C1 ss C2) : EvS (aCons f a) ρ C (s :: ss) C2 := by
  unfold EvS at *
  rw [e_cons, h1, bnd_s, h2, bnd_s]
theorem sc_n (h1 : EvN N ρ C d C1) (h2 : EvS a ρ (C1 ++ [d]) ss C2) : EvS (aNew N a) ρ C (.cel C1.length :: ss) C2 := by
  unfold EvN EvS at *
  unfold aNew
  rw [h1, bnd_s, h2, bnd_s]
theorem ens : EvE aNil ρ C [] C := ⟨[], rfl, rfl⟩
theorem ec1 (h1 : EvD f ρ C d C1) : EvE (aCons f aNil) ρ C [d] C1 := by
  obtain ⟨s, e, w⟩ := h1
  refine ⟨[s], by rw [e_cons, e, bnd_s, e_nil, bnd_s], ?_⟩
  show bn1 (see C1 s) _ = _
  rw [w]; rfl
theorem ea (h : EvA a ρ C ds C1) : EvE a ρ C ds C1 := by
  refine ⟨_, h, ?_⟩
  have : ∀ ds : List D, sees C1 (ds.map Sv.dat) = some ds := by
    intro ds
    induction ds with
    | nil => rfl
    | cons x r ih => show bn1 (see C1 (.dat x)) _ = _; rw [see_d, bn1_s, ih]; rfl
  exact this ds
theorem b_x {k : List D → Option D} (h : EvE a ρ C ds C1) (hr : k ds = some z) : EvX (eB k a) ρ C z C1 := by
  obtain ⟨ss, e, w⟩ := h
  unfold EvX
  rw [e_b, e, bnd_s, w, bn1_s, hr, bn1_s]
theorem nb_x {k : List D → Option D} (h : EvE a ρ C ds C1) (hr : k ds = some z) : EvN (nB k a) ρ C z C1 := by
  obtain ⟨ss, e, w⟩ := h
  unfold EvN
  rw [e_nb, e, bnd_s, w, bn1_s, hr, bn1_s]
theorem dats_map : ∀ ds : List D, dats (ds.map Sv.dat) = some ds
  | [] => rfl
  | d :: ds => by show bn1 (dats (ds.map Sv.dat)) _ = _; rw [dats_map ds]; rfl
theorem tup_x (h : EvA a ρ C ds C1) (hl : ds.length ≤ 1000) : EvX (eTup a) ρ C (.tup ds) C1 := by
  unfold EvA at h
  unfold EvX
  rw [e_tup, h, bnd_s, dats_map, bn1_s, gd_t hl]
theorem lst_n (h : EvA a ρ C ds C1) (hl : ds.length ≤ 1000) : EvN (nLst a) ρ C (.lst ds) C1 := by
  unfold EvA at h
  unfold EvN
  rw [e_lst, h, bnd_s, dats_map, bn1_s, gd_t hl]
theorem fr_x (h : EvN N ρ C d C1) (hl : nolk d = true := by rfl) : EvX (eFr N) ρ C d C1 := by
  unfold EvN at h
  unfold EvX
  rw [e_fr, h, bnd_s, gd_t hl]
theorem call_x {F : FE} {np : Nat} {s : Sv} (h : EvS a ρ C ss C1) (hl : ss.length = np) (hF : F ss C1 = some (s, C2)) : eCall np F a ρ C = some (s, C2) := by
  unfold EvS at h
  rw [e_call, h, bnd_s, gd_t hl, hF]
theorem as_s (h : EvA a ρ C ds C1) : EvS a ρ C (ds.map Sv.dat) C1 := h
theorem ncall_x {F : FN} {np : Nat} (h : EvS a ρ C ss C1) (hl : ss.length = np) (hF : F ss C1 = some (d, C2)) : EvN (nCall np F a) ρ C d C2 := by
  unfold EvS at h
  unfold EvN nCall
  rw [h, bnd_s, gd_t hl, hF]
theorem callk_x {F : FE} {np p q : Nat} {is : List Nat} {a2 : SA} {ss2 : List Sv} {s : Sv} (h : EvS a ρ C ss C1) (h2 : EvS a2 ρ C1 ss2 C2) (hl : ss.length = p ∧ ss2.length = q ∧ (pick is (ss ++ ss2)).length = np) (hF : F (pick is (ss ++ ss2)) C2 = some (s, C3)) : eCallK np p q is F a a2 ρ C = some (s, C3) := by
  unfold EvS at h h2
  unfold eCallK
  rw [h, bnd_s, h2, bnd_s, gd_t hl, hF]
theorem ncallk_x {F : FN} {np p q : Nat} {is : List Nat} {a2 : SA} {ss2 : List Sv} (h : EvS a ρ C ss C1) (h2 : EvS a2 ρ C1 ss2 C2) (hl : ss.length = p ∧ ss2.length = q ∧ (pick is (ss ++ ss2)).length = np) (hF : F (pick is (ss ++ ss2)) C2 = some (d, C3)) : EvN (nCallK np p q is F a a2) ρ C d C3 := by
  unfold EvS at h h2
  unfold EvN nCallK
  rw [h, bnd_s, h2, bnd_s, gd_t hl, hF]
/-! truths -/
theorem and_x (h1 : EvX f ρ C (qB b) C1) (h2 : b = true → EvX g ρ C1 (qB c) C1) : EvX (eAndV f g) ρ C (qB (b && c)) C1 := by
  unfold EvX at *
  unfold eAndV
  rw [h1, bnd_s]
  cases b with
  | true => exact h2 rfl
  | false => rfl
theorem or_x (h1 : EvX f ρ C (qB b) C1) (h2 : b = false → EvX g ρ C1 (qB c) C1) : EvX (eOrV f g) ρ C (qB (b || c)) C1 := by
  unfold EvX at *
  unfold eOrV
  rw [h1, bnd_s]
  cases b with
  | true => rfl
  | false => exact h2 rfl
theorem not_x (h1 : EvX f ρ C (qB b) C1) : EvX (eNotV f) ρ C (qB (!b)) C1 := by
  unfold EvX at *
  unfold eNotV
  rw [h1, bnd_s]
theorem tb_t (h : EvX f ρ C (qB b) C1) : EvT (tB' f) ρ C b C1 := by
  unfold EvX at h
  unfold EvT
  rw [t_b, h, bnd_s]
theorem tt_t (h : EvD f ρ C d C1) (hr : truD d = some b) : EvT (tTru f) ρ C b C1 := by
  obtain ⟨s, e, w⟩ := h
  unfold EvT
  rw [t_tru, e, bnd_s, w, bn1_s, hr, bn1_s]
theorem and_t (h1 : EvT t ρ C b C1) (h2 : b = true → EvT u ρ C1 c C1) : EvT (tAnd' t u) ρ C (b && c) C1 := by
  unfold EvT at *
  rw [t_and, h1, bnd_s]
  cases b with
  | true => rw [if_pos rfl]; exact h2 rfl
  | false => rw [if_neg Bool.false_ne_true]; rfl
theorem or_t (h1 : EvT t ρ C b C1) (h2 : b = false → EvT u ρ C1 c C1) : EvT (tOr' t u) ρ C (b || c) C1 := by
  unfold EvT at *
  rw [t_or, h1, bnd_s]
  cases b with
  | true => rw [if_pos rfl]; rfl
  | false => rw [if_neg Bool.false_ne_true]; exact h2 rfl
theorem not_t (h1 : EvT t ρ C b C1) : EvT (tNot' t) ρ C (!b) C1 := by
  unfold EvT at *
  rw [t_not, h1, bnd_s]
theorem yes_t : EvT tYes' ρ C true C := rfl
theorem if_x {α : Type} {e : α → D} {x y : α} (h : EvT t ρ C b C1) (h1 : b = true → EvX f ρ C1 (e x) C1) (h2 : b = false → EvX g ρ C1 (e y) C1) : EvX (eIf t f g) ρ C (e (if b = true then x else y)) C1 := by
  unfold EvT EvX at *
  rw [e_if, h, bnd_s]
  cases b with
  | true => rw [if_pos rfl, if_pos rfl]; exact h1 rfl
  | false => rw [if_neg Bool.false_ne_true, if_neg Bool.false_ne_true]; exact h2 rfl
theorem if_n {α : Type} {e : α → D} {x y : α} (h : EvT t ρ C b C1) (h1 : b = true → EvN N ρ C1 (e x) C1) (h2 : b = false → EvN N' ρ C1 (e y) C1) : EvN (nIf t N N') ρ C (e (if b = true then x else y)) C1 := by
  unfold EvT at h
  unfold EvN at *
  unfold nIf
  rw [h, bnd_s]
  cases b with
  | true => rw [if_pos rfl, if_pos rfl]; exact h1 rfl
  | false => rw [if_neg Bool.false_ne_true, if_neg Bool.false_ne_true]; exact h2 rfl
theorem orT_n {α : Type} {e : α → D} {xs ys : List α} (h1 : EvN N ρ C (qL e xs) C1) (h2 : xs = [] → EvN N' ρ C1 (qL e ys) C1) : EvN (nOrT N N') ρ C (qL e (if xs.isEmpty = true then ys else xs)) C1 := by
  unfold EvN at *
  unfold nOrT
  rw [h1, bnd_s]
  cases xs with
  | nil => exact h2 rfl
  | cons x r => rfl
/-! slices -/
theorem on : EvO oNone ρ C none C := rfl
theorem os {i : Int} (h : EvX f ρ C (qI i) C1) : EvO (oSome f) ρ C (some i) C1 := by
  unfold EvX at h
  unfold EvO oSome
  rw [h, bnd_s]
theorem sl_x {lo hi : SO} {p q : Option Int} (h : EvX f ρ C d C1) (h1 : EvO lo ρ C1 p C2) (h2 : EvO hi ρ C2 q C3) (hr : dSl d p q = some z) : EvX (eSl f lo hi) ρ C z C3 := by
  unfold EvX EvO at *
  unfold eSl
  rw [h, bnd_s, h1, bnd_s, h2, bnd_s, see_d, bn1_s, hr, bn1_s]
theorem sl_p {lo hi : SO} {p q : Option Int} (h : EvD f ρ C d C) (h1 : EvO lo ρ C p C) (h2 : EvO hi ρ C q C) (hr : dSl d p q = some z) : EvX (eSl f lo hi) ρ C z C := by
  obtain ⟨s, e, w⟩ := h
  unfold EvX EvO at *
  unfold eSl
  rw [e, bnd_s, h1, bnd_s, h2, bnd_s, w, bn1_s, hr, bn1_s]
theorem nsl_p {α : Type} {e : α → D} {xs : List α} {lo hi : SO} {p q : Option Int} (h : EvD f ρ C (qL e xs) C) (h1 : EvO lo ρ C p C) (h2 : EvO hi ρ C q C) : EvN (nSl f lo hi) ρ C (qL e (cutD xs p q)) C := by
  obtain ⟨s, e, w⟩ := h
  unfold EvN EvO at *
  unfold nSl
  rw [e, bnd_s, h1, bnd_s, h2, bnd_s, w, bn1_s]
  show some (D.lst _, C) = _
  rw [cut_map]
theorem nsl_scr {xs : List Int} {lo hi : SO} {p q : Option Int} (h : EvD f ρ C (qScr xs) C) (h1 : EvO lo ρ C p C) (h2 : EvO hi ρ C q C) : EvN (nSl f lo hi) ρ C (qL qI (cutD xs p q)) C := by
  obtain ⟨s, e, w⟩ := h
  unfold EvN EvO at *
  unfold nSl
  rw [e, bnd_s, h1, bnd_s, h2, bnd_s, w, bn1_s]
/-! walks -/
theorem sq_x {xs : List D} (h : EvX f ρ C d C1) (hi : itemsOf d = some xs) : EvI (iSq f) ρ C xs [] C1 := by
  unfold EvX at h
  unfold EvI iSq
  rw [h, bnd_s, see_d, bn1_s, hi, bn1_s]; rfl
theorem sq_c {xs : List D} (h : ρ[i]?.join = some (.cel n)) (hc : C[n]? = some d) (hi : itemsOf d = some xs) (hu : unlk d = d := by rfl) : EvI (iSq (eVar i)) ρ C xs [(n, d)] C := by
  unfold EvI iSq
  rw [v_s h, bnd_s]
  show bn1 ((C[n]?).map unlk) _ = _
  rw [hc]
  show bn1 (some (unlk d)) _ = _
  rw [hu, bn1_s, hi, bn1_s]
  show some ((⟨xs, (match C[n]? with | some d => [(n, d)] | none => [])⟩ : Src), C) = _
  rw [hc]
theorem rg1_x {j : Int} (h : EvA a ρ C [qI j] C1) (g : smI j) : EvI (iRg1 a) ρ C ((rng 0 j).map qI) [] C1 := by
  unfold EvA at h
  unfold EvI iRg1
  rw [h, bnd_s]
  show gd (smI j) _ = _
  rw [gd_t g, rng_map]
theorem rg2_x {i j : Int} (h : EvA a ρ C [qI i, qI j] C1) (g : smI i ∧ smI j) : EvI (iRg2 a) ρ C ((rng i j).map qI) [] C1 := by
  unfold EvA at h
  unfold EvI iRg2
  rw [h, bnd_s]
  show gd (smI i ∧ smI j) _ = _
  rw [gd_t g, rng_map]
theorem en_x {α : Type} {e : α → D} {xs : List α} (h : EvX f ρ C (qL e xs) C1) : EvI (iEn (aCons f aNil)) ρ C ((enum xs).map (qP qI e)) [] C1 := by
  unfold EvX at h
  unfold EvI iEn
  rw [e_cons, h, bnd_s, e_nil, bnd_s, bnd_s]
  show some ((⟨enumD (xs.map e), []⟩ : Src), C1) = _
  rw [enum_map]
theorem en_scr {xs : List Int} (h : EvX f ρ C (qScr xs) C1) : EvI (iEn (aCons f aNil)) ρ C ((enum xs).map (qP qI qI)) [] C1 := by
  unfold EvX at h
  unfold EvI iEn
  rw [e_cons, h, bnd_s, e_nil, bnd_s, bnd_s]
  show some ((⟨enumD (xs.map qI), []⟩ : Src), C1) = _
  rw [enum_map]
theorem zpT_x {α β : Type} {e : α → D} {e' : β → D} {xs : List α} {ys : List β} (h : EvX f ρ C (qT e xs) C1) (h2 : EvX g ρ C1 (qT e' ys) C2) : EvI (iZp (aCons f (aCons g aNil))) ρ C ((xs.zip ys).map (qP e e')) [] C2 := by
  unfold EvX at h h2
  unfold EvI iZp
  rw [e_cons, h, bnd_s, e_cons, h2, bnd_s, e_nil, bnd_s, bnd_s, bnd_s]
  show some ((⟨zipD (xs.map e) (ys.map e'), []⟩ : Src), C2) = _
  rw [zip_map]
theorem zpL_x {α β : Type} {e : α → D} {e' : β → D} {xs : List α} {ys : List β} (h : EvX f ρ C (qL e xs) C1) (h2 : EvX g ρ C1 (qL e' ys) C2) : EvI (iZp (aCons f (aCons g aNil))) ρ C ((xs.zip ys).map (qP e e')) [] C2 := by
  unfold EvX at h h2
  unfold EvI iZp
  rw [e_cons, h, bnd_s, e_cons, h2, bnd_s, e_nil, bnd_s, bnd_s, bnd_s]
  show some ((⟨zipD (xs.map e) (ys.map e'), []⟩ : Src), C2) = _
  rw [zip_map]
theorem ky_x {β : Type} {e : β → D} {kvs : List (Tx × β)} (h : EvX f ρ C (qDK e kvs) C1) : EvI (iKy f) ρ C ((kvs.map (·.1)).map qS) [] C1 := by
  unfold EvX at h
  unfold EvI iKy
  rw [h, bnd_s]
  show some ((⟨(kvs.map _).map _, []⟩ : Src), C1) = _
  rw [List.map_map, List.map_map]
  rfl
theorem vl_x {β : Type} {e : β → D} {kvs : List (Tx × β)} (h : EvX f ρ C (qDK e kvs) C1) : EvI (iVl f) ρ C ((kvs.map (·.2)).map e) [] C1 := by
  unfold EvX at h
  unfold EvI iVl
  rw [h, bnd_s]
  show some ((⟨(kvs.map _).map _, []⟩ : Src), C1) = _
  rw [List.map_map, List.map_map]
  rfl
theorem ixk_x {β : Type} [Inhabited β] {e : β → D} {kvs : List (Tx × β)} {k : Tx} (h : EvX f ρ C (qDK e kvs) C1) (h2 : EvX g ρ C1 (qS k) C2) (hg : kHas kvs k = true) : EvX (eIxK f g) ρ C (e (kAt kvs k)) C2 := by
  unfold EvX at *
  unfold eIxK
  rw [h, bnd_s, h2, bnd_s]
  show bn1 (dGet (kvs.map fun p => (kS p.1, e p.2)) (kS k)) _ = _
  rw [get_map (fun _ _ => kS_inj)]
  unfold kHas at hg
  obtain ⟨x, hx⟩ := Option.isSome_iff_exists.mp hg
  unfold kAt
  rw [hx]; rfl
/-! comprehensions -/
theorem lc_n {α β : Type} {e : α → D} {e' : β → D} {si : SI} {bi : D → Env → Option Env} {te : SE} {vs : List Nat} {cels : List (Nat × D)} {xs : List α} {p : α → Bool} {w : α → β}
    (hi : EvI si ρ C (xs.map e) cels C1) (hl : xs.length ≤ sizeLine) (hs : stays C1 cels = true)
    (hb : ∀ x ∈ xs, ∃ ρ1, bi (e x) (wipeE ρ vs) = some ρ1 ∧ EvT t ρ1 C1 (p x) C1 ∧ (p x = true → EvX te ρ1 C1 (e' (w x)) C1)) : EvN (nLc si bi t te vs) ρ C (qL e' ((xs.filter p).map w)) C1 := by
  unfold EvI at hi
  unfold EvN nLc
  rw [hi, bnd_s, gd_t (by rw [List.length_map]; exact hl)]
  have key : ∀ l : List α, (∀ x ∈ l, x ∈ xs) → compL cels bi t te (wipeE ρ vs) (l.map e) C1 = some (((l.filter p).map w).map e', C1) := by
    intro l
    induction l with
    | nil => intro _; show gd _ _ = _; rw [gd_t hs]; rfl
    | cons x l ih =>
      intro hl
      obtain ⟨ρ1, h1, h2, h3⟩ := hb x (hl x List.mem_cons_self)
      have ih' := ih fun y hy => hl y (List.mem_cons_of_mem _ hy)
      unfold EvT at h2
      rw [List.map_cons]
      unfold compL
      rw [gd_t hs, h1, bn1_s, h2, bnd_s, List.filter_cons]
      cases hp : p x with
      | false => rw [if_neg Bool.false_ne_true, if_neg Bool.false_ne_true]; exact ih'
      | true =>
        have h4 := h3 hp
        unfold EvX at h4
        rw [if_pos rfl, if_pos rfl, h4, bnd_s, dat_d, bn1_s, ih']; rfl
  rw [key xs fun _ h => h, bnd_s]
theorem lcm_n {α β : Type} {e : α → D} {e' : β → D} {si : SI} {bi : D → Env → Option Env} {te : SE} {vs : List Nat} {cels : List (Nat × D)} {xs : List α} {w : α → β}
    (hi : EvI si ρ C (xs.map e) cels C1) (hl : xs.length ≤ sizeLine) (hs : stays C1 cels = true)
    (hb : ∀ x ∈ xs, ∃ ρ1, bi (e x) (wipeE ρ vs) = some ρ1 ∧ EvX te ρ1 C1 (e' (w x)) C1) : EvN (nLc si bi tYes' te vs) ρ C (qL e' (xs.map w)) C1 := by
  have q := lc_n (p := fun _ => true) (w := w) (e' := e') (t := tYes') (te := te) hi hl hs fun x hx => let ⟨ρ1, h1, h2⟩ := hb x hx; ⟨ρ1, h1, yes_t, fun _ => h2⟩
  rw [List.filter_eq_self.mpr fun _ _ => rfl] at q
  exact q
theorem lcf_n {α : Type} {e : α → D} {si : SI} {bi : D → Env → Option Env} {te : SE} {vs : List Nat} {cels : List (Nat × D)} {xs : List α} {p : α → Bool}
    (hi : EvI si ρ C (xs.map e) cels C1) (hl : xs.length ≤ sizeLine) (hs : stays C1 cels = true)
    (hb : ∀ x ∈ xs, ∃ ρ1, bi (e x) (wipeE ρ vs) = some ρ1 ∧ EvT t ρ1 C1 (p x) C1 ∧ (p x = true → EvX te ρ1 C1 (e x) C1)) : EvN (nLc si bi t te vs) ρ C (qL e (xs.filter p)) C1 := by
  have q := lc_n (p := p) (w := fun x => x) (e' := e) (t := t) (te := te) hi hl hs hb
  rw [show (fun x : α => x) = id from rfl, List.map_id] at q
  exact q
theorem lc2_n {α β γ : Type} {e : α → D} {e1 : β → D} {e' : γ → D} {si si1 : SI} {bi b1 : D → Env → Option Env} {te : SE} {vs vs1 : List Nat} {cels : List (Nat × D)} {xs : List α} {p : α → Bool} {ys : α → List β} {q : α → β → Bool} {w : α → β → γ} {t1 : ST}
    (hi : EvI si ρ C (xs.map e) cels C1) (hs : stays C1 cels = true)
    (hz : ((xs.filter p).flatMap fun x => ((ys x).filter (q x)).map (w x)).length ≤ sizeLine)
    (hb : ∀ x ∈ xs, ∃ ρ1, bi (e x) (wipeE ρ vs) = some ρ1 ∧ EvT t ρ1 C1 (p x) C1 ∧ (p x = true → ∃ cels1, EvI si1 ρ1 C1 ((ys x).map e1) cels1 C1 ∧ stays C1 cels1 = true ∧ ∀ y ∈ ys x, ∃ ρ2, b1 (e1 y) (wipeE ρ1 vs1) = some ρ2 ∧ EvT t1 ρ2 C1 (q x y) C1 ∧ (q x y = true → EvX te ρ2 C1 (e' (w x y)) C1))) :
    EvN (nLc2 si bi t si1 b1 t1 te vs vs1) ρ C (qL e' ((xs.filter p).flatMap fun x => ((ys x).filter (q x)).map (w x))) C1 := by
  unfold EvI at hi
  unfold EvN nLc2
  rw [hi, bnd_s]
  have key : ∀ l : List α, (∀ x ∈ l, x ∈ xs) → compL2 cels bi t si1 b1 t1 te vs1 (wipeE ρ vs) (l.map e) C1 = some (((l.filter p).flatMap fun x => ((ys x).filter (q x)).map (w x)).map e', C1) := by
    intro l
    induction l with
    | nil => intro _; show gd _ _ = _; rw [gd_t hs]; rfl
    | cons x l ih =>
      intro hl
      obtain ⟨ρ1, h1, h2, h3⟩ := hb x (hl x List.mem_cons_self)
      have ih' := ih fun y hy => hl y (List.mem_cons_of_mem _ hy)
      unfold EvT at h2
      rw [List.map_cons]
      unfold compL2
      rw [gd_t hs, h1, bn1_s, h2, bnd_s, List.filter_cons]
      cases hp : p x with
      | false => rw [if_neg Bool.false_ne_true, if_neg Bool.false_ne_true]; exact ih'
      | true =>
        obtain ⟨cels1, h4, h5, h6⟩ := h3 hp
        unfold EvI at h4
        rw [if_pos rfl, if_pos rfl, h4, bnd_s]
        have inner : ∀ l : List β, (∀ y ∈ l, y ∈ ys x) → compL cels1 b1 t1 te (wipeE ρ1 vs1) (l.map e1) C1 = some (((l.filter (q x)).map (w x)).map e', C1) := by
          intro l
          induction l with
          | nil => intro _; show gd _ _ = _; rw [gd_t h5]; rfl
          | cons y l ih2 =>
            intro hl
            obtain ⟨ρ2, k1, k2, k3⟩ := h6 y (hl y List.mem_cons_self)
            have ih2' := ih2 fun y hy => hl y (List.mem_cons_of_mem _ hy)
            unfold EvT at k2
            rw [List.map_cons]
            unfold compL
            rw [gd_t h5, k1, bn1_s, k2, bnd_s, List.filter_cons]
            cases hq : q x y with
            | false => rw [if_neg Bool.false_ne_true, if_neg Bool.false_ne_true]; exact ih2'
            | true =>
              have k4 := k3 hq
              unfold EvX at k4
              rw [if_pos rfl, if_pos rfl, k4, bnd_s, dat_d, bn1_s, ih2']; rfl
        show bnd (compL cels1 b1 t1 te (wipeE ρ1 vs1) ((ys x).map e1) C1) _ = _
        rw [inner (ys x) fun _ h => h, bnd_s, ih', bnd_s, List.flatMap_cons, List.map_append]
  rw [key xs fun _ h => h, bnd_s, gd_t (by rw [List.length_map]; exact hz)]
theorem dc_n {α β κ : Type} [DecidableEq κ] {e : α → D} {e' : β → D} {ek : κ → D} {fk : κ → Key} (hk : ∀ k, dKey (ek k) = some (fk k)) (hinj : ∀ a b, fk a = fk b ↔ a = b) {si : SI} {bi : D → Env → Option Env} {tk te : SE} {vs : List Nat} {cels : List (Nat × D)} {xs : List α} {p : α → Bool} {k : α → κ} {w : α → β}
    (hi : EvI si ρ C (xs.map e) cels C1) (hl : xs.length ≤ sizeLine) (hs : stays C1 cels = true)
    (hb : ∀ x ∈ xs, ∃ ρ1, bi (e x) (wipeE ρ vs) = some ρ1 ∧ EvT t ρ1 C1 (p x) C1 ∧ (p x = true → EvX tk ρ1 C1 (ek (k x)) C1 ∧ EvX te ρ1 C1 (e' (w x)) C1)) :
    EvN (nDc si bi t tk te vs) ρ C (.dK ((xs.foldl (fun acc x => if p x = true then kPut acc (k x) (w x) else acc) []).map fun q => (fk q.1, e' q.2))) C1 := by
  unfold EvI at hi
  unfold EvN nDc
  rw [hi, bnd_s, gd_t (by rw [List.length_map]; exact hl)]
  have key : ∀ (l : List α) (acc : List (κ × β)), (∀ x ∈ l, x ∈ xs) → dcompL cels bi t tk te (wipeE ρ vs) (l.map e) (acc.map fun q => (fk q.1, e' q.2)) C1 = some ((l.foldl (fun acc x => if p x = true then kPut acc (k x) (w x) else acc) acc).map fun q => (fk q.1, e' q.2), C1) := by
    intro l
    induction l with
    | nil => intro acc _; show gd _ _ = _; rw [gd_t hs]; rfl
    | cons x l ih =>
      intro acc hl
      obtain ⟨ρ1, h1, h2, h3⟩ := hb x (hl x List.mem_cons_self)
      have ih' := fun acc => ih acc fun y hy => hl y (List.mem_cons_of_mem _ hy)
      unfold EvT at h2
      rw [List.map_cons]
      unfold dcompL
      rw [gd_t hs, h1, bn1_s, h2, bnd_s, List.foldl_cons]
      cases hp : p x with
      | false => rw [if_neg Bool.false_ne_true, if_neg Bool.false_ne_true]; exact ih' acc
      | true =>
        obtain ⟨h4, h5⟩ := h3 hp
        unfold EvX at h4 h5
        rw [if_pos rfl, if_pos rfl, h4, bnd_s, dat_d, bn1_s, hk, bn1_s, h5, bnd_s, dat_d, bn1_s, put_map hinj]
        exact ih' _
  have q := key xs [] fun _ h => h
  rw [List.map_nil] at q
  rw [q, bnd_s]
end
end DX

/-! NB3: runs of statements, told of plain values. -/
namespace DX
open PySem PySem.Spec L2

/-! ### plain control -/
/-- what a part of a def comes to: it goes on, it returns, it leaves the loop -/
inductive Sp (σ ρ : Type) where
  | nx (s : σ)
  | rt (r : ρ)
  | bk (s : σ)
abbrev lt {α : Sort u} {β : Sort v} (v : α) (k : α → β) : β := k v
def th {σ ρ : Type} : Sp σ ρ → (σ → ρ) → ρ
  | .nx s, k => k s
  | .rt r, _ => r
  | .bk s, k => k s
def thP {σ ρ : Type} : Sp σ ρ → (σ → Prop) → Prop
  | .nx s, k => k s
  | .rt _, _ => True
  | .bk s, k => k s
def lp {α σ ρ : Type} : List α → σ → (σ → α → Sp σ ρ) → Sp σ ρ
  | [], s, _ => .nx s
  | x :: xs, s, f => match f s x with
    | .nx s' => lp xs s' f
    | .rt r => .rt r
    | .bk s' => .nx s'
def lpP {α σ ρ : Type} : List α → σ → (σ → α → Sp σ ρ) → (σ → α → Prop) → Prop
  | [], _, _, _ => True
  | x :: xs, s, f, p => p s x ∧ match f s x with
    | .nx s' => lpP xs s' f p
    | _ => True
def wl {σ ρ : Type} : Nat → (σ → Bool) → (σ → Sp σ ρ) → σ → Sp σ ρ
  | 0, _, _, s => .nx s
  | n + 1, c, f, s => if c s = true then (match f s with
    | .nx s' => wl n c f s'
    | .rt r => .rt r
    | .bk s' => .nx s') else .nx s
def wlP {σ ρ : Type} : Nat → (σ → Bool) → (σ → Prop) → (σ → Sp σ ρ) → (σ → Prop) → σ → Prop
  | 0, _, _, _, _, _ => False
  | n + 1, c, pc, f, p, s => pc s ∧ (c s = true → p s ∧ match f s with
    | .nx s' => wlP n c pc f p s'
    | _ => True)
@[simp] theorem th_nx {σ ρ : Type} (s : σ) (k : σ → ρ) : th (.nx s) k = k s := rfl
@[simp] theorem th_rt {σ ρ : Type} (s : ρ) (k : σ → ρ) : th (.rt s) k = s := rfl
@[simp] theorem thP_nx {σ ρ : Type} (s : σ) (k : σ → Prop) : thP (.nx s : Sp σ ρ) k = k s := rfl
@[simp] theorem thP_rt {σ ρ : Type} (s : ρ) (k : σ → Prop) : thP (.rt s : Sp σ ρ) k = True := rfl
theorem lp_nx {α σ ρ : Type} (g : σ → α → σ) : ∀ (xs : List α) (s : σ), lp xs s (fun s x => (Sp.nx (g s x) : Sp σ ρ)) = .nx (xs.foldl g s)
  | [], _ => rfl
  | x :: xs, s => by
    show lp xs (g s x) _ = _
    rw [lp_nx g xs]; rfl
/-- a loop that only looks -/
theorem lp_all {α ρ : Type} (g : α → Bool) (r : ρ) : ∀ (xs : List α), lp xs () (fun _ x => if g x = true then (Sp.rt r : Sp Unit ρ) else .nx ()) = if xs.any g = true then .rt r else .nx ()
  | [] => rfl
  | x :: xs => by
    have ih := lp_all g r xs
    rw [List.any_cons]
    unfold lp
    cases h : g x with
    | true => simp [h]
    | false => simp only [h, Bool.false_or, Bool.false_eq_true, if_false]; exact ih
/-- what a loop comes to, by what holds at each turn -/
theorem lp_ind {α σ ρ : Type} {I : σ → Prop} {Q : ρ → Prop} {f : σ → α → Sp σ ρ} : ∀ {xs : List α} {s : σ}, I s → (∀ s x, x ∈ xs → I s → match f s x with | .nx s' => I s' | .rt r => Q r | .bk s' => I s') → (∃ s', lp xs s f = .nx s' ∧ I s') ∨ ∃ r, lp xs s f = .rt r ∧ Q r
  | [], s, h, _ => .inl ⟨s, rfl, h⟩
  | x :: xs, s, h, hs => by
    have h1 := hs s x List.mem_cons_self h
    unfold lp
    cases hf : f s x with
    | nx s' => rw [hf] at h1; exact lp_ind h1 fun s y hy => hs s y (List.mem_cons_of_mem _ hy)
    | rt r => rw [hf] at h1; exact .inr ⟨r, rfl, h1⟩
    | bk s' => rw [hf] at h1; exact .inl ⟨s', rfl, h1⟩
theorem lpP_ind {α σ ρ : Type} {I : σ → Prop} {f : σ → α → Sp σ ρ} {p : σ → α → Prop} : ∀ {xs : List α} {s : σ}, I s → (∀ s x, x ∈ xs → I s → p s x ∧ ∀ s', f s x = .nx s' → I s') → lpP xs s f p
  | [], _, _, _ => trivial
  | x :: xs, s, h, hs => by
    obtain ⟨h1, h2⟩ := hs s x List.mem_cons_self h
    refine ⟨h1, ?_⟩
    cases hf : f s x with
    | nx s' => exact lpP_ind (h2 s' hf) fun s y hy => hs s y (List.mem_cons_of_mem _ hy)
    | rt r => trivial
    | bk s' => trivial
/-- a walk that draws -/
def mapS {α β τ : Type} (p : α → Bool) (f : τ → α → β × τ) : List α → τ → List β × τ
  | [], B => ([], B)
  | x :: xs, B => if p x = true then ((f B x).1 :: (mapS p f xs (f B x).2).1, (mapS p f xs (f B x).2).2) else mapS p f xs B
def mapSP {α β τ : Type} (p : α → Bool) (f : τ → α → β × τ) (P : τ → α → Prop) : List α → τ → Prop
  | [], _ => True
  | x :: xs, B => if p x = true then P B x ∧ mapSP p f P xs (f B x).2 else mapSP p f P xs B

/-! ### the store, as a def sees it -/
structure CS (C0 C : Store) (P L : List (Nat × D)) : Prop where
  len : C0.length ≤ C.length
  same : ∀ i, i < C0.length → (∀ p ∈ P, p.1 ≠ i) → C[i]? = C0[i]?
  atP : ∀ p ∈ P, C[p.1]? = some p.2 ∧ p.1 < C0.length
  atL : ∀ p ∈ L, C[p.1]? = some p.2 ∧ C0.length ≤ p.1
  ndP : (P.map (·.1)).Nodup
  ndL : (L.map (·.1)).Nodup
section
variable {C0 C C1 : Store} {P L L' : List (Nat × D)} {n k : Nat} {d d' : D}
theorem CS.start : CS C0 C0 [] [] := ⟨Nat.le_refl _, fun _ _ _ => rfl, fun _ h => (by cases h), fun _ h => (by cases h), List.nodup_nil, List.nodup_nil⟩
theorem lt_of_get {C : Store} {n : Nat} {d : D} (h : C[n]? = some d) : n < C.length := (List.getElem?_eq_some_iff.mp h).1
theorem CS.start1 (h : C0[n]? = some d) : CS C0 C0 [(n, d)] [] := ⟨Nat.le_refl _, fun _ _ _ => rfl, fun p hp => by
  rw [List.mem_singleton.mp hp]; exact ⟨h, lt_of_get h⟩, fun _ h => (by cases h), by simp, List.nodup_nil⟩
theorem CS.start2 {m : Nat} {e : D} (h : C0[n]? = some d) (h2 : C0[m]? = some e) (hne : n ≠ m) : CS C0 C0 [(n, d), (m, e)] [] := ⟨Nat.le_refl _, fun _ _ _ => rfl, fun p hp => by
  rcases List.mem_cons.mp hp with q | q
  · rw [q]; exact ⟨h, lt_of_get h⟩
  · rw [List.mem_singleton.mp q]; exact ⟨h2, lt_of_get h2⟩, fun _ h => (by cases h), by simp [hne], List.nodup_nil⟩
theorem CS.getP (cs : CS C0 C P L) (k : Nat) (h : P[k]? = some (n, d)) : C[n]? = some d := (cs.atP _ (List.mem_of_getElem? h)).1
theorem CS.getL (cs : CS C0 C P L) (k : Nat) (h : L[k]? = some (n, d)) : C[n]? = some d := (cs.atL _ (List.mem_of_getElem? h)).1
theorem CS.geL (cs : CS C0 C P L) (k : Nat) (h : L[k]? = some (n, d)) : C0.length ≤ n := (cs.atL _ (List.mem_of_getElem? h)).2
theorem CS.new (cs : CS C0 C P L) (d : D) : CS C0 (C ++ [d]) P (L ++ [(C.length, d)]) := by
  have old : ∀ {i : Nat} {e : D}, C[i]? = some e → (C ++ [d])[i]? = some e := fun h => by rw [List.getElem?_append_left (lt_of_get h)]; exact h
  refine ⟨by have := cs.len; simp; omega, fun i h1 h2 => ?_, fun p hp => ⟨old (cs.atP p hp).1, (cs.atP p hp).2⟩, fun p hp => ?_, cs.ndP, ?_⟩
  · rw [List.getElem?_append_left (by have := cs.len; omega)]; exact cs.same i h1 h2
  · rcases List.mem_append.mp hp with q | q
    · exact ⟨old (cs.atL p q).1, (cs.atL p q).2⟩
    · rw [List.mem_singleton.mp q]; exact ⟨by simp, cs.len⟩
  · rw [List.map_append, List.nodup_append]
    refine ⟨cs.ndL, by simp, fun a ha b hb => ?_⟩
    obtain ⟨p, hp, rfl⟩ := List.mem_map.mp ha
    have h1 := lt_of_get (cs.atL p hp).1
    have h2 : b = C.length := by simpa using hb
    omega
theorem nd_set {l : List (Nat × D)} {k n : Nat} {d d' : D} (h : l[k]? = some (n, d)) : (l.set k (n, d')).map (·.1) = l.map (·.1) := by
  apply List.ext_getElem?
  intro i
  rw [List.getElem?_map, List.getElem?_map, List.getElem?_set]
  by_cases e : k = i
  · subst e; rw [if_pos rfl, if_pos (List.getElem?_eq_some_iff.mp h).1, h]; rfl
  · rw [if_neg e]
theorem mem_set {l : List (Nat × D)} {k n : Nat} {d d' : D} (nd : (l.map (·.1)).Nodup) (h : l[k]? = some (n, d)) {p : Nat × D} (hp : p ∈ l.set k (n, d')) : p = (n, d') ∨ (p ∈ l ∧ p.1 ≠ n) := by
  obtain ⟨i, hi⟩ := List.mem_iff_getElem?.mp hp
  rw [List.getElem?_set] at hi
  by_cases e : k = i
  · subst e; rw [if_pos rfl, if_pos (List.getElem?_eq_some_iff.mp h).1] at hi; cases hi; exact .inl rfl
  · rw [if_neg e] at hi
    refine .inr ⟨List.mem_of_getElem? hi, fun z => e ?_⟩
    have h1 : (l.map (·.1))[k]? = some n := by rw [List.getElem?_map, h]; rfl
    have h2 : (l.map (·.1))[i]? = some n := by rw [List.getElem?_map, hi]; show some p.1 = _; rw [z]
    have lk := (List.getElem?_eq_some_iff.mp h1).1
    exact (List.getElem?_inj lk nd).mp (h1.trans h2.symm)
theorem CS.putL (cs : CS C0 C P L) (k : Nat) (d' : D) (h : L[k]? = some (n, d)) : CS C0 (C.set n d') P (L.set k (n, d')) := by
  have g := cs.geL k h
  refine ⟨by rw [List.length_set]; exact cs.len, fun i h1 h2 => ?_, fun p hp => ⟨?_, (cs.atP p hp).2⟩, fun p hp => ?_, cs.ndP, by rw [nd_set h]; exact cs.ndL⟩
  · rw [List.getElem?_set, if_neg (by omega)]; exact cs.same i h1 h2
  · have := (cs.atP p hp).2
    rw [List.getElem?_set, if_neg (by omega)]; exact (cs.atP p hp).1
  · rcases mem_set cs.ndL h hp with q | ⟨q, q2⟩
    · rw [q]; exact ⟨by rw [List.getElem?_set, if_pos rfl, if_pos (lt_of_get (cs.getL k h))], g⟩
    · exact ⟨by rw [List.getElem?_set, if_neg (fun z => q2 z.symm)]; exact (cs.atL p q).1, (cs.atL p q).2⟩
theorem CS.putP (cs : CS C0 C P L) (k : Nat) (d' : D) (h : P[k]? = some (n, d)) : CS C0 (C.set n d') (P.set k (n, d')) L := by
  have g := (cs.atP _ (List.mem_of_getElem? h)).2
  refine ⟨by rw [List.length_set]; exact cs.len, fun i h1 h2 => ?_, fun p hp => ?_, fun p hp => ⟨?_, (cs.atL p hp).2⟩, by rw [nd_set h]; exact cs.ndP, cs.ndL⟩
  · have hn : n ≠ i := fun z => h2 (n, d') (List.mem_of_getElem? (i := k) (by rw [List.getElem?_set, if_pos rfl, if_pos (List.getElem?_eq_some_iff.mp h).1])) z
    rw [List.getElem?_set, if_neg hn]
    refine cs.same i h1 fun p hp z => ?_
    obtain ⟨j, hj⟩ := List.mem_iff_getElem?.mp hp
    by_cases e : k = j
    · subst e; rw [h] at hj; cases hj; exact hn z
    · exact h2 p (List.mem_of_getElem? (i := j) (by rw [List.getElem?_set, if_neg e]; exact hj)) z
  · rcases mem_set cs.ndP h hp with q | ⟨q, q2⟩
    · rw [q]; exact ⟨by rw [List.getElem?_set, if_pos rfl, if_pos (lt_of_get (cs.getP k h))], g⟩
    · exact ⟨by rw [List.getElem?_set, if_neg (fun z => q2 z.symm)]; exact (cs.atP p q).1, (cs.atP p q).2⟩
  · have := (cs.atL p hp).2
    rw [List.getElem?_set, if_neg (by omega)]; exact (cs.atL p hp).1
theorem CS.sub (cs : CS C0 C P L) (h : L'.Sublist L) : CS C0 C P L' :=
  ⟨cs.len, cs.same, cs.atP, fun p hp => cs.atL p (h.subset hp), cs.ndP, cs.ndL.sublist (h.map _)⟩
theorem CS.exit0 (cs : CS C0 C [] L) : C.take C0.length = C0 := by
  apply List.ext_getElem?
  intro i
  rw [List.getElem?_take]
  by_cases h : i < C0.length
  · rw [if_pos h]; exact cs.same i h fun _ h => by cases h
  · rw [if_neg h, List.getElem?_eq_none (by omega)]
theorem CS.exit1 (cs : CS C0 C [(n, d)] L) : C.take C0.length = C0.set n d := by
  apply List.ext_getElem?
  intro i
  rw [List.getElem?_take, List.getElem?_set]
  have g := cs.atP (n, d) (by simp)
  by_cases h : i < C0.length
  · rw [if_pos h]
    by_cases e : n = i
    · subst e; rw [if_pos rfl, if_pos h]; exact g.1
    · rw [if_neg e]; exact cs.same i h fun p hp => by rw [List.mem_singleton.mp hp]; exact e
  · rw [if_neg h]
    by_cases e : n = i
    · exact absurd (e ▸ g.2) h
    · rw [if_neg e, List.getElem?_eq_none (by omega)]
theorem CS.exit2 {m : Nat} {e : D} (cs : CS C0 C [(n, d), (m, e)] L) : C.take C0.length = (C0.set n d).set m e := by
  have hne : n ≠ m := by have := cs.ndP; simp at this; exact this
  have g := cs.atP (n, d) (by simp)
  have g2 := cs.atP (m, e) (by simp)
  apply List.ext_getElem?
  intro i
  rw [List.getElem?_take, List.getElem?_set, List.getElem?_set, List.length_set]
  by_cases h : i < C0.length
  · rw [if_pos h]
    by_cases e1 : m = i
    · subst e1; rw [if_pos rfl, if_pos h]; exact g2.1
    · rw [if_neg e1]
      by_cases e2 : n = i
      · subst e2; rw [if_pos rfl, if_pos h]; exact g.1
      · rw [if_neg e2]
        refine cs.same i h fun p hp => ?_
        rcases List.mem_cons.mp hp with q | q
        · rw [q]; exact e2
        · rw [List.mem_singleton.mp q]; exact e1
  · rw [if_neg h]
    by_cases e1 : m = i
    · exact absurd (e1 ▸ g2.2) h
    · rw [if_neg e1]
      by_cases e2 : n = i
      · exact absurd (e2 ▸ g.2) h
      · rw [if_neg e2, List.getElem?_eq_none (by omega)]
theorem set_get {C : Store} {n : Nat} {d : D} (h : C[n]? = some d) : C.set n d = C := by
  apply List.ext_getElem?
  intro i
  rw [List.getElem?_set]
  by_cases e : n = i
  · subst e; rw [if_pos rfl, if_pos (lt_of_get h), h]
  · rw [if_neg e]
/-- a cell that was only read -/
theorem CS.exit1r (h : C0[n]? = some d) (cs : CS C0 C [(n, d)] L) : C.take C0.length = C0 := by rw [cs.exit1, set_get h]
theorem CS.exit2r {m : Nat} {e : D} (h : C0[m]? = some e) (cs : CS C0 C [(n, d), (m, e)] L) : C.take C0.length = C0.set n d := by
  have hne : n ≠ m := by have := cs.ndP; simp at this; exact this
  rw [cs.exit2, set_get (by rw [List.getElem?_set, if_neg hne]; exact h)]
theorem CS.exit2rr {m : Nat} {e : D} (h1 : C0[n]? = some d) (h : C0[m]? = some e) (cs : CS C0 C [(n, d), (m, e)] L) : C.take C0.length = C0 := by
  rw [cs.exit2r h, set_get h1]
theorem stays1 (h : C[n]? = some d) : stays C [(n, d)] = true := by simp [stays, h, sameD_rfl]
theorem erase_map {α β : Type} (f : α → β) : ∀ (l : List α) (r : Nat), (l.map f).eraseIdx r = (l.eraseIdx r).map f
  | [], _ => by simp
  | x :: l, 0 => by simp
  | x :: l, r + 1 => by simp [erase_map f l r]
end

/-! ### runs -/
def RunS (m : SS) (ρ : Env) (C : Store) (P : Fl → Store → Prop) : Prop := ∃ o C', m ρ C = some (o, C') ∧ P o C'
/-- a def's end: the value it gives, and the store it leaves -/
def PG {γ : Type} (n0 : Nat) (e : γ → D) (st : γ → Store) (r : γ) : Fl → Store → Prop := fun o C' => (∃ x, o = .rt x) ∧ fin n0 o C' = some (.dat (e r), st r)
def PN {γ : Type} (n0 : Nat) (e : γ → D) (st : γ → Store) (r : γ) : Fl → Store → Prop := fun o C' => (∃ x, o = .rt x) ∧ finN n0 o C' = some (e r, st r)
def LB {σ R : Type} (I : σ → Env → Store → Prop) (Post : R → Fl → Store → Prop) : Sp σ R → Fl → Store → Prop
  | .nx s, o, C' => ∃ ρ', (o = .nx ρ' ∨ o = .ct ρ') ∧ I s ρ' C'
  | .rt r, o, C' => (∃ v, o = .rt v) ∧ Post r o C'
  | .bk s, o, C' => ∃ ρ', o = .bk ρ' ∧ I s ρ' C'
/-- where two ways meet again -/
def JB {σ R : Type} (I : σ → Env → Store → Prop) (Post : R → Fl → Store → Prop) : Sp σ R → Fl → Store → Prop
  | .nx s, o, C' => ∃ ρ', o = .nx ρ' ∧ I s ρ' C'
  | .rt r, o, C' => (∀ ρ', o ≠ .nx ρ') ∧ Post r o C'
  | .bk s, o, C' => False
section
variable {m m1 m2 R : SS} {ρ ρ1 : Env} {C C1 C2 C0 : Store} {P : Fl → Store → Prop} {f g h : SE} {d d1 z : D} {i n n0 : Nat} {b : Bool} {t : ST} {a : SA} {γ : Type} {e : γ → D} {st : γ → Store} {r : γ}
theorem rs_last (k : RunS (sSeq m sNil) ρ C P) : RunS m ρ C P := by
  obtain ⟨o, C', e, p⟩ := k
  rw [s_seq] at e
  obtain ⟨o1, C1, e1, e⟩ := bnd_i e
  refine ⟨o1, C1, e1, ?_⟩
  cases o1 <;> (cases e; exact p)
theorem rs_assoc (k : RunS (sSeq m1 (sSeq m2 R)) ρ C P) : RunS (sSeq (sSeq m1 m2) R) ρ C P := by
  obtain ⟨o, C', e, p⟩ := k
  refine ⟨o, C', ?_, p⟩
  rw [s_seq] at e
  obtain ⟨o1, C1, e1, e⟩ := bnd_i e
  rw [s_seq, s_seq, e1, bnd_s]
  cases o1 with
  | nx ρ1 => exact e
  | _ => cases e; rfl
theorem rs_nil (k : RunS R ρ C P) : RunS (sSeq sNil R) ρ C P := by
  obtain ⟨o, C', e, p⟩ := k
  exact ⟨o, C', by rw [s_seq, s_nil, bnd_s]; exact e, p⟩
theorem rs_set (h : EvX f ρ C d C1) (k : RunS R (ρ.set i (some (.dat d))) C1 P) : RunS (sSeq (sSet i f) R) ρ C P := by
  obtain ⟨o, C', e, p⟩ := k
  unfold EvX at h
  exact ⟨o, C', by rw [s_seq, s_set, h, bnd_s, bnd_s]; exact e, p⟩
theorem rs_sets {s : Sv} (h : f ρ C = some (s, C1)) (k : RunS R (ρ.set i (some s)) C1 P) : RunS (sSeq (sSet i f) R) ρ C P := by
  obtain ⟨o, C', e, p⟩ := k
  exact ⟨o, C', by rw [s_seq, s_set, h, bnd_s, bnd_s]; exact e, p⟩
theorem rs_new {N : SN} (h : EvN N ρ C d C1) (k : RunS R (ρ.set i (some (.cel C1.length))) (C1 ++ [d]) P) : RunS (sSeq (sNew i N) R) ρ C P := by
  obtain ⟨o, C', e, p⟩ := k
  unfold EvN at h
  exact ⟨o, C', by rw [s_seq, s_new, h, bnd_s, bnd_s]; exact e, p⟩
theorem rs_mul {is : List Nat} {ss : List Sv} (h : EvS a ρ C ss C1) (hl : ss.length = is.length) (k : RunS R (setAll is ss ρ) C1 P) : RunS (sSeq (sMul is a) R) ρ C P := by
  obtain ⟨o, C', e, p⟩ := k
  unfold EvS at h
  refine ⟨o, C', ?_, p⟩
  rw [s_seq]
  unfold sMul
  rw [h, bnd_s, gd_t hl, bnd_s]
  exact e
theorem rs_unp {bi : D → Env → Option Env} (h : EvX f ρ C d C1) (hb : bi d ρ = some ρ1) (k : RunS R ρ1 C1 P) : RunS (sSeq (sUnp bi f) R) ρ C P := by
  obtain ⟨o, C', e, p⟩ := k
  unfold EvX at h
  refine ⟨o, C', ?_, p⟩
  rw [s_seq]
  unfold sUnp
  rw [h, bnd_s, dat_d, bn1_s, hb, bn1_s, bnd_s]
  exact e
theorem rs_drop {s : Sv} (h : f ρ C = some (s, C1)) (k : RunS R ρ C1 P) : RunS (sSeq (sDrop f) R) ρ C P := by
  obtain ⟨o, C', e, p⟩ := k
  exact ⟨o, C', by rw [s_seq, s_drop, h, bnd_s, bnd_s]; exact e, p⟩
theorem rs_aug {k j : Int} {w : Int → Int → Int} (hv : ρ[i]? = some (some (.dat (.int k)))) (h : EvX f ρ C (qI j) C1) (kk : RunS R (ρ.set i (some (.dat (.int (w k j))))) C1 P) : RunS (sSeq (sAug i w f) R) ρ C P := by
  obtain ⟨o, C', e, p⟩ := kk
  unfold EvX at h
  refine ⟨o, C', ?_, p⟩
  rw [s_seq]
  unfold sAug
  rw [hv]
  show bnd (bnd (f ρ C) _) _ = _
  rw [h, bnd_s, see_d, bn1_s, bnd_s]
  exact e
theorem rs_app {α : Type} {e : α → D} {xs : List α} {x : α} (hv : ρ[i]?.join = some (.cel n)) (hn : C[n]? = some (qL e xs)) (h : EvX g ρ C (e x) C1) (hn1 : C1[n]? = some (qL e xs)) (hl : xs.length < sizeLine) (k : RunS R ρ (C1.set n (qL e (xs ++ [x]))) P) : RunS (sSeq (sDrop (eApp (eVar i) g)) R) ρ C P := by
  refine rs_drop (s := .dat .non) (C1 := C1.set n (qL e (xs ++ [x]))) ?_ k
  unfold EvX at h
  unfold eApp
  have l0 : lstAt C (.cel n) = some (n, xs.map e) := by unfold lstAt; dsimp only; rw [hn]
  have l1 : lstAt C1 (.cel n) = some (n, xs.map e) := by unfold lstAt; dsimp only; rw [hn1]
  rw [v_s hv, bnd_s, l0, bn1_s, h, bnd_s, l1, bn1_s, dat_d, bn1_s, gd_t (by rw [List.length_map]; exact hl)]
  show some (Sv.dat D.non, C1.set n (.lst (xs.map e ++ [e x]))) = _
  rw [show xs.map e ++ [e x] = (xs ++ [x]).map e by simp]
theorem pop_x {α : Type} [Inhabited α] {e : α → D} {xs : List α} (hv : ρ[i]?.join = some (.cel n)) (hn : C[n]? = some (qL e xs)) (hne : xs ≠ []) : EvX (ePop (eVar i)) ρ C (e (xs.getLast?.getD default)) (C.set n (qL e xs.dropLast)) := by
  unfold EvX ePop
  have l0 : lstAt C (.cel n) = some (n, xs.map e) := by unfold lstAt; dsimp only; rw [hn]
  rw [v_s hv, bnd_s, l0, bn1_s]
  have q : (xs.map e)[(xs.map e).length - 1]? = some (e (xs.getLast?.getD default)) := by
    rw [List.length_map, List.getElem?_map, ← List.getLast?_eq_getElem?]
    obtain ⟨x, hx⟩ : ∃ x, xs.getLast? = some x := by
      cases h : xs.getLast? with
      | none => exact absurd (List.getLast?_eq_none_iff.mp h) hne
      | some x => exact ⟨x, rfl⟩
    rw [hx]; rfl
  show bn1 ((xs.map e)[(xs.map e).length - 1]?) _ = _
  rw [q, bn1_s]
  show some (_, C.set n (.lst (xs.map e).dropLast)) = _
  rw [← List.map_dropLast]
theorem popAt_x {α : Type} [Inhabited α] {e : α → D} {xs : List α} {j : Int} (hv : ρ[i]?.join = some (.cel n)) (hn : C[n]? = some (qL e xs)) (h : EvX g ρ C (qI j) C1) (hn1 : C1[n]? = some (qL e xs)) (hj : (ixN xs.length j).isSome = true) : EvX (ePopAt (eVar i) g) ρ C (e (atD xs j)) (C1.set n (qL e (xs.eraseIdx ((ixN xs.length j).getD 0)))) := by
  unfold EvX at h
  unfold EvX ePopAt
  have l0 : lstAt C (.cel n) = some (n, xs.map e) := by unfold lstAt; dsimp only; rw [hn]
  have l1 : lstAt C1 (.cel n) = some (n, xs.map e) := by unfold lstAt; dsimp only; rw [hn1]
  rw [v_s hv, bnd_s, l0, bn1_s, h, bnd_s, l1, bn1_s]
  obtain ⟨q, hq⟩ := Option.isSome_iff_exists.mp hj
  have lq : q < xs.length := by
    obtain ⟨_, h2, _⟩ := ixN_seq hq
    exact h2
  show bn1 (ixN (xs.map e).length j) _ = _
  rw [List.length_map, hq, bn1_s]
  show bn1 ((xs.map e)[q]?) _ = _
  have ha : atD xs j = xs[q] := by
    unfold atD atI
    rw [hq]
    show (xs[q]?).getD default = _
    rw [List.getElem?_eq_getElem lq]; rfl
  rw [List.getElem?_map, List.getElem?_eq_getElem lq]
  show some (Sv.dat (e xs[q]), C1.set n (.lst ((xs.map e).eraseIdx q))) = _
  rw [ha, erase_map]
  rfl
theorem rs_putK {β : Type} {e : β → D} {xs : List (Tx × β)} {k : Tx} {v : β} (hz : EvX f ρ C (e v) C) (hv : ρ[i]?.join = some (.cel n)) (hn : C[n]? = some (qDK e xs)) (hk : EvD h ρ C (qS k) C) (hl : xs.length < sizeLine) (kk : RunS R ρ (C.set n (qDK e (kPut xs k v))) P) : RunS (sSeq (sPut f (eVar i) h) R) ρ C P := by
  obtain ⟨o, C', e1, p⟩ := kk
  obtain ⟨s, e2, w⟩ := hk
  unfold EvX at hz
  refine ⟨o, C', ?_, p⟩
  rw [s_seq, e_put, hz, bnd_s, v_s hv, bnd_s, e2, bnd_s, dat_d, bn1_s, w, bn1_s]
  show bnd (bn1 (C[n]?) _) _ = _
  rw [hn, bn1_s]
  show bnd (bn1 (gd ((xs.map _).length < sizeLine) (some (D.dK (dPut (xs.map fun p => (kS p.1, e p.2)) (kS k) (e v))))) _) _ = _
  rw [gd_t (by rw [List.length_map]; exact hl), bn1_s, bnd_s, put_map (fun _ _ => kS_inj)]
  exact e1
theorem rs_putI {β : Type} {e : β → D} {xs : List (Int × β)} {k : Int} {v : β} (hz : EvX f ρ C (e v) C) (hv : ρ[i]?.join = some (.cel n)) (hn : C[n]? = some (qDI e xs)) (hk : EvD h ρ C (qI k) C) (hl : xs.length < sizeLine) (kk : RunS R ρ (C.set n (qDI e (kPut xs k v))) P) : RunS (sSeq (sPut f (eVar i) h) R) ρ C P := by
  obtain ⟨o, C', e1, p⟩ := kk
  obtain ⟨s, e2, w⟩ := hk
  unfold EvX at hz
  refine ⟨o, C', ?_, p⟩
  rw [s_seq, e_put, hz, bnd_s, v_s hv, bnd_s, e2, bnd_s, dat_d, bn1_s, w, bn1_s]
  show bnd (bn1 (C[n]?) _) _ = _
  rw [hn, bn1_s]
  show bnd (bn1 (gd ((xs.map _).length < sizeLine) (some (D.dK (dPut (xs.map fun p => (kI p.1, e p.2)) (kI k) (e v))))) _) _ = _
  rw [gd_t (by rw [List.length_map]; exact hl), bn1_s, bnd_s, put_map (fun _ _ => kI_inj)]
  exact e1
theorem rs_putT {β : Type} {e : β → D} {xs : List (List Tx × β)} {k : List Tx} {v : β} (hz : EvX f ρ C (e v) C) (hv : ρ[i]?.join = some (.cel n)) (hn : C[n]? = some (qDT e xs)) (hk : EvD h ρ C (qT qS k) C) (hl : xs.length < sizeLine) (kk : RunS R ρ (C.set n (qDT e (kPut xs k v))) P) : RunS (sSeq (sPut f (eVar i) h) R) ρ C P := by
  obtain ⟨o, C', e1, p⟩ := kk
  obtain ⟨s, e2, w⟩ := hk
  unfold EvX at hz
  refine ⟨o, C', ?_, p⟩
  rw [s_seq, e_put, hz, bnd_s, v_s hv, bnd_s, e2, bnd_s, dat_d, bn1_s, w, bn1_s]
  show bnd (bn1 (C[n]?) _) _ = _
  rw [hn, bn1_s]
  show bnd (bn1 (bn1 (dKeys (k.map qS)) fun q => gd ((xs.map _).length < sizeLine) (some (D.dT (dPut (xs.map fun p => (kT p.1, e p.2)) q (e v))))) _) _ = _
  rw [dKeys_kT, bn1_s, gd_t (by rw [List.length_map]; exact hl), bn1_s, bnd_s, put_map (fun _ _ => kT_inj)]
  exact e1
theorem rs_putL {α : Type} {e : α → D} {xs : List α} {j : Int} {v : α} (hz : EvX f ρ C (e v) C) (hv : ρ[i]?.join = some (.cel n)) (hn : C[n]? = some (qL e xs)) (hk : EvD h ρ C (qI j) C) (hj : (ixN xs.length j).isSome = true) (kk : RunS R ρ (C.set n (qL e (xs.set ((ixN xs.length j).getD 0) v))) P) : RunS (sSeq (sPut f (eVar i) h) R) ρ C P := by
  obtain ⟨o, C', e1, p⟩ := kk
  obtain ⟨s, e2, w⟩ := hk
  obtain ⟨q, hq⟩ := Option.isSome_iff_exists.mp hj
  unfold EvX at hz
  refine ⟨o, C', ?_, p⟩
  rw [s_seq, e_put, hz, bnd_s, v_s hv, bnd_s, e2, bnd_s, dat_d, bn1_s, w, bn1_s]
  show bnd (bn1 (C[n]?) _) _ = _
  rw [hn, bn1_s]
  show bnd (bn1 (bn1 (ixN (xs.map e).length j) fun k => some (D.lst ((xs.map e).set k (e v)))) _) _ = _
  rw [List.length_map, hq, bn1_s, bn1_s, bnd_s]
  rw [hq] at e1
  have q2 : (xs.map e).set q (e v) = (xs.set q v).map e := by rw [List.map_set]
  rw [q2]
  exact e1
theorem rs_upd {β : Type} {e : β → D} {xs ys : List (Tx × β)} (hv : ρ[i]?.join = some (.cel n)) (hn : C[n]? = some (qDK e xs)) (hz : EvX g ρ C (qDK e ys) C) (hl : xs.length + ys.length ≤ sizeLine) (kk : RunS R ρ (C.set n (qDK e (kMerge xs ys))) P) : RunS (sSeq (sDrop (eUpd (eVar i) g)) R) ρ C P := by
  refine rs_drop (s := .dat .non) (C1 := C.set n (qDK e (kMerge xs ys))) ?_ kk
  unfold EvX at hz
  unfold eUpd
  have l0 : dictCel C (.cel n) = some (n, xs.map fun p => (kS p.1, e p.2)) := by unfold dictCel; dsimp only; rw [hn]
  rw [v_s hv, bnd_s, l0, bn1_s, hz, bnd_s, l0, bn1_s]
  show gd ((xs.map _).length + (ys.map _).length ≤ sizeLine) _ = _
  rw [gd_t (by rw [List.length_map, List.length_map]; exact hl)]
  show some (Sv.dat D.non, C.set n (.dK (mergeD (xs.map fun p => (kS p.1, e p.2)) (ys.map fun p => (kS p.1, e p.2))))) = _
  rw [merge_map (fun _ _ => kS_inj)]
/-! ends -/
theorem rs_ret (h : EvX f ρ C (e r) C1) (hx : C1.take n0 = st r) : RunS (sSeq (sRet f) R) ρ C (PG n0 e st r) := by
  unfold EvX at h
  refine ⟨_, _, by rw [s_seq, s_ret, h, bnd_s, bnd_s], ⟨_, rfl⟩, ?_⟩
  show some (Sv.dat (e r), C1.take n0) = _
  rw [hx]
theorem rs_retc (h : f ρ C = some (.cel n, C1)) (hn : n0 ≤ n) (hc : C1[n]? = some (e r)) (hx : C1.take n0 = st r) (hz : nolk (e r) = true := by rfl) : RunS (sSeq (sRet f) R) ρ C (PG n0 e st r) := by
  refine ⟨_, _, by rw [s_seq, s_ret, h, bnd_s, bnd_s], ⟨_, rfl⟩, ?_⟩
  show (if n < n0 then _ else _) = _
  rw [if_neg (by omega), hc, bn1_s, gd_t hz, hx]
theorem rs_retcN (h : f ρ C = some (.cel n, C1)) (hn : n0 ≤ n) (hc : C1[n]? = some (e r)) (hx : C1.take n0 = st r) : RunS (sSeq (sRet f) R) ρ C (PN n0 e st r) := by
  refine ⟨_, _, by rw [s_seq, s_ret, h, bnd_s, bnd_s], ⟨_, rfl⟩, ?_⟩
  show gd (n0 ≤ n) _ = _
  rw [gd_t hn, hc, bn1_s, hx]
theorem rs_retNew {N : SN} (h : EvN N ρ C (e r) C1) (hn : n0 ≤ C1.length) (hx : C1.take n0 = st r) : RunS (sSeq (sRetNew N) R) ρ C (PN n0 e st r) := by
  unfold EvN at h
  refine ⟨.rt (.cel C1.length), C1 ++ [e r], ?_, ⟨_, rfl⟩, ?_⟩
  · rw [s_seq]
    unfold sRetNew
    rw [h, bnd_s, bnd_s]
  · show gd (n0 ≤ C1.length) (bn1 ((C1 ++ [e r])[C1.length]?) fun d => some (d, (C1 ++ [e r]).take n0)) = _
    rw [gd_t hn, List.getElem?_concat_length, bn1_s, List.take_append_of_le_length hn, hx]
theorem rs_retN (hx : C.take n0 = st r) (he : e r = .non) : RunS (sSeq sRetN R) ρ C (PG n0 e st r) := by
  refine ⟨.rt (.dat .non), C, rfl, ⟨_, rfl⟩, ?_⟩
  show some (Sv.dat .non, C.take n0) = _
  rw [hx, he]
/-- a return from within a loop -/
theorem rs_rt {σ R' : Type} {I : σ → Env → Store → Prop} {Post : R' → Fl → Store → Prop} {v : R'} (k : RunS (sSeq (sRet f) R) ρ C (Post v)) : RunS (sSeq (sRet f) R) ρ C (LB I Post (.rt v)) := by
  obtain ⟨o, C', e, p⟩ := k
  refine ⟨o, C', e, ?_, p⟩
  rw [s_seq, s_ret] at e
  obtain ⟨o1, C1, e1, e⟩ := bnd_i e
  obtain ⟨v1, C2, e2, e1⟩ := bnd_i e1
  cases e1
  cases e
  exact ⟨_, rfl⟩
theorem rs_rtj {σ R' : Type} {I : σ → Env → Store → Prop} {Post : R' → Fl → Store → Prop} {v : R'} (k : RunS (sSeq (sRet f) R) ρ C (Post v)) : RunS (sSeq (sRet f) R) ρ C (JB I Post (.rt v)) := by
  obtain ⟨o, C', e, p⟩ := k
  refine ⟨o, C', e, ?_, p⟩
  rw [s_seq, s_ret] at e
  obtain ⟨o1, C1, e1, e⟩ := bnd_i e
  obtain ⟨v1, C2, e2, e1⟩ := bnd_i e1
  cases e1
  cases e
  exact fun _ z => by cases z
/-- a turn's end -/
theorem rs_end {σ R' : Type} {I : σ → Env → Store → Prop} {Post : R' → Fl → Store → Prop} {s : σ} (h : I s ρ C) : RunS sNil ρ C (LB I Post (.nx s)) := ⟨.nx ρ, C, rfl, ρ, .inl rfl, h⟩
theorem rs_endj {σ R' : Type} {I : σ → Env → Store → Prop} {Post : R' → Fl → Store → Prop} {s : σ} (h : I s ρ C) : RunS sNil ρ C (JB I Post (.nx s)) := ⟨.nx ρ, C, rfl, ρ, rfl, h⟩
theorem rs_ct {σ R' : Type} {I : σ → Env → Store → Prop} {Post : R' → Fl → Store → Prop} {s : σ} (h : I s ρ C) : RunS (sSeq sCt R) ρ C (LB I Post (.nx s)) := ⟨.ct ρ, C, rfl, ρ, .inr rfl, h⟩
theorem rs_bk {σ R' : Type} {I : σ → Env → Store → Prop} {Post : R' → Fl → Store → Prop} {s : σ} (h : I s ρ C) : RunS (sSeq sBk R) ρ C (LB I Post (.bk s)) := ⟨.bk ρ, C, rfl, ρ, rfl, h⟩
/-! ways -/
theorem rs_if {γ : Type} {Post : γ → Fl → Store → Prop} {v1 v2 : γ} (hc : EvT t ρ C b C1) (h1 : b = true → RunS (sSeq m1 R) ρ C1 (Post v1)) (h2 : b = false → RunS (sSeq m2 R) ρ C1 (Post v2)) : RunS (sSeq (sIf t m1 m2) R) ρ C (Post (if b = true then v1 else v2)) := by
  unfold EvT at hc
  cases b with
  | true =>
    obtain ⟨o, C', e, p⟩ := h1 rfl
    refine ⟨o, C', ?_, by rw [if_pos rfl]; exact p⟩
    rw [s_seq] at e
    rw [s_seq, s_if, hc, bnd_s, if_pos rfl]; exact e
  | false =>
    obtain ⟨o, C', e, p⟩ := h2 rfl
    refine ⟨o, C', ?_, by rw [if_neg Bool.false_ne_true]; exact p⟩
    rw [s_seq] at e
    rw [s_seq, s_if, hc, bnd_s, if_neg Bool.false_ne_true]; exact e
theorem rs_ifj {σ γ : Type} {Post : γ → Fl → Store → Prop} (I : σ → Env → Store → Prop) {v1 v2 : Sp σ γ} {k : σ → γ} {q : σ → Prop} (hc : EvT t ρ C b C1) (h1 : b = true → RunS m1 ρ C1 (JB I Post v1)) (h2 : b = false → RunS m2 ρ C1 (JB I Post v2)) (hq : thP (if b = true then v1 else v2) q)
    (hk : ∀ s ρ C, I s ρ C → q s → RunS R ρ C (Post (k s))) : RunS (sSeq (sIf t m1 m2) R) ρ C (Post (th (if b = true then v1 else v2) k)) := by
  unfold EvT at hc
  have go : ∀ (m : SS) (v : Sp σ γ), RunS m ρ C1 (JB I Post v) → thP v q → RunS (sSeq m R) ρ C1 (Post (th v k)) := by
    intro m v ⟨o, C', e, p⟩ hq
    cases v with
    | nx s =>
      obtain ⟨ρ', rfl, hi⟩ := p
      obtain ⟨o2, C2, e2, p2⟩ := hk s ρ' C' hi hq
      exact ⟨o2, C2, by rw [s_seq, e, bnd_s]; exact e2, p2⟩
    | rt r =>
      obtain ⟨hn, p⟩ := p
      refine ⟨o, C', ?_, p⟩
      rw [s_seq, e, bnd_s]
      cases o with
      | nx ρ' => exact absurd rfl (hn ρ')
      | _ => rfl
    | bk s => exact p.elim
  cases b with
  | true =>
    obtain ⟨o, C', e, p⟩ := go m1 v1 (h1 rfl) hq
    refine ⟨o, C', ?_, p⟩
    rw [s_seq] at e
    rw [s_seq, s_if, hc, bnd_s, if_pos rfl]; exact e
  | false =>
    obtain ⟨o, C', e, p⟩ := go m2 v2 (h2 rfl) hq
    refine ⟨o, C', ?_, p⟩
    rw [s_seq] at e
    rw [s_seq, s_if, hc, bnd_s, if_neg Bool.false_ne_true]; exact e
theorem rs_for {α σ γ : Type} {Post : γ → Fl → Store → Prop} (I : σ → Env → Store → Prop) {ea : α → D} {xs : List α} {s0 : σ} {fn : σ → α → Sp σ γ} {p : σ → α → Prop} {k : σ → γ} {q : σ → Prop} {si : SI} {bi : D → Env → Option Env} {body : SS} {cels : List (Nat × D)}
    (hi : EvI si ρ C (xs.map ea) cels C1) (h0 : I s0 ρ C1) (hs : ∀ s ρ C, I s ρ C → stays C cels = true) (hP : lpP xs s0 fn p)
    (hb : ∀ s x ρ C, x ∈ xs → I s ρ C → p s x → ∃ ρ1, bi (ea x) ρ = some ρ1 ∧ RunS body ρ1 C (LB I Post (fn s x)))
    (hQ : thP (lp xs s0 fn) q) (hk : ∀ s ρ C, I s ρ C → q s → RunS R ρ C (Post (k s))) : RunS (sSeq (sFor si bi body) R) ρ C (Post (th (lp xs s0 fn) k)) := by
  unfold EvI at hi
  have go : ∀ (l : List α) (s : σ) (ρ : Env) (C : Store), (∀ x ∈ l, x ∈ xs) → I s ρ C → lpP l s fn p → thP (lp l s fn) q →
      ∃ o C', (bnd (forL cels bi body (l.map ea) ρ C) fun o C1 => match o with | .nx ρ1 => R ρ1 C1 | o => some (o, C1)) = some (o, C') ∧ Post (th (lp l s fn) k) o C' := by
    intro l
    induction l with
    | nil =>
      intro s ρ C _ h _ hq
      obtain ⟨o, C', e, p⟩ := hk s ρ C h hq
      refine ⟨o, C', ?_, p⟩
      show bnd (gd _ _) _ = _
      rw [gd_t (hs s ρ C h), bnd_s]; exact e
    | cons x l ih =>
      intro s ρ C hl h hp hq
      obtain ⟨hp1, hp2⟩ := hp
      obtain ⟨ρ1, e1, o1, C2, e2, q2⟩ := hb s x ρ C (hl x List.mem_cons_self) h hp1
      have unf : ∀ r, fn s x = r → lp (x :: l) s fn = (match r with | .nx s' => lp l s' fn | .rt r => .rt r | .bk s' => .nx s') := fun r hr => by rw [← hr]; rfl
      have st : forL cels bi body ((x :: l).map ea) ρ C = (match (generalizing := false) o1 with
        | .nx ρ2 => forL cels bi body (l.map ea) ρ2 C2
        | .ct ρ2 => forL cels bi body (l.map ea) ρ2 C2
        | .bk ρ2 => some (.nx ρ2, C2)
        | .rt v => some (.rt v, C2)) := by
        rw [List.map_cons]
        conv => lhs; unfold forL
        rw [gd_t (hs s ρ C h), e1, bn1_s, e2, bnd_s]
        first | done | (cases o1 <;> rfl)
      rw [st]
      cases hf : fn s x with
      | nx s' =>
        rw [hf] at q2 hp2
        rw [unf _ hf] at hq ⊢
        obtain ⟨ρ', ho, hi'⟩ := q2
        have := ih s' ρ' C2 (fun y hy => hl y (List.mem_cons_of_mem _ hy)) hi' hp2 hq
        rcases ho with rfl | rfl <;> exact this
      | rt r =>
        rw [hf] at q2
        rw [unf _ hf]
        obtain ⟨⟨v, rfl⟩, q3⟩ := q2
        exact ⟨_, _, rfl, q3⟩
      | bk s' =>
        rw [hf] at q2
        rw [unf _ hf] at hq ⊢
        obtain ⟨ρ', rfl, hi'⟩ := q2
        obtain ⟨o, C', e, p⟩ := hk s' ρ' C2 hi' hq
        exact ⟨o, C', by rw [bnd_s]; exact e, p⟩
  obtain ⟨o, C', e, p⟩ := go xs s0 ρ C1 (fun _ h => h) h0 hP hQ
  refine ⟨o, C', ?_, p⟩
  rw [s_seq]
  unfold sFor
  rw [hi, bnd_s]
  exact e
theorem rs_while {σ γ : Type} {Post : γ → Fl → Store → Prop} (I : σ → Env → Store → Prop) {s0 : σ} {c : σ → Bool} {pc : σ → Prop} {fn : σ → Sp σ γ} {p : σ → Prop} {k : σ → γ} {q : σ → Prop} {body : SS} {N : Nat}
    (h0 : I s0 ρ C) (hP : wlP N c pc fn p s0)
    (hc : ∀ s ρ C, I s ρ C → pc s → EvT t ρ C (c s) C)
    (hb : ∀ s ρ C, I s ρ C → c s = true → p s → RunS body ρ C (LB I Post (fn s)))
    (hQ : thP (wl N c fn s0) q) (hk : ∀ s ρ C, I s ρ C → q s → RunS R ρ C (Post (k s))) : RunS (sSeq (whileL t body N) R) ρ C (Post (th (wl N c fn s0) k)) := by
  have go : ∀ (N : Nat) (s : σ) (ρ : Env) (C : Store), I s ρ C → wlP N c pc fn p s → thP (wl N c fn s) q →
      ∃ o C', (bnd (whileL t body N ρ C) fun o C1 => match o with | .nx ρ1 => R ρ1 C1 | o => some (o, C1)) = some (o, C') ∧ Post (th (wl N c fn s) k) o C' := by
    intro N
    induction N with
    | zero => intro s ρ C _ hp; exact hp.elim
    | succ N ih =>
      intro s ρ C h hp hq
      obtain ⟨hp1, hp2⟩ := hp
      have ec := hc s ρ C h hp1
      unfold EvT at ec
      cases hcs : c s with
      | false =>
        have e0 : wl (N + 1) c fn s = .nx s := by unfold wl; rw [hcs, if_neg Bool.false_ne_true]
        rw [e0] at hq ⊢
        obtain ⟨o, C', e, p⟩ := hk s ρ C h hq
        refine ⟨o, C', ?_, p⟩
        unfold whileL
        rw [ec, hcs, bnd_s, if_neg Bool.false_ne_true, bnd_s]; exact e
      | true =>
        obtain ⟨hp3, hp4⟩ := hp2 hcs
        obtain ⟨o1, C2, e2, q2⟩ := hb s ρ C h hcs hp3
        have unf : ∀ r, fn s = r → wl (N + 1) c fn s = (match r with | .nx s' => wl N c fn s' | .rt r => .rt r | .bk s' => .nx s') := by
          intro r hr
          rw [← hr]
          conv => lhs; unfold wl
          rw [hcs, if_pos rfl]
        have st : whileL t body (N + 1) ρ C = (match (generalizing := false) o1 with
          | .nx ρ2 => whileL t body N ρ2 C2
          | .ct ρ2 => whileL t body N ρ2 C2
          | .bk ρ2 => some (.nx ρ2, C2)
          | .rt v => some (.rt v, C2)) := by
          conv => lhs; unfold whileL
          rw [ec, hcs, bnd_s, if_pos rfl, e2, bnd_s]
          first | done | (cases o1 <;> rfl)
        rw [st]
        cases hf : fn s with
        | nx s' =>
          rw [hf] at q2 hp4
          rw [unf _ hf] at hq ⊢
          obtain ⟨ρ', ho, hi'⟩ := q2
          have := ih s' ρ' C2 hi' hp4 hq
          rcases ho with rfl | rfl <;> exact this
        | rt r =>
          rw [hf] at q2
          rw [unf _ hf]
          obtain ⟨⟨v, rfl⟩, q3⟩ := q2
          exact ⟨_, _, rfl, q3⟩
        | bk s' =>
          rw [hf] at q2
          rw [unf _ hf] at hq ⊢
          obtain ⟨ρ', rfl, hi'⟩ := q2
          obtain ⟨o, C', e, p⟩ := hk s' ρ' C2 hi' hq
          exact ⟨o, C', by rw [bnd_s]; exact e, p⟩
  obtain ⟨o, C', e, p⟩ := go N s0 ρ C h0 hP hQ
  exact ⟨o, C', by rw [s_seq]; exact e, p⟩
/-! a walk that draws -/
theorem lcs_n {α β τ : Type} {ea : α → D} {e' : β → D} {qb : τ → D} {si : SI} {bi : D → Env → Option Env} {te : SE} {vs : List Nat} {xs : List α} {p : α → Bool} {fn : τ → α → β × τ} {pp : τ → α → Prop} {B : τ} {t : ST}
    (hi : EvI si ρ C (xs.map ea) [] C1) (hl : xs.length ≤ sizeLine) (hB : C1[n]? = some (qb B)) (hP : mapSP p fn pp xs B)
    (hb : ∀ x ∈ xs, ∃ ρ1, bi (ea x) (wipeE ρ vs) = some ρ1 ∧ (∀ B, EvT t ρ1 (C1.set n (qb B)) (p x) (C1.set n (qb B))) ∧ ∀ B, p x = true → pp B x → ∃ C2, EvX te ρ1 (C1.set n (qb B)) (e' (fn B x).1) C2 ∧ C2 = C1.set n (qb (fn B x).2)) : EvN (nLc si bi t te vs) ρ C (qL e' (mapS p fn xs B).1) (C1.set n (qb (mapS p fn xs B).2)) := by
  unfold EvI at hi
  unfold EvN nLc
  rw [hi, bnd_s, gd_t (by rw [List.length_map]; exact hl)]
  have key : ∀ (l : List α) (B : τ), (∀ x ∈ l, x ∈ xs) → mapSP p fn pp l B → compL [] bi t te (wipeE ρ vs) (l.map ea) (C1.set n (qb B)) = some (((mapS p fn l B).1).map e', C1.set n (qb (mapS p fn l B).2)) := by
    intro l
    induction l with
    | nil => intro B _ _; rfl
    | cons x l ih =>
      intro B hl hP
      obtain ⟨ρ1, h1, h2, h3⟩ := hb x (hl x List.mem_cons_self)
      have ih' := fun B => ih B fun y hy => hl y (List.mem_cons_of_mem _ hy)
      have h2' := h2 B
      unfold EvT at h2'
      rw [List.map_cons]
      unfold compL
      rw [gd_t (show stays (C1.set n (qb B)) [] = true from rfl), h1, bn1_s, h2', bnd_s]
      unfold mapSP at hP
      unfold mapS
      cases hp : p x with
      | false =>
        rw [hp, if_neg Bool.false_ne_true] at hP
        rw [if_neg Bool.false_ne_true, if_neg Bool.false_ne_true]; exact ih' B hP
      | true =>
        rw [hp, if_pos rfl] at hP
        obtain ⟨C2, h4, rfl⟩ := h3 B hp hP.1
        unfold EvX at h4
        rw [if_pos rfl, if_pos rfl, h4, bnd_s, dat_d, bn1_s, ih' _ hP.2]; rfl
  have q := key xs B (fun _ h => h) hP
  rw [set_get hB] at q
  rw [q, bnd_s]
/-! a def -/
theorem def_E {N np : Nat} {body : SS} {svs : List Sv} (hl : svs.length = np) (k : RunS (sSeq body sNil) (startE N svs) C (PG C.length e st r)) : runE N np body svs C = some (.dat (e r), st r) := by
  obtain ⟨o, C', e1, _, p⟩ := rs_last k
  show gd _ _ = _
  rw [gd_t hl, e1, bnd_s]
  exact p
theorem def_N {N np : Nat} {body : SS} {svs : List Sv} (hl : svs.length = np) (k : RunS (sSeq body sNil) (startE N svs) C (PN C.length e st r)) : runN N np body svs C = some (e r, st r) := by
  obtain ⟨o, C', e1, _, p⟩ := rs_last k
  show gd _ _ = _
  rw [gd_t hl, e1, bnd_s]
  exact p
end
end DX

/-! NB4: more rules: parts, objects, sorted rows, the source of draws. -/
namespace DX
open PySem PySem.Spec L2

theorem ss {C : Store} {n : Nat} {a b : D} : (C.set n a).set n b = C.set n b := List.set_set ..
theorem ite_t {c p q : Prop} [Decidable c] (h : c) (k : if c then p else q) : p := by rwa [if_pos h] at k
theorem ite_f {b : Bool} {p q : Prop} (h : b = false) (k : if b = true then p else q) : q := by subst h; exact k
theorem lpP_true {α σ ρ : Type} : ∀ {xs : List α} {s : σ} {f : σ → α → Sp σ ρ}, lpP xs s f (fun _ _ => True)
  | [], _, _ => trivial
  | x :: xs, s, f => by
    refine ⟨trivial, ?_⟩
    cases f s x with
    | nx s' => exact lpP_true
    | rt r => trivial
    | bk s' => trivial
theorem thP_true {σ ρ : Type} {x : Sp σ ρ} : thP x (fun _ => True) := by cases x <;> trivial
section
variable {m m1 m2 R : SS} {ρ ρ1 : Env} {C C1 C2 C0 : Store} {Q : Fl → Store → Prop} {P L L' : List (Nat × D)} {f g h : SE} {d d1 z : D} {i n n0 : Nat} {b : Bool} {t : ST} {a : SA} {γ : Type} {e : γ → D} {st : γ → Store} {r : γ}
theorem rs_lt {α γ : Type} {Post : γ → Fl → Store → Prop} {v : α} {k : α → γ} (h : let x := v; RunS m ρ C (Post (k x))) : RunS m ρ C (Post (lt v k)) := h
theorem rs_gen (cs : CS C0 C P L) (k : ∀ C, CS C0 C P L → RunS m ρ C Q) : RunS m ρ C Q := k C cs
theorem rs_newC {N : SN} (cs : CS C0 C1 P L) (h : EvN N ρ C d C1) (k : ∀ n C', CS C0 C' P (L ++ [(n, d)]) → RunS R (ρ.set i (some (.cel n))) C' Q) : RunS (sSeq (sNew i N) R) ρ C Q := rs_new h (k _ _ (cs.new d))
def ArgR (a : SA) (ρ : Env) (C : Store) (K : List Sv → Store → Prop) : Prop := ∃ ss C', a ρ C = some (ss, C') ∧ K ss C'
theorem am_nil {K : List Sv → Store → Prop} (k : K [] C) : ArgR aNil ρ C K := ⟨[], C, rfl, k⟩
theorem am_x {K : List Sv → Store → Prop} (h : EvX f ρ C d C1) (k : ArgR a ρ C1 (fun ss C' => K (.dat d :: ss) C')) : ArgR (aCons f a) ρ C K := by
  obtain ⟨ss, C', e, p⟩ := k
  unfold EvX at h
  exact ⟨_, C', by rw [e_cons, h, bnd_s, e, bnd_s], p⟩
theorem am_n {K : List Sv → Store → Prop} {N : SN} (cs : CS C0 C1 P L) (h : EvN N ρ C d C1) (k : ∀ n C2, CS C0 C2 P (L ++ [(n, d)]) → ArgR a ρ C2 (fun ss C' => K (.cel n :: ss) C')) : ArgR (aNew N a) ρ C K := by
  obtain ⟨ss, C', e, p⟩ := k C1.length (C1 ++ [d]) (cs.new d)
  unfold EvN at h
  refine ⟨_, C', ?_, p⟩
  unfold aNew
  rw [h, bnd_s, e, bnd_s]
theorem ar_gen {K : List Sv → Store → Prop} (cs : CS C0 C P L) (k : ∀ C, CS C0 C P L → ArgR a ρ C K) : ArgR a ρ C K := k C cs
theorem rs_mulA {is : List Nat} (h : ArgR a ρ C (fun ss C1 => ss.length = is.length ∧ RunS R (setAll is ss ρ) C1 Q)) : RunS (sSeq (sMul is a) R) ρ C Q := by
  obtain ⟨ss, C', e, hl, o, C2, e2, p⟩ := h
  refine ⟨o, C2, ?_, p⟩
  rw [s_seq]
  unfold sMul
  rw [e, bnd_s, gd_t hl, bnd_s]
  exact e2
theorem rs_ifT (hc : EvT t ρ C b C1) (hb : b = true) (k : RunS (sSeq m1 R) ρ C1 Q) : RunS (sSeq (sIf t m1 m2) R) ρ C Q := by
  subst hb
  obtain ⟨o, C', e, p⟩ := k
  unfold EvT at hc
  refine ⟨o, C', ?_, p⟩
  rw [s_seq] at e
  rw [s_seq, s_if, hc, bnd_s, if_pos rfl]; exact e
theorem rs_ifF (hc : EvT t ρ C b C1) (hb : b = false) (k : RunS (sSeq m2 R) ρ C1 Q) : RunS (sSeq (sIf t m1 m2) R) ρ C Q := by
  subst hb
  obtain ⟨o, C', e, p⟩ := k
  unfold EvT at hc
  refine ⟨o, C', ?_, p⟩
  rw [s_seq] at e
  rw [s_seq, s_if, hc, bnd_s, if_neg Bool.false_ne_true]; exact e
theorem CS.sel (cs : CS C0 C P L) (is : List Nat) (h : is.map (fun i => L[i]?) = L'.map some) (hn : is.Nodup := by decide) : CS C0 C P L' := by
  have mem : ∀ p ∈ L', p ∈ L := fun p hp => by
    have : some p ∈ L'.map some := List.mem_map.mpr ⟨p, hp, rfl⟩
    rw [← h] at this
    obtain ⟨i, _, hi⟩ := List.mem_map.mp this
    exact List.mem_of_getElem? hi
  refine ⟨cs.len, cs.same, cs.atP, fun p hp => cs.atL p (mem p hp), cs.ndP, ?_⟩
  have key : ∀ (is : List Nat) (L' : List (Nat × D)), is.map (fun i => L[i]?) = L'.map some → is.Nodup → (L'.map (·.1)).Nodup := by
    intro is
    induction is with
    | nil => intro L' h _; cases L' with
      | nil => exact List.nodup_nil
      | cons _ _ => cases h
    | cons i is ih =>
      intro L' h hn
      cases L' with
      | nil => cases h
      | cons p L' =>
        rw [List.map_cons, List.map_cons, List.cons.injEq] at h
        obtain ⟨h1, h2⟩ := h
        obtain ⟨n1, n2⟩ := List.nodup_cons.mp hn
        rw [List.map_cons, List.nodup_cons]
        refine ⟨fun z => ?_, ih L' h2 n2⟩
        obtain ⟨p', hp', e⟩ := List.mem_map.mp z
        have : some p' ∈ L'.map some := List.mem_map.mpr ⟨p', hp', rfl⟩
        rw [← h2] at this
        obtain ⟨j, hj, e2⟩ := List.mem_map.mp this
        have k1 : (L.map (·.1))[i]? = some p.1 := by rw [List.getElem?_map, h1]; rfl
        have k2 : (L.map (·.1))[j]? = some p.1 := by rw [List.getElem?_map, e2]; show some p'.1 = _; rw [e]
        have lk := (List.getElem?_eq_some_iff.mp k1).1
        have : i = j := (List.getElem?_inj lk cs.ndL).mp (k1.trans k2.symm)
        exact n1 (this ▸ hj)
  exact key is L' h hn
theorem CS.ne (cs : CS C0 C P L) {n k : Nat} {d e : D} (i j : Nat) (h1 : P[i]? = some (n, d)) (h2 : L[j]? = some (k, e)) : n ≠ k := by
  have a1 := (cs.atP _ (List.mem_of_getElem? h1)).2
  have a2 := (cs.atL _ (List.mem_of_getElem? h2)).2
  show n ≠ k
  have : n < C0.length := a1
  have : C0.length ≤ k := a2
  omega
theorem CS.neL (cs : CS C0 C P L) {n k : Nat} {d e : D} (i j : Nat) (h1 : L[i]? = some (n, d)) (h2 : L[j]? = some (k, e)) (hij : i ≠ j) : n ≠ k := by
  intro z
  have k1 : (L.map (·.1))[i]? = some n := by rw [List.getElem?_map, h1]; rfl
  have k2 : (L.map (·.1))[j]? = some n := by rw [List.getElem?_map, h2]; show some k = _; rw [z]
  exact hij ((List.getElem?_inj (List.getElem?_eq_some_iff.mp k1).1 cs.ndL).mp (k1.trans k2.symm))
def PI {γ : Type} (n0 : Nat) (st : γ → Store) (r : γ) : Fl → Store → Prop := fun o C' => fin n0 o C' = some (.dat .non, st r)
theorem rs_fallI (hx : C.take n0 = st r) : RunS sNil ρ C (PI n0 st r) := by
  refine ⟨.nx ρ, C, rfl, ?_⟩
  show some (Sv.dat .non, C.take n0) = _
  rw [hx]
theorem def_I {N np : Nat} {body : SS} {svs : List Sv} (hl : svs.length = np) (k : RunS (sSeq body sNil) (startE N svs) C (PI C.length st r)) : runE N np body svs C = some (.dat .non, st r) := by
  obtain ⟨o, C', e1, p⟩ := rs_last k
  show gd _ _ = _
  rw [gd_t hl, e1, bnd_s]
  exact p
/-! what is frozen behind a block -/
theorem consEq {α : Type} {a b : α} {l l' : List α} (h : a = b) (k : l = l') : a :: l = b :: l' := by rw [h, k]
theorem frz_old {n0 : Nat} (h : n < n0) : (some (Sv.cel n)).bind (frzV n0 C) = some (.cel n) := by
  show (if n < n0 then some (Sv.cel n) else _) = _
  rw [if_pos h]
theorem frz_new {n0 : Nat} (h : n0 ≤ n) (hc : C[n]? = some d) (hd : nolk d = true) : (some (Sv.cel n)).bind (frzV n0 C) = some (.dat d) := by
  show (if n < n0 then some (Sv.cel n) else match C[n]? with | some d => if nolk d = true then some (.dat d) else none | none => none) = _
  rw [if_neg (by omega), hc]
  show (if nolk d = true then some (Sv.dat d) else none) = _
  rw [if_pos hd]
theorem CS.ltP (cs : CS C0 C P L) (k : Nat) (h : P[k]? = some (n, d)) : n < C0.length := (cs.atP _ (List.mem_of_getElem? h)).2
theorem CS.rebase (cs : CS C0 C P L) : CS C C (P ++ L) [] := by
  refine ⟨Nat.le_refl _, fun _ _ _ => rfl, fun p hp => ?_, fun _ h => (by cases h), ?_, List.nodup_nil⟩
  · rcases List.mem_append.mp hp with h | h
    · exact ⟨(cs.atP p h).1, lt_of_get (cs.atP p h).1⟩
    · exact ⟨(cs.atL p h).1, lt_of_get (cs.atL p h).1⟩
  · rw [List.map_append, List.nodup_append]
    refine ⟨cs.ndP, cs.ndL, fun a ha b hb => ?_⟩
    obtain ⟨p, hp, rfl⟩ := List.mem_map.mp ha
    obtain ⟨r, hr, rfl⟩ := List.mem_map.mp hb
    have h1 := (cs.atP p hp).2
    have h2 := (cs.atL r hr).2
    omega
theorem CS.unbase {K : Store} {PL P2 L2 M : List (Nat × D)} (cs : CS C0 K P L) (cn : CS K C PL M) (hPL : PL = P2 ++ L2) (hk : (P2.map (·.1) = P.map (·.1)) ∧ L2.map (·.1) = L.map (·.1)) : CS C0 (C.take K.length) P2 L2 := by
  subst hPL
  obtain ⟨hP, hL⟩ := hk
  have tk : ∀ i, i < K.length → (C.take K.length)[i]? = C[i]? := fun i h => by rw [List.getElem?_take, if_pos h]
  have hlen : (C.take K.length).length = K.length := by rw [List.length_take]; have := cn.len; omega
  refine ⟨by rw [hlen]; exact cs.len, fun i h1 h2 => ?_, fun p hp => ?_, fun p hp => ?_, by rw [hP]; exact cs.ndP, by rw [hL]; exact cs.ndL⟩
  · have hi : i < K.length := Nat.lt_of_lt_of_le h1 cs.len
    have hP' : ∀ p ∈ P, p.1 ≠ i := fun p hp z => by
      have : p.1 ∈ P2.map (·.1) := by rw [hP]; exact List.mem_map.mpr ⟨p, hp, rfl⟩
      obtain ⟨r, hr, e⟩ := List.mem_map.mp this
      exact h2 r hr (e.trans z)
    rw [tk i hi, cn.same i hi fun p hp z => ?_]
    · exact cs.same i h1 hP'
    · rcases List.mem_append.mp hp with h | h
      · exact h2 p h z
      · have : p.1 ∈ L.map (·.1) := by rw [← hL]; exact List.mem_map.mpr ⟨p, h, rfl⟩
        obtain ⟨r, hr, e⟩ := List.mem_map.mp this
        have := (cs.atL r hr).2
        omega
  · have h := cn.atP p (List.mem_append_left _ hp)
    refine ⟨by rw [tk _ h.2]; exact h.1, ?_⟩
    have : p.1 ∈ P.map (·.1) := by rw [← hP]; exact List.mem_map.mpr ⟨p, hp, rfl⟩
    obtain ⟨r, hr, e⟩ := List.mem_map.mp this
    rw [← e]; exact (cs.atP r hr).2
  · have h := cn.atP p (List.mem_append_right _ hp)
    refine ⟨by rw [tk _ h.2]; exact h.1, ?_⟩
    have : p.1 ∈ L.map (·.1) := by rw [← hL]; exact List.mem_map.mpr ⟨p, hp, rfl⟩
    obtain ⟨r, hr, e⟩ := List.mem_map.mp this
    rw [← e]; exact (cs.atL r hr).2
theorem rs_frz {σ γ : Type} {Post : γ → Fl → Store → Prop} (I : Store → σ → Env → Store → Prop) (I2 : σ → Env → Store → Prop) {v : Sp σ γ} {k : σ → γ} {q : σ → Prop} (cs : CS C0 C P L)
    (h : ∀ K, CS C0 K P L → CS K K (P ++ L) [] → RunS m ρ K (JB (I K) (fun (_ : γ) _ _ => False) v))
    (hI : ∀ K, CS C0 K P L → ∀ s ρ' C', I K s ρ' C' → I2 s (frzE K.length C' ρ') (C'.take K.length)) (hq : thP v q)
    (hk : ∀ s ρ' C', I2 s ρ' C' → q s → RunS R ρ' C' (Post (k s))) : RunS (sSeq (sFrz m) R) ρ C (Post (th v k)) := by
  obtain ⟨o, C', e, p⟩ := h C cs cs.rebase
  cases v with
  | nx s =>
    obtain ⟨ρ', rfl, hi⟩ := p
    obtain ⟨o2, C2, e2, p2⟩ := hk s _ _ (hI C cs s ρ' C' hi) hq
    refine ⟨o2, C2, ?_, p2⟩
    rw [s_seq]
    unfold sFrz
    rw [e, bnd_s]
    show bnd (bn1 (some (Fl.nx (frzE C.length C' ρ'))) _) _ = _
    rw [bn1_s, bnd_s]
    exact e2
  | rt r => exact p.2.elim
  | bk s => exact p.elim
/-! parts of objects -/
theorem lk0 {k : Str} {z : D} {l : List (Str × D)} : ((k, z) :: l).lookup k = some z := by simp [List.lookup]
theorem lk1 {k k' : Str} {z y : D} {l : List (Str × D)} (h : (k == k') = false) (r : l.lookup k = some z) : ((k', y) :: l).lookup k = some z := by
  rw [List.lookup, h]; exact r
theorem lkn0 {k : Str} : (([] : List (Str × D)).lookup k).isNone = true := rfl
theorem lkn1 {k k' : Str} {y : D} {l : List (Str × D)} (h : (k == k') = false) (r : (l.lookup k).isNone = true) : (((k', y) :: l).lookup k).isNone = true := by
  rw [List.lookup, h]; exact r
theorem fld_x {c fl : Str} {fs : List (Str × D)} (ho : EvD g ρ C (.ins c fs) C1) (hl : fs.lookup fl = some z) : EvX (eFld c fl g) ρ C z C1 := by
  obtain ⟨s, e, w⟩ := ho
  unfold EvX eFld
  rw [e, bnd_s, w, bn1_s]
  show gd (c = c) _ = _
  rw [gd_t rfl, hl]; rfl
theorem see_cel (h : C[n]? = some d) (hu : unlk d = d) : see C (.cel n) = some d := by
  show (C[n]?).map unlk = _
  rw [h]; show some (unlk d) = _; rw [hu]
theorem meth_x {c mm : Str} {np : Nat} {F : FE} {fs : List (Str × D)} {s r : Sv} {ss : List Sv} {C3 : Store} (ho : f ρ C = some (s, C1)) (hs : see C1 s = some (.ins c fs)) (hl : (fs.lookup mm).isNone = true) (ha : EvS a ρ C1 ss C2) (hn : ss.length + 1 = np) (hF : F (s :: ss) C2 = some (r, C3)) : eMeth c mm np F f a ρ C = some (r, C3) := by
  unfold EvS at ha
  unfold eMeth
  rw [ho, bnd_s, hs, bn1_s]
  show gd (c = c ∧ (fs.lookup mm).isNone = true) _ = _
  rw [gd_t ⟨rfl, hl⟩, ha, bnd_s, gd_t hn, hF]
theorem getNew (C : Store) (d : D) : (C ++ [d])[C.length]? = some d := List.getElem?_concat_length
theorem mk_n {c : Str} {np : Nat} {F : FE} {ss : List Sv} (ha : EvS a ρ C ss C1) (hn : ss.length + 1 = np) (hF : F (.cel C1.length :: ss) (C1 ++ [D.ins c []]) = some (.dat .non, (C1 ++ [D.ins c []]).set C1.length d)) : EvN (nMk c np F a) ρ C d C1 := by
  unfold EvS at ha
  unfold EvN nMk
  have e1 : (C1 ++ [D.ins c []]).set C1.length d = C1 ++ [d] := by simp
  rw [ha, bnd_s, gd_t hn, hF, bnd_s, e1]
  show bn1 ((C1 ++ [d])[C1.length]?) _ = _
  rw [getNew, bn1_s, List.take_left' rfl]
theorem putD_app {fl : Str} {z : D} : ∀ {ds : List (Str × D)}, (ds.any fun p => p.1 == fl) = false → putD fl z ds = ds ++ [(fl, z)]
  | [], _ => rfl
  | (g, x) :: r, h => by
    rw [List.any_cons, Bool.or_eq_false_iff] at h
    have hne : ¬ g = fl := fun q => by have := h.1; rw [q] at this; simp at this
    show (if g = fl then _ else _) = _
    rw [if_neg hne, putD_app h.2]; rfl
theorem rs_fld {c fl : Str} {fs : List (Str × D)} (ns : List Str) (hz : EvX f ρ C z C) (hv : ρ[i]?.join = some (.cel n)) (hn : C[n]? = some (.ins c fs)) (hl : fs.map (·.1) = ns) (hp : (ns.all (· != fl) && decide (ns.length < 1000)) = true) (k : RunS R ρ (C.set n (.ins c (fs ++ [(fl, z)]))) Q) : RunS (sSeq (sFldS c fl (eVar i) f) R) ρ C Q := by
  obtain ⟨o, C', e, p⟩ := k
  unfold EvX at hz
  refine ⟨o, C', ?_, p⟩
  rw [s_seq]
  unfold sFldS
  rw [hz, bnd_s, dat_d, bn1_s, v_s hv, bnd_s]
  show bnd (bn1 (C[n]?) _) _ = _
  rw [hn, bn1_s]
  show bnd (gd (c = c ∧ fs.length < 1000) _) _ = _
  have hq : (fs.any fun p => p.1 == fl) = false := by
    rw [Bool.and_eq_true, ← hl, List.all_map] at hp
    rw [Bool.eq_false_iff]
    intro h
    obtain ⟨x, hx, hx2⟩ := List.any_eq_true.mp h
    have := List.all_eq_true.mp hp.1 x hx
    simp at this hx2
    exact this hx2
  have hlen : fs.length < 1000 := by
    rw [Bool.and_eq_true] at hp
    have := of_decide_eq_true hp.2
    rw [← hl, List.length_map] at this
    exact this
  rw [gd_t ⟨rfl, hlen⟩, bnd_s, putD_app hq]
  exact e
theorem isi_x {t : Ty} (h : EvD f ρ C d C1) (hr : isTy d t = some b) : EvX (eIsi t f) ρ C (qB b) C1 := by
  obtain ⟨s, e, w⟩ := h
  unfold EvX eIsi
  rw [e, bnd_s, w, bn1_s, hr, bn1_s]
theorem isi2_x {t u : Ty} {b c : Bool} (h : EvD f ρ C d C1) (hr : isTy d t = some b) (hr2 : isTy d u = some c) : EvX (eIsi2 t u f) ρ C (qB (b || c)) C1 := by
  obtain ⟨s, e, w⟩ := h
  unfold EvX eIsi2
  rw [e, bnd_s, w, bn1_s, hr, bn1_s, hr2, bn1_s]
/-! dicts anew -/
theorem ndK {β : Type} {e : β → D} : EvN nDK ρ C (qDK e []) C := rfl
theorem ndI {β : Type} {e : β → D} : EvN nDK ρ C (qDI e []) C := rfl
theorem ndT {β : Type} {e : β → D} : EvN nDT ρ C (qDT e []) C := rfl
theorem ndspS {β : Type} {e : β → D} {k : Tx} {v : β} (h1 : EvX f ρ C (qS k) C1) (h2 : EvX g ρ C1 (e v) C2) : EvN (nDsp f g) ρ C (qDK e [(k, v)]) C2 := by
  unfold EvX at h1 h2
  unfold EvN nDsp
  rw [h1, bnd_s, h2, bnd_s]; rfl
theorem ndspI {β : Type} {e : β → D} {k : Int} {v : β} (h1 : EvX f ρ C (qI k) C1) (h2 : EvX g ρ C1 (e v) C2) : EvN (nDsp f g) ρ C (qDI e [(k, v)]) C2 := by
  unfold EvX at h1 h2
  unfold EvN nDsp
  rw [h1, bnd_s, h2, bnd_s]; rfl
end
theorem pairs_map {β : Type} {e : β → D} : ∀ xs : List (Tx × β), pairsD (xs.map (qP qS e)) = some (xs.map fun p => (kS p.1, e p.2))
  | [] => rfl
  | x :: xs => by
    show bn1 (dKey (qS x.1)) _ = _
    show bn1 (pairsD (xs.map (qP qS e))) _ = _
    rw [pairs_map xs]; rfl
theorem r_dictP {β : Type} {e : β → D} (xs : List (Tx × β)) : dDictP [qL (qP qS e) xs] = some (qDK e (kMerge [] xs)) := by
  show bn1 (pairsD (xs.map (qP qS e))) _ = _
  rw [pairs_map, bn1_s]
  show some (D.dK (mergeD (([] : List (Tx × β)).map fun p => (kS p.1, e p.2)) _)) = _
  rw [merge_map (fun _ _ => kS_inj)]

/-! ### sorting -/
def leT (a b : Tx) : Bool := leS a.1 b.1
/-- mergeSort, in steps that can be reckoned -/
def mrg {α : Type} (le : α → α → Bool) : Nat → List α → List α → List α
  | 0, xs, ys => xs ++ ys
  | _ + 1, [], ys => ys
  | _ + 1, x :: xs, [] => x :: xs
  | n + 1, x :: xs, y :: ys => if le x y = true then x :: mrg le n xs (y :: ys) else y :: mrg le n (x :: xs) ys
def msort {α : Type} (le : α → α → Bool) : Nat → List α → List α
  | 0, xs => xs
  | _ + 1, [] => []
  | _ + 1, [a] => [a]
  | n + 1, a :: b :: r => mrg le (r.length + 2) (msort le n ((a :: b :: r).take ((r.length + 3) / 2))) (msort le n ((a :: b :: r).drop ((r.length + 3) / 2)))
theorem mrg_eq {α : Type} (le : α → α → Bool) : ∀ (n : Nat) (xs ys : List α), xs.length + ys.length ≤ n → mrg le n xs ys = xs.merge ys le
  | 0, [], [], _ => by simp [mrg]
  | 0, _ :: _, _, h => by simp at h
  | 0, [], _ :: _, h => by simp at h
  | n + 1, [], ys, _ => by rw [List.merge.eq_def]; rfl
  | n + 1, x :: xs, [], _ => by rw [List.merge.eq_def]; rfl
  | n + 1, x :: xs, y :: ys, h => by
    have h' : xs.length + 1 + (ys.length + 1) ≤ n + 1 := h
    rw [List.merge.eq_def]
    show (if le x y = true then x :: mrg le n xs (y :: ys) else y :: mrg le n (x :: xs) ys) = if le x y = true then x :: xs.merge (y :: ys) le else y :: (x :: xs).merge ys le
    rw [mrg_eq le n xs (y :: ys) (by rw [List.length_cons]; omega), mrg_eq le n (x :: xs) ys (by rw [List.length_cons]; omega)]
theorem msort_eq {α : Type} (le : α → α → Bool) : ∀ (n : Nat) (xs : List α), xs.length ≤ n → msort le n xs = xs.mergeSort le
  | 0, [], _ => by simp [msort]
  | 0, _ :: _, h => by simp at h
  | n + 1, [], _ => by simp [msort]
  | n + 1, [a], _ => by simp [msort]
  | n + 1, a :: b :: r, h => by
    have h' : r.length + 2 ≤ n + 1 := h
    have l1 : ((a :: b :: r).take ((r.length + 3) / 2)).length ≤ n := by rw [List.length_take]; simp only [List.length_cons]; omega
    have l2 : ((a :: b :: r).drop ((r.length + 3) / 2)).length ≤ n := by rw [List.length_drop]; simp only [List.length_cons]; omega
    rw [List.mergeSort.eq_def]
    show mrg le (r.length + 2) _ _ = _
    rw [msort_eq le n _ l1, msort_eq le n _ l2, mrg_eq _ _ _ _ (by rw [List.length_mergeSort, List.length_mergeSort, List.length_take, List.length_drop]; simp only [List.length_cons]; omega)]
    simp only [List.MergeSort.Internal.splitInTwo_fst, List.MergeSort.Internal.splitInTwo_snd, List.length_cons]
def sortT (xs : List Tx) : List Tx := msort leT xs.length xs
theorem sortT_eq (xs : List Tx) : sortT xs = xs.mergeSort leT := msort_eq leT _ xs (Nat.le_refl _)
def onceT : List Tx → List Tx
  | [] => []
  | x :: r => if x ∈ r then onceT r else x :: onceT r
theorem sort_map (xs : List Tx) : sortStr (xs.map (·.1)) = (sortT xs).map (·.1) := by
  rw [sortT_eq]; unfold sortStr
  exact (PySem.W.sort_maps (r := leT) (s := leS) (fun t : Tx => t.1) (fun _ _ _ _ => rfl)).symm
theorem once_map : ∀ xs : List Tx, once (xs.map (·.1)) = (onceT xs).map (·.1)
  | [] => rfl
  | x :: r => by
    rw [List.map_cons]
    unfold once onceT
    have e : (x.1 ∈ r.map (·.1)) ↔ x ∈ r := by
      constructor
      · intro h
        obtain ⟨y, hy, q⟩ := List.mem_map.mp h
        rw [← Subtype.ext q]; exact hy
      · exact fun h => List.mem_map.mpr ⟨x, h, rfl⟩
    by_cases q : x ∈ r
    · rw [if_pos q, if_pos (e.mpr q)]; exact once_map r
    · rw [if_neg q, if_neg (fun z => q (e.mp z)), List.map_cons, once_map r]
theorem txts_S (xs : List Tx) : txts (xs.map qS) = some (xs.map (·.1)) := by
  have : xs.map qS = (xs.map (·.1)).map D.str := by rw [List.map_map]; rfl
  rw [this, txts_map]
theorem back_S (xs : List Tx) : (xs.map (·.1)).map D.str = xs.map qS := by rw [List.map_map]; rfl
theorem sortset_n {f : SE} {ρ : Env} {C C1 : Store} {xs : List Tx} (h : EvD f ρ C (qL qS xs) C1) (hl : xs.length < 64) : EvN (nSortSet f) ρ C (qL qS (sortT (onceT xs))) C1 := by
  obtain ⟨s, e, w⟩ := h
  unfold EvN nSortSet
  rw [e, bnd_s, w, bn1_s]
  show bn1 (txts (xs.map qS)) _ = _
  rw [txts_S, bn1_s, gd_t (by rw [List.length_map]; exact hl), once_map, sort_map, back_S]
theorem keys_S {β : Type} {f : β → D} : ∀ d : List (Tx × β), keysS (d.map fun p => (kS p.1, f p.2)) = some ((d.map (·.1)).map (·.1))
  | [] => rfl
  | p :: d => by
    show (keysS (d.map fun p => (kS p.1, f p.2))).map _ = _
    rw [keys_S d]; rfl
theorem r_sortKeys {β : Type} {f : β → D} {d : List (Tx × β)} (hl : d.length < 64) : dSort2 [qDK f d] = some (qL qS (sortT (d.map (·.1)))) := by
  show bn1 (keysS (d.map fun p => (kS p.1, f p.2))) _ = _
  rw [keys_S, bn1_s, gd_t (by rw [List.length_map, List.length_map]; exact hl), sort_map, back_S]
theorem r_sort2 {xs : List Tx} (hl : xs.length < 64) : dSort2 [qL qS xs] = some (qL qS (sortT xs)) := by
  rw [sort2_lst, txts_S]
  show gd _ _ = _
  rw [gd_t (by rw [List.length_map]; exact hl), sort_map, back_S]
theorem r_sort3 {xs : List Tx} (hl : xs.length < 64) : dSort3 [qL qS xs] = some (qL qS (sortT xs)) := by
  unfold dSort3
  have : ((xs.map qS).all tupD && !(xs.map qS).isEmpty) = false := by
    cases xs with
    | nil => rfl
    | cons x r => rfl
  show (if ((xs.map qS).all tupD && !(xs.map qS).isEmpty) = true then _ else _) = _
  rw [this, if_neg Bool.false_ne_true]
  exact r_sort2 hl
/-- Python's order of values, as they are written -/
def leE {α : Type} (e : α → D) (a b : α) : Bool := PySem.W.dataLe false toPy (e a) (e b)
def sortE {α : Type} (e : α → D) (xs : List α) : List α := msort (leE e) xs.length xs
theorem sortE_eq {α : Type} (e : α → D) (xs : List α) : sortE e xs = xs.mergeSort (leE e) := msort_eq (leE e) _ xs (Nat.le_refl _)
theorem sortE_map {α : Type} (e : α → D) (xs : List α) : (xs.map e).mergeSort (PySem.W.dataLe false toPy) = (sortE e xs).map e := by
  rw [sortE_eq]
  exact (PySem.W.sort_maps (r := leE e) (s := PySem.W.dataLe false toPy) e (fun _ _ _ _ => rfl)).symm
abbrev qRow : Tx × List Tx → D := qP qS (qT qS)
theorem r_sort2R {xs : List (Tx × List Tx)} (hl : xs.length ≤ 1000) : dSort2 [qL qRow xs] = some (qL qRow (sortE qRow xs)) := by
  rw [sort2_lst]
  cases xs with
  | nil => 
    show gd _ (some (D.lst ((sortStr []).map D.str))) = _
    rw [gd_t (by decide)]
    rw [sortE_eq]; unfold sortStr
    simp
  | cons x r =>
    have e : txts ((x :: r).map qRow) = none := rfl
    rw [e]
    show gd _ _ = _
    have hall : ((x :: r).map qRow).all rowD = true := by
      rw [List.all_map, List.all_eq_true]
      intro p _
      show rowD (qRow p) = true
      unfold rowD
      have h1 : rowS (qRow p) = true := by show (txts (p.2.map qS)).isSome = true; rw [txts_S]; rfl
      have h2 : okD 2 (qRow p) = true := (inferInstance : Nice qRow 2).ok p
      rw [h1, h2]; rfl
    rw [gd_t ⟨hall, by rw [List.length_map]; exact hl⟩, sortE_map]
theorem r_sort3R {xs : List (Tx × List Tx)} (hl : xs.length ≤ 1000) : dSort3 [qL qRow xs] = some (qL qRow (sortE qRow xs)) := by
  have e : dSort3 [qL qRow xs] = dSort2 [qL qRow xs] := by
    cases xs with
    | nil => rfl
    | cons x r => rfl
  rw [e]; exact r_sort2R hl
theorem r_sort3T {xs : List (List Tx)} (hl : xs.length ≤ 1000 ∧ ∀ x ∈ xs, x ≠ []) : dSort3 [qL (qT qS) xs] = some (qL (qT qS) (sortE (qT qS) xs)) := by
  cases xs with
  | nil =>
    show dSort2 [.lst []] = _
    rw [sort2_lst]
    show gd _ (some (D.lst ((sortStr []).map D.str))) = _
    rw [gd_t (by decide)]
    rw [sortE_eq]; unfold sortStr
    simp
  | cons x r =>
    have hall : ((x :: r).map (qT qS)).all tupD = true := by
      rw [List.all_map, List.all_eq_true]
      intro p hp
      show tupD (qT qS p) = true
      unfold tupD
      have h1 : tupS (qT qS p) = true := by
        show ((txts (p.map qS)).isSome && !(p.map qS).isEmpty) = true
        rw [txts_S]
        cases hq : p with
        | nil => exact absurd hq (hl.2 p hp)
        | cons _ _ => rfl
      have h2 : okD 2 (qT qS p) = true := okD_mono (by decide) ((inferInstance : Nice (qT qS) 1).ok p)
      rw [h1, h2]; rfl
    show (if _ then _ else _) = _
    rw [hall]
    show gd _ _ = _
    rw [gd_t (by rw [List.length_map]; exact hl.1), sortE_map]

/-! ### the source of draws -/
abbrev Bx := List Int
abbrev qBx : Bx → D := qL qI

/-! ### lists for tuples -/
mutual
def soft : D → D
  | .tup xs => .lst (softs xs)
  | .lst xs => .lst (softs xs)
  | d => d
def softs : List D → List D
  | [] => []
  | d :: ds => soft d :: softs ds
end
theorem softs_map : ∀ ds : List D, softs ds = ds.map soft
  | [] => by simp [softs]
  | d :: ds => by rw [softs, softs_map ds]; rfl
mutual
/-- n deep at the most, no list longer than 1000 -/
def szD : Nat → D → Bool
  | _, .non => true
  | _, .bl _ => true
  | _, .int _ => true
  | _, .str _ => true
  | n + 1, .tup xs => decide (xs.length ≤ 1000) && szDs n xs
  | n + 1, .lst xs => decide (xs.length ≤ 1000) && szDs n xs
  | _, _ => false
def szDs : Nat → List D → Bool
  | _, [] => true
  | n, d :: ds => szD n d && szDs n ds
end
theorem szDs_all {n : Nat} : ∀ {ds : List D}, szDs n ds = true ↔ ∀ d ∈ ds, szD n d = true
  | [] => by simp [szDs]
  | d :: ds => by
    unfold szDs
    rw [Bool.and_eq_true, szDs_all]
    simp
class Soft {α : Type} (e : α → D) (e' : outParam (α → D)) : Prop where
  so : ∀ a, soft (e a) = e' a
instance : Soft qI qI := ⟨fun _ => by simp [soft]⟩
instance : Soft qB qB := ⟨fun _ => by simp [soft]⟩
instance : Soft qS qS := ⟨fun _ => by simp [soft]⟩
instance : Soft qU qU := ⟨fun _ => by simp [soft]⟩
section
variable {α β γ δ ε : Type} {e e' : α → D} {f f' : β → D} {g g' : γ → D} {h h' : δ → D} {i i' : ε → D}
theorem soft_l [he : Soft e e'] (xs : List α) : softs (xs.map e) = xs.map e' := by
  rw [softs_map, List.map_map]
  exact List.map_congr_left fun a _ => he.so a
instance [he : Soft e e'] : Soft (qL e) (qL e') := ⟨fun xs => by simp [soft, soft_l]⟩
instance [he : Soft e e'] : Soft (qT e) (qL e') := ⟨fun xs => by simp [soft, soft_l]⟩
instance [he : Soft e e'] : Soft (qP1 e) (qQ1 e') := ⟨fun p => by simp [soft, softs, he.so]⟩
instance [he : Soft e e'] : Soft (qQ1 e) (qQ1 e') := ⟨fun p => by simp [soft, softs, he.so]⟩
instance [he : Soft e e'] [hf : Soft f f'] : Soft (qP e f) (qQ e' f') := ⟨fun p => by simp [soft, softs, he.so, hf.so]⟩
instance [he : Soft e e'] [hf : Soft f f'] : Soft (qQ e f) (qQ e' f') := ⟨fun p => by simp [soft, softs, he.so, hf.so]⟩
instance [he : Soft e e'] [hf : Soft f f'] [hg : Soft g g'] : Soft (qP3 e f g) (qQ3 e' f' g') := ⟨fun p => by simp [soft, softs, he.so, hf.so, hg.so]⟩
instance [he : Soft e e'] [hf : Soft f f'] [hg : Soft g g'] : Soft (qQ3 e f g) (qQ3 e' f' g') := ⟨fun p => by simp [soft, softs, he.so, hf.so, hg.so]⟩
instance [he : Soft e e'] [hf : Soft f f'] [hg : Soft g g'] [hh : Soft h h'] : Soft (qP4 e f g h) (qQ4 e' f' g' h') := ⟨fun p => by simp [soft, softs, he.so, hf.so, hg.so, hh.so]⟩
instance [he : Soft e e'] [hf : Soft f f'] [hg : Soft g g'] [hh : Soft h h'] : Soft (qQ4 e f g h) (qQ4 e' f' g' h') := ⟨fun p => by simp [soft, softs, he.so, hf.so, hg.so, hh.so]⟩
instance [he : Soft e e'] [hf : Soft f f'] [hg : Soft g g'] [hh : Soft h h'] [hi : Soft i i'] : Soft (qP5 e f g h i) (qQ5 e' f' g' h' i') := ⟨fun p => by simp [soft, softs, he.so, hf.so, hg.so, hh.so, hi.so]⟩
instance [he : Soft e e'] [hf : Soft f f'] [hg : Soft g g'] [hh : Soft h h'] [hi : Soft i i'] : Soft (qQ5 e f g h i) (qQ5 e' f' g' h' i') := ⟨fun p => by simp [soft, softs, he.so, hf.so, hg.so, hh.so, hi.so]⟩
instance [he : Soft e e'] : Soft (qO e) (qO e') := ⟨fun o => by cases o with | none => simp [qO, soft] | some a => exact he.so a⟩
end
theorem all_true (n : Nat) : dAll [.lst (List.replicate n (.bl true))] = some (.bl true) := by
  have b : ∀ n : Nat, dBools (List.replicate n (.bl true)) = some (List.replicate n true) := by
    intro n
    induction n with
    | zero => rfl
    | succ n ih => rw [List.replicate_succ]; show bn1 (dBools (List.replicate n (.bl true))) _ = _; rw [ih]; rfl
  show bn1 (dBools _) _ = _
  rw [b, bn1_s]
  congr 2
  rw [List.all_eq_true]
  intro x hx
  rw [(List.mem_replicate.mp hx).2]
  rfl
theorem eq_sc {d : D} (h : d = .non ∨ (∃ b, d = .bl b) ∨ (∃ i, d = .int i) ∨ ∃ x, d = .str x ∧ PyData.strOk x = true) : dEq d d = some (.bl true) := by
  have s : shp d = true := by
    rcases h with rfl | ⟨b, rfl⟩ | ⟨i, rfl⟩ | ⟨x, rfl, hx⟩
    · exact shp_of (n := 1) rfl (by omega)
    · exact shp_of (n := 1) rfl (by omega)
    · exact shp_of (n := 1) rfl (by omega)
    · exact shp_of (n := 1) (show okD 1 (.str x) = true from hx) (by omega)
  have e : eqvD d d = true := by
    rcases h with rfl | ⟨b, rfl⟩ | ⟨i, rfl⟩ | ⟨x, rfl, hx⟩ <;> simp [eqvD, toPy, PyData.eqv]
  unfold dEq
  rw [gd_t ⟨s, s⟩, e]
theorem runE_eq {N np : Nat} {body : SS} {svs : List Sv} {C : Store} (h : svs.length = np) : runE N np body svs C = bnd (body (startE N svs) C) fun o C' => fin C.length o C' := gd_t h
theorem nLc_eq {si : SI} {b : D → Env → Option Env} {tt : ST} {te : SE} {vs : List Nat} {ρ : Env} {C : Store} : nLc si b tt te vs ρ C = bnd (si ρ C) fun src C1 => gd (src.items.length ≤ sizeLine) (bnd (compL src.cels b tt te (wipeE ρ vs) src.items C1) fun zs C2 => some (.lst zs, C2)) := rfl
end DX
namespace DX
open PySem PySem.Spec L2
theorem rs_env {m : SS} {ρ : Env} {C : Store} {Q : Fl → Store → Prop} (ρ' : Env) (h : ρ = ρ') (k : RunS m ρ' C Q) : RunS m ρ C Q := h ▸ k
end DX
namespace DX
open PySem PySem.Spec L2
/-! ### one of some, drawn -/
section
variable {ρ : Env} {C C1 C2 : Store} {f g h : SE} {t u : ST} {d d1 d2 d3 z : D} {n : Nat} {a b c : Bool} {τ : Type} {qb : τ → D}
/-- nothing is drawn -/
theorem stay_x (hB : C[n]? = some d1) (h : EvX f ρ C d C) : EvX f ρ C d (C.set n d1) := by rw [set_get hB]; exact h
theorem stay_t (hB : C[n]? = some d1) (h : EvT t ρ C a C) : EvT t ρ C a (C.set n d1) := by rw [set_get hB]; exact h
theorem or_ts {B : τ} {r : Bool × τ} (h1 : EvT t ρ C a C1) (hB : C1[n]? = some (qb B)) (h2 : a = false → EvT u ρ C1 r.1 (C1.set n (qb r.2))) : EvT (tOr' t u) ρ C (if a = true then (true, B) else r).1 (C1.set n (qb (if a = true then (true, B) else r).2)) := by
  unfold EvT at *
  rw [t_or, h1, bnd_s]
  cases a with
  | true => rw [if_pos rfl, if_pos rfl, set_get hB]
  | false => rw [if_neg Bool.false_ne_true, if_neg Bool.false_ne_true]; exact h2 rfl
theorem and_ts {B : τ} {r : Bool × τ} (h1 : EvT t ρ C a C1) (hB : C1[n]? = some (qb B)) (h2 : a = true → EvT u ρ C1 r.1 (C1.set n (qb r.2))) : EvT (tAnd' t u) ρ C (if a = true then r else (false, B)).1 (C1.set n (qb (if a = true then r else (false, B)).2)) := by
  unfold EvT at *
  rw [t_and, h1, bnd_s]
  cases a with
  | true => rw [if_pos rfl, if_pos rfl]; exact h2 rfl
  | false => rw [if_neg Bool.false_ne_true, if_neg Bool.false_ne_true, set_get hB]
theorem or_xs {B : τ} {r : Bool × τ} (h1 : EvX f ρ C (qB a) C1) (hB : C1[n]? = some (qb B)) (h2 : a = false → EvX g ρ C1 (qB r.1) (C1.set n (qb r.2))) : EvX (eOrV f g) ρ C (qB (if a = true then (true, B) else r).1) (C1.set n (qb (if a = true then (true, B) else r).2)) := by
  unfold EvX at *
  unfold eOrV
  rw [h1, bnd_s]
  cases a with
  | true => show some (Sv.dat (D.bl true), C1) = _; rw [if_pos rfl, set_get hB]
  | false => rw [if_neg Bool.false_ne_true]; exact h2 rfl
theorem and_xs {B : τ} {r : Bool × τ} (h1 : EvX f ρ C (qB a) C1) (hB : C1[n]? = some (qb B)) (h2 : a = true → EvX g ρ C1 (qB r.1) (C1.set n (qb r.2))) : EvX (eAndV f g) ρ C (qB (if a = true then r else (false, B)).1) (C1.set n (qb (if a = true then r else (false, B)).2)) := by
  unfold EvX at *
  unfold eAndV
  rw [h1, bnd_s]
  cases a with
  | true => rw [if_pos rfl]; exact h2 rfl
  | false => show some (Sv.dat (D.bl false), C1) = _; rw [if_neg Bool.false_ne_true, set_get hB]
theorem if_xs {α : Type} {e : α → D} {x y : α × τ} (h : EvT t ρ C b C1) (h1 : b = true → EvX f ρ C1 (e x.1) (C1.set n (qb x.2))) (h2 : b = false → EvX g ρ C1 (e y.1) (C1.set n (qb y.2))) : EvX (eIf t f g) ρ C (e (if b = true then x else y).1) (C1.set n (qb (if b = true then x else y).2)) := by
  unfold EvT EvX at *
  rw [e_if, h, bnd_s]
  cases b with
  | true => rw [if_pos rfl, if_pos rfl]; exact h1 rfl
  | false => rw [if_neg Bool.false_ne_true, if_neg Bool.false_ne_true]; exact h2 rfl
theorem if_ns {α : Type} {e : α → D} {N N' : SN} {x y : α × τ} (h : EvT t ρ C b C1) (h1 : b = true → EvN N ρ C1 (e x.1) (C1.set n (qb x.2))) (h2 : b = false → EvN N' ρ C1 (e y.1) (C1.set n (qb y.2))) : EvN (nIf t N N') ρ C (e (if b = true then x else y).1) (C1.set n (qb (if b = true then x else y).2)) := by
  unfold EvT at h
  unfold EvN at *
  unfold nIf
  rw [h, bnd_s]
  cases b with
  | true => rw [if_pos rfl, if_pos rfl]; exact h1 rfl
  | false => rw [if_neg Bool.false_ne_true, if_neg Bool.false_ne_true]; exact h2 rfl
theorem stay_n {N : SN} (hB : C[n]? = some d1) (h : EvN N ρ C d C) : EvN N ρ C d (C.set n d1) := by rw [set_get hB]; exact h
theorem seq_t (h : EvT t ρ C a C2) (e : C2 = C1) : EvT t ρ C a C1 := e ▸ h
theorem seq_x (h : EvX f ρ C d C2) (e : C2 = C1) : EvX f ρ C d C1 := e ▸ h
theorem seq_n {N : SN} (h : EvN N ρ C d C2) (e : C2 = C1) : EvN N ρ C d C1 := e ▸ h
theorem chain_x {r r2 : D → D → Option D} {p q : Bool} (h1 : EvD f ρ C d1 C) (h2 : EvD g ρ C d2 C) (hr : r d1 d2 = some (qB p)) (h3 : p = true → EvD h ρ C d3 C) (hr2 : p = true → r2 d2 d3 = some (qB q)) : EvX (eChain r r2 f g h) ρ C (qB (p && q)) C := by
  obtain ⟨s1, e1, w1⟩ := h1
  obtain ⟨s2, e2, w2⟩ := h2
  unfold EvX eChain
  rw [e1, bnd_s, e2, bnd_s, w1, bn1_s, w2, bn1_s, hr, bn1_s]
  cases p with
  | true =>
    obtain ⟨s3, e3, w3⟩ := h3 rfl
    show bnd (h ρ C) _ = _
    rw [e3, bnd_s, w2, bn1_s, w3, bn1_s, hr2 rfl, bn1_s]; rfl
  | false => rfl
theorem back2_x {α β : Type} {e : α → D} {e' : β → D} {p : α × β} (h1 : EvD f ρ C (qP e e' p) C1) : EvX (eBack2 f) ρ C (qP e' e (p.2, p.1)) C1 := by
  obtain ⟨s1, e1, w1⟩ := h1
  unfold EvX eBack2
  rw [e1, bnd_s, w1, bn1_s]
theorem dcm_n {α β κ : Type} [DecidableEq κ] {e : α → D} {e' : β → D} {ek : κ → D} {fk : κ → Key} (hk : ∀ k, dKey (ek k) = some (fk k)) (hinj : ∀ a b, fk a = fk b ↔ a = b) {si : SI} {bi : D → Env → Option Env} {tk te : SE} {vs : List Nat} {cels : List (Nat × D)} {xs : List α} {k : α → κ} {w : α → β}
    (hi : EvI si ρ C (xs.map e) cels C1) (hl : xs.length ≤ sizeLine) (hs : stays C1 cels = true)
    (hb : ∀ x ∈ xs, ∃ ρ1, bi (e x) (wipeE ρ vs) = some ρ1 ∧ EvX tk ρ1 C1 (ek (k x)) C1 ∧ EvX te ρ1 C1 (e' (w x)) C1) :
    EvN (nDc si bi tYes' tk te vs) ρ C (.dK ((xs.foldl (fun acc x => kPut acc (k x) (w x)) []).map fun q => (fk q.1, e' q.2))) C1 := by
  have q := dc_n (p := fun _ => true) (t := tYes') (k := k) (w := w) (e' := e') hk hinj (tk := tk) (te := te) hi hl hs fun x hx => let ⟨ρ1, h1, h2⟩ := hb x hx; ⟨ρ1, h1, yes_t, fun _ => h2⟩
  have e1 : (fun (acc : List (κ × β)) (x : α) => if (fun (_ : α) => true) x = true then kPut acc (k x) (w x) else acc) = fun acc x => kPut acc (k x) (w x) := by
    funext acc x; exact if_pos rfl
  rw [e1] at q
  exact q
end
end DX

namespace DX
open PySem PySem.Spec L2
section
variable {ρ : Env} {C C1 C2 C0 : Store} {f g h : SE} {d z : D} {n i : Nat} {P L L' : List (Nat × D)} {Q : Fl → Store → Prop} {R : SS}
/-- the signs of a text -/
theorem strOk_sign {z : Str} (h : PyData.strOk z = true) {c : Nat} (hc : c ∈ z.cps.toList) : PyData.strOk ⟨#[c]⟩ = true := by
  unfold PyData.strOk at *
  rw [Array.all_eq_true] at h
  obtain ⟨i, hi, e⟩ := List.getElem_of_mem hc
  have := h i (by simpa using hi)
  simp at e this ⊢
  rw [← e]; exact this
def signs (t : Tx) : List Tx := t.1.cps.toList.attach.map fun c => ⟨⟨#[c.1]⟩, strOk_sign t.2 c.2⟩
theorem chars_map (t : Tx) : chars t.1 = (signs t).map qS := by
  unfold chars signs
  rw [List.map_map]
  conv => lhs; rw [← List.attach_map_subtype_val t.1.cps.toList]
  rw [List.map_map]
  rfl
theorem sqS_x {t : Tx} (h : EvX f ρ C (qS t) C1) : EvI (iSq f) ρ C ((signs t).map qS) [] C1 := sq_x h (by show some (chars t.1) = _; rw [chars_map])
def signAt (t : Tx) (i : Int) : Tx := atD (signs t) i
theorem r_ixS {t : Tx} {i : Int} (g : t.1.length ≤ sizeLine ∧ (atI (signs t) i).isSome = true) : dIx (qS t) (qI i) = some (qS (signAt t i)) := by
  show gd _ (bn1 (atI t.1.cps.toList i) fun c => some (D.str ⟨#[c]⟩)) = _
  rw [gd_t g.1]
  have e1 : (atI t.1.cps.toList i).map (fun c => D.str ⟨#[c]⟩) = (atI (signs t) i).map qS := by
    rw [← atI_map, ← atI_map, ← chars_map]; rfl
  obtain ⟨x, hx⟩ := Option.isSome_iff_exists.mp g.2
  rw [hx] at e1
  cases q : atI t.1.cps.toList i with
  | none => rw [q] at e1; cases e1
  | some c =>
    rw [q] at e1
    show some (D.str ⟨#[c]⟩) = _
    have e2 : D.str ⟨#[c]⟩ = qS x := by simpa using e1
    rw [e2]
    unfold signAt atD
    rw [hx]; rfl
/-- a list that nobody looks at again is made longer -/
theorem rs_appD {ds : List D} (hv : ρ[i]?.join = some (.cel n)) (hn : C[n]? = some (.lst ds)) (h : EvX g ρ C z C1) (hn1 : C1[n]? = some (.lst ds)) (hl : ds.length < sizeLine) (k : RunS R ρ (C1.set n (.lst (ds ++ [z]))) Q) : RunS (sSeq (sDrop (eApp (eVar i) g)) R) ρ C Q := by
  refine rs_drop (s := .dat .non) (C1 := C1.set n (.lst (ds ++ [z]))) ?_ k
  unfold EvX at h
  unfold eApp
  have l0 : lstAt C (.cel n) = some (n, ds) := by unfold lstAt; dsimp only; rw [hn]
  have l1 : lstAt C1 (.cel n) = some (n, ds) := by unfold lstAt; dsimp only; rw [hn1]
  rw [v_s hv, bnd_s, l0, bn1_s, h, bnd_s, l1, bn1_s, dat_d, bn1_s, gd_t hl]
end
end DX

namespace DX
open PySem PySem.Spec L2
section
variable {f g h : SE} {ρ : Env} {C C1 C2 : Store}
theorem kyT_x {β : Type} {e : β → D} {kvs : List (List Tx × β)} (hf : EvX f ρ C (qDT e kvs) C1) (hl : ∀ kv ∈ kvs, kv.1.length ≤ 1000) : EvI (iKyT f) ρ C ((kvs.map (·.1)).map (qT qS)) [] C1 := by
  unfold EvX at hf
  unfold EvI iKyT
  rw [hf, bnd_s]
  show gd ((List.all (kvs.map fun p => (kT p.1, e p.2)) fun kv => decide (kv.1.length ≤ 1000)) = true) (some ((⟨(kvs.map fun p => (kT p.1, e p.2)).map fun kv => D.tup (kv.1.map keyD), []⟩ : Src), C1)) = _
  rw [gd_t]
  · rw [List.map_map, List.map_map]
    congr 3
    apply List.map_congr_left
    intro p _
    show D.tup ((p.1.map kS).map keyD) = D.tup (p.1.map qS)
    rw [List.map_map]; rfl
  · rw [List.all_eq_true]
    intro kv hm
    obtain ⟨p, hp, rfl⟩ := List.mem_map.mp hm
    refine decide_eq_true ?_
    show (p.1.map kS).length ≤ 1000
    rw [List.length_map]; exact hl p hp
end
end DX
namespace DX
open PySem PySem.Spec L2
section
variable {f g h : SE} {ρ : Env} {C C1 C2 : Store}
theorem opt_x {α : Type} [Inhabited α] {e : α → D} {x : Option α} (hx : x.isSome = true) (hf : EvX f ρ C (qO e x) C1) : EvX f ρ C (e (x.getD default)) C1 := by
  cases x with
  | none => cases hx
  | some a => exact hf
theorem nn_of {α : Type} {x : Option α} (h : x.isNone = false) : x.isSome = true := by
  cases x with
  | none => cases h
  | some a => rfl
theorem and1 {a b : Bool} (h : (a && b) = true) : a = true := (Bool.and_eq_true_iff.mp h).1
theorem and2 {a b : Bool} (h : (a && b) = true) : b = true := (Bool.and_eq_true_iff.mp h).2
theorem or1 {a b : Bool} (h : (a || b) = false) : a = false := (Bool.or_eq_false_iff.mp h).1
theorem or2 {a b : Bool} (h : (a || b) = false) : b = false := (Bool.or_eq_false_iff.mp h).2
theorem not1 {a : Bool} (h : (!a) = true) : a = false := by simpa using h
theorem not0 {a : Bool} (h : (!a) = false) : a = true := by simpa using h
end
end DX
namespace DX
open PySem PySem.Spec L2
theorem callG1_x {M : FE} {N : SN} {B d z : D} {ρ : Env} {C : Store} (hn : EvN N ρ C B C) (hok : M [.cel C.length] (C ++ [B]) = some (.dat d, (C ++ [B]).set C.length z)) : EvX (eCallG 1 M (aNew N aNil)) ρ C d C := by
  have h : EvS (aNew N aNil) ρ C [.cel C.length] (C ++ [B]) := sc_n hn sn
  unfold EvS at h
  unfold EvX eCallG
  rw [h, bnd_s, gd_t (show [Sv.cel C.length].length = 1 from rfl), hok, bnd_s]
  simp
end DX
namespace DX
open PySem PySem.Spec L2
section
variable {f g h : SE} {ρ : Env} {C C1 C2 : Store}
theorem itm_x {β : Type} {e : β → D} {kvs : List (List Tx × β)} (hf : EvX f ρ C (qDT e kvs) C1) (hl : ∀ kv ∈ kvs, kv.1.length ≤ 1000) : EvI (iItm f) ρ C (kvs.map (qP (qT qS) e)) [] C1 := by
  unfold EvX at hf
  unfold EvI iItm
  rw [hf, bnd_s]
  show gd ((List.all (kvs.map fun p => (kT p.1, e p.2)) fun kv => decide (kv.1.length ≤ 1000)) = true) (some ((⟨(kvs.map fun p => (kT p.1, e p.2)).map itP, []⟩ : Src), C1)) = _
  rw [gd_t]
  · rw [List.map_map]
    congr 3
    apply List.map_congr_left
    intro p _
    show D.tup [D.tup ((p.1.map kS).map keyD), e p.2] = D.tup [D.tup (p.1.map qS), e p.2]
    rw [List.map_map]; rfl
  · rw [List.all_eq_true]
    intro kv hm
    obtain ⟨p, hp, rfl⟩ := List.mem_map.mp hm
    refine decide_eq_true ?_
    show (p.1.map kS).length ≤ 1000
    rw [List.length_map]; exact hl p hp
theorem fldP_x {c fl : Str} {fs : List (Str × D)} {z : D} (ho : EvX g ρ C (.ins c fs) C1) (hl : fs.lookup fl = some z) : EvX (eFldP c fl g) ρ C z C1 := by
  unfold EvX eFldP at *
  rw [ho, bnd_s]
  show gd (c = c) _ = _
  rw [gd_t rfl, hl]; rfl
end
end DX
namespace DX
open PySem PySem.Spec L2
theorem r_list2L {α : Type} {e : α → D} (xs : List α) : dList2 [qL e xs] = some (qL e xs) := rfl
theorem r_list2T {α : Type} {e : α → D} (xs : List α) : dList2 [qT e xs] = some (qL e xs) := rfl
theorem r_list2DK {β : Type} {f : β → D} (d : List (Tx × β)) : dList2 [qDK f d] = some (qL qS (d.map (·.1))) := by
  show some (D.lst ((d.map fun p => (kS p.1, f p.2)).map fun kv => keyD kv.1)) = some (D.lst ((d.map (·.1)).map qS))
  rw [List.map_map, List.map_map]; rfl
end DX

namespace DX
open PySem PySem.Spec L2 PyProof.Rows
def topS (i : Nat) : Stmt := PySem.Challenge.pw_whichmethod_k19_one_place_counted.main.body.getD i (.Pass ⟨0, 0, 0, 0⟩)

abbrev s28 : Stmt := topS 28
abbrev N28 : List Str := ["_law_script", "_law_most", "_law_cells_here", "_law_k", "_law_cell", "_law_at_so"]
abbrev P28 : List Str := ["_law_script", "_law_most"]
theorem sc28 : FnScope N28 P28 (defScope s28) := ⟨rfl, rfl, rfl, by decide +kernel, rfl, by decide +kernel, by decide +kernel⟩
def m_Lcells : SS := (sSeq (sNew 2 (nOrT (nB dList (aCons (eSl (eVar 0) oNone (oSome (eVar 1))) aNil)) (nLst (aCons (eC (.int 0)) aNil))))
    (sSeq (sFor (iEn (aCons (eSl (eVar 0) (oSome (eVar 1)) (oSome (eC (.int 63)))) aNil)) (bSeq 2 (bCons (bName 3) (bCons (bName 4) bNil))) (sSeq (sSet 5 (eBin dMod (eB dInt (aCons (eVar 3) aNil)) (eVar 1)))
    (sPut (eBin dAdd (eBin dIx (eVar 2) (eVar 5)) (eBin dMul (eVar 4) (eBin dAdd (eVar 3) (eC (.int 2))))) (eVar 2) (eVar 5))))
    (sRet (eVar 2))))
def M_Lcells : FE := runE 6 2 m_Lcells
section
variable {P : Program} {w : World} {G : Gm} {mg : Str → Option Value} {base : Heap} {f : Addr} {fd : FuncData}
theorem ok28 (F : Fun G.K "_law_cells" "_law_cells" s28 f fd) (h_enumerate : mg "enumerate" = none) (h_int : mg "int" = none) (h_list : mg "list" = none) : FnOk P w G.K mg base CX0 1 f fd P28 (spE G 2 M_Lcells) := by
  have nd := sc28.nd
  refine ok_E' F sc28 rfl rfl (fun cdv A outer s H E hr => ?_)
  refine ⟨_, (pss_cons (ps_set (i := 2) nd rfl (by first | exact Or.inl rfl | exact Or.inr rfl) (k_orT G.K rfl (pe_callTy (k_list G.K rfl) (by rfl) h_list bt_list (pa_cons (pe_slice (k_sl G.K rfl) (pv 0) po_none (po_some (pv 1))) pa_nil)) (pe_one (pe_lst (pa_cons pe_int pa_nil)))))
    (pss_cons (ps_for PassesOwn.never rfl (k_enum G.K rfl (by rfl) h_enumerate (pa_cons (pe_slice (k_sl G.K rfl) (pv 0) (po_some (pv 1)) (po_some pe_int)) pa_nil)) (k_gseq G.K rfl (n := 2) rfl (pgs_cons (pg_name (i := 3) nd rfl (by first | exact Or.inl rfl | exact Or.inr rfl)) (pgs_cons (pg_name (i := 4) nd rfl (by first | exact Or.inl rfl | exact Or.inr rfl)) pgs_nil))) (pss_cons (ps_set (i := 5) nd rfl (by first | exact Or.inl rfl | exact Or.inr rfl) (pe_op op_modN (pe_callTy call_int1 (by rfl) h_int bt_int (pa_cons (pv 3) pa_nil)) (pv 1)))
    (pss_one (ps_asg (pe_op (k_add G.K rfl) (pe_ix (k_ix G.K rfl (hu1 hr)) (pv 2) (pv 5) (fun _ _ => rfl)) (pe_op op_mul0 (pv 4) (pe_op (k_add G.K rfl) (pv 3) pe_int))) (pg_sub (pv 2) (pv 5) (set_0 (hu1 hr)))))))
    (pss_one (ps_ret (pv 2))))), ?_⟩
  exact (sim_sseq (sim_snew (sim_nOrT (sim_nlist (sim_acons (sim_sl sim_var sim_onone (sim_osome sim_var)) sim_anil)) (sim_nlst (sim_acons sim_int sim_anil))))
    (sim_sseq (sim_sfor (sim_ien (sim_acons (sim_sl sim_var (sim_osome sim_var) (sim_osome sim_int)) sim_anil)) (sim_gseq (sim_gcons (sim_gname (i := 3)) (sim_gcons (sim_gname (i := 4)) sim_gnil))) (sim_sseq (sim_sset (sim_mod (sim_int' (sim_acons sim_var sim_anil)) sim_var))
    (sim_sput (sim_add (sim_ix sim_var sim_var) (sim_mul sim_var (sim_add sim_var sim_int))) sim_var sim_var)))
    (sim_sret sim_var)))
end
abbrev s30 : Stmt := topS 30
abbrev N30 : List Str := ["_law_some", "_law_found", "_law_k", "_law_own"]
abbrev P30 : List Str := ["_law_some"]
theorem sc30 : FnScope N30 P30 (defScope s30) := ⟨rfl, rfl, rfl, by decide +kernel, rfl, by decide +kernel, by decide +kernel⟩
def m_Lpairs : SS := (sSeq (sSet 1 (eFr (nLst aNil)))
    (sSeq (sFor (iRg1 (aCons (eB dLen (aCons (eVar 0) aNil)) aNil)) (bName 2) (sSet 1 (eBin dAdd (eVar 1) (eFr (nLc (iSq (eSl (eVar 0) (oSome (eBin dAdd (eVar 2) (eC (.int 1)))) oNone)) (bName 3) tYes' (eTup (aCons (eBin dIx (eVar 0) (eVar 2)) (aCons (eVar 3) aNil))) [3])))))
    (sRet (eVar 1))))
def M_Lpairs : FE := runE 4 1 m_Lpairs
section
variable {P : Program} {w : World} {G : Gm} {mg : Str → Option Value} {base : Heap} {f : Addr} {fd : FuncData}
theorem ok30 (F : Fun G.K "_law_pairs" "_law_pairs" s30 f fd) (h_len : mg "len" = none) (h_range : mg "range" = none) : FnOk P w G.K mg base CX0 1 f fd P30 (spE G 1 M_Lpairs) := by
  have nd := sc30.nd
  refine ok_E' F sc30 rfl rfl (fun cdv A outer s H E hr => ?_)
  refine ⟨_, (pss_cons (ps_set (i := 1) nd rfl (by first | exact Or.inl rfl | exact Or.inr rfl) (pe_lst pa_nil))
    (pss_cons (ps_for PassesOwn.never rfl (pi_range1 (by rfl) h_range (pa_cons (pe_callB (k_len G.K rfl) (by rfl) h_len bt_len (pa_cons (pv 0) pa_nil)) pa_nil)) (pg_name (i := 2) nd rfl (by first | exact Or.inl rfl | exact Or.inr rfl)) (pss_one (ps_set (i := 1) nd rfl (by first | exact Or.inl rfl | exact Or.inr rfl) (pe_op (k_add G.K rfl) (pv 1) (pe_lc (own := [("_law_own", 3)]) rfl nd (k_seq G.K rfl (pe_slice (k_sl G.K rfl) (pv 0) (po_some (pe_op (k_add G.K rfl) (pv 2) pe_int)) po_none)) (blkOk_by (own := [("_law_own", 3)]) (N := N30) (sc := defScope s30) (by decide +kernel)) (fun _ _ _ _ _ => (pg_name (i := 3) nd rfl (Or.inl rfl))) (fun _ _ _ _ _ => pts_nil) (fun _ _ _ _ _ => (pe_tup (pa_cons (pe_ix (k_ix G.K rfl (hu1 hr)) (pv 0) (pv 2) (fun _ _ => rfl)) (pa_cons (pv 3) pa_nil)))))))))
    (pss_one (ps_ret (pv 1))))), ?_⟩
  exact (sim_sseq (sim_sset (SimN.e (sim_nlst sim_anil)))
    (sim_sseq (sim_sfor (sim_irg1 (sim_acons (sim_len (sim_acons sim_var sim_anil)) sim_anil)) (sim_gname (i := 2)) (sim_sset (sim_add sim_var (SimN.e (sim_nlc (vs := [3]) (sim_iseq (sim_sl sim_var (sim_osome (sim_add sim_var sim_int)) sim_onone)) (sim_gname (i := 3)) (by decide) sim_tyes (sim_tup (sim_acons (sim_ix sim_var sim_var) (sim_acons sim_var sim_anil))))))))
    (sim_sret sim_var)))
end
abbrev s29 : Stmt := topS 29
abbrev N29 : List Str := ["_law_found", "_law_due", "_law_mine", "_law_its"]
abbrev P29 : List Str := ["_law_found", "_law_due"]
theorem sc29 : FnScope N29 P29 (defScope s29) := ⟨rfl, rfl, rfl, by decide +kernel, rfl, by decide +kernel, by decide +kernel⟩
def m_Lsame (R : FE) : SS := (sSeq (sIf (tTru (eIsi2 Ty.list Ty.tuple (eVar 1))) (sSeq (sIf (tOr' (tB' (eBin dNe (eIsi Ty.list (eVar 0)) (eIsi Ty.list (eVar 1)))) (tB' (eBin dNe (eIsi Ty.tuple (eVar 0)) (eIsi Ty.tuple (eVar 1))))) (sRet (eC (.bl false))) sNil)
    (sRet (eAndV (eBin dEq (eB dLen (aCons (eVar 0) aNil)) (eB dLen (aCons (eVar 1) aNil))) (eB dAll (aCons (eFr (nLc (iZp (aCons (eVar 0) (aCons (eVar 1) aNil))) (bSeq 2 (bCons (bName 2) (bCons (bName 3) bNil))) tYes' (eCall 2 R (aCons (eVar 2) (aCons (eVar 3) aNil))) [2, 3])) aNil))))) sNil)
    (sSeq (sIf (tOr' (tB' (eBin dIsN (eVar 1) (eC .non))) (tTru (eIsi2 Ty.bool Ty.str (eVar 1)))) (sRet (eAndV (eBin dEq (eVar 0) (eVar 1)) (eAndV (eBin dEq (eIsi Ty.bool (eVar 0)) (eIsi Ty.bool (eVar 1))) (eBin dEq (eBin dIsN (eVar 0) (eC .non)) (eBin dIsN (eVar 1) (eC .non)))))) sNil)
    (sRet (eAndV (eIsi Ty.int (eVar 0)) (eAndV (eNotV (eIsi Ty.bool (eVar 0))) (eBin dEq (eVar 0) (eVar 1)))))))
def M_Lsame : Nat → FE
  | 0 => fun _ _ => none
  | n + 1 => runE 4 2 (m_Lsame (M_Lsame n))
section
variable {P : Program} {w : World} {G : Gm} {mg : Str → Option Value} {base : Heap} {f : Addr} {fd : FuncData}
theorem ok29 (F : Fun G.K "_law_same" "_law_same" s29 f fd) (hm : mg "_law_same" = some (.ref f)) (hb : Binds G.K fd P29 []) (h_all : mg "all" = none) (h_bool : mg "bool" = none) (h_int : mg "int" = none) (h_isinstance : mg "isinstance" = none) (h_len : mg "len" = none) (h_list : mg "list" = none) (h_str : mg "str" = none) (h_tuple : mg "tuple" = none) (h_zip : mg "zip" = none) : ∀ n : Nat, FnOk P w G.K mg base CX0 (0 + n + 1) f fd P29 (spE G 2 (M_Lsame n))
  | 0 => ok_no F sc29
  | n + 1 => by
    have nd := sc29.nd
    have cR : Cl P w G.K mg base (0 + n + 1) "_law_same" P29 (spE G 2 (M_Lsame n)) := ⟨f, fd, ok29 F hm hb h_all h_bool h_int h_isinstance h_len h_list h_str h_tuple h_zip n, hm, F.kp, hb⟩
    refine ok_E' F sc29 (m := m_Lsame (M_Lsame n)) rfl rfl (fun cdv A outer s H E hr => ?_)
    refine ⟨_, (pss_cons (ps_if (k_truth G.K rfl (pe_callB (k_isiT G.K rfl) (by rfl) h_isinstance bt_isinstance (pa_cons (pv 1) (pa_cons (pe_tup (pa_cons (pe_bltn (v := .ty "list") (by rfl) h_list bt_list rfl) (pa_cons (pe_bltn (v := .ty "tuple") (by rfl) h_tuple bt_tuple rfl) pa_nil))) pa_nil))) (fun _ => rfl)) (pss_cons (ps_if (PW.pt (pw_or (pt_cmpR (k_ne G.K rfl (hu64 hr)) (pe_callB (k_isi G.K rfl) (by rfl) h_isinstance bt_isinstance (pa_cons (pv 0) (pa_cons (pe_bltn (v := .ty "list") (by rfl) h_list bt_list rfl) pa_nil))) (pe_callB (k_isi G.K rfl) (by rfl) h_isinstance bt_isinstance (pa_cons (pv 1) (pa_cons (pe_bltn (v := .ty "list") (by rfl) h_list bt_list rfl) pa_nil))) (nomark _)) (pw_or1 (pt_cmpR (k_ne G.K rfl (hu64 hr)) (pe_callB (k_isi G.K rfl) (by rfl) h_isinstance bt_isinstance (pa_cons (pv 0) (pa_cons (pe_bltn (v := .ty "tuple") (by rfl) h_tuple bt_tuple rfl) pa_nil))) (pe_callB (k_isi G.K rfl) (by rfl) h_isinstance bt_isinstance (pa_cons (pv 1) (pa_cons (pe_bltn (v := .ty "tuple") (by rfl) h_tuple bt_tuple rfl) pa_nil))) (nomark _))))) (pss_one (ps_ret pe_bl)) pss_nil)
    (pss_one (ps_ret (pe_and (pe_cmpR (k_eq G.K rfl (hu64 hr)) (pe_callB (k_len G.K rfl) (by rfl) h_len bt_len (pa_cons (pv 0) pa_nil)) (pe_callB (k_len G.K rfl) (by rfl) h_len bt_len (pa_cons (pv 1) pa_nil)) (nomark _)) (pe_one (pe_callB (k_all G.K rfl rfl) (by rfl) h_all bt_all (pa_cons (pe_lc (own := [("_law_mine", 2), ("_law_its", 3)]) rfl nd (k_zip G.K rfl (by rfl) h_zip (pa_cons (pv 0) (pa_cons (pv 1) pa_nil))) (blkOk_by (own := [("_law_mine", 2), ("_law_its", 3)]) (N := N29) (sc := defScope s29) (by decide +kernel)) (fun _ _ _ _ _ => (k_gseq G.K rfl (n := 2) rfl (pgs_cons (pg_name (i := 2) nd rfl (Or.inl rfl)) (pgs_cons (pg_name (i := 3) nd rfl (Or.inl rfl)) pgs_nil)))) (fun _ _ _ _ _ => pts_nil) (fun _ _ _ _ _ => (pe_cl cR hr (Nat.le_refl _) (by rfl) (pa_cons (pv 2) (pa_cons (pv 3) pa_nil))))) pa_nil))))))) pss_nil)
    (pss_cons (ps_if (PW.pt (pw_or (pt_cmpR op_isN (pv 1) pe_non (nomark _)) (pw_or1 (k_truth G.K rfl (pe_callB (k_isiT G.K rfl) (by rfl) h_isinstance bt_isinstance (pa_cons (pv 1) (pa_cons (pe_tup (pa_cons (pe_bltn (v := .ty "bool") (by rfl) h_bool bt_bool rfl) (pa_cons (pe_bltn (v := .ty "str") (by rfl) h_str bt_str rfl) pa_nil))) pa_nil))) (fun _ => rfl))))) (pss_one (ps_ret (pe_and (pe_cmpR (k_eq G.K rfl (hu64 hr)) (pv 0) (pv 1) (nomark _)) (pe_and (pe_cmpR (k_eq G.K rfl (hu64 hr)) (pe_callB (k_isi G.K rfl) (by rfl) h_isinstance bt_isinstance (pa_cons (pv 0) (pa_cons (pe_bltn (v := .ty "bool") (by rfl) h_bool bt_bool rfl) pa_nil))) (pe_callB (k_isi G.K rfl) (by rfl) h_isinstance bt_isinstance (pa_cons (pv 1) (pa_cons (pe_bltn (v := .ty "bool") (by rfl) h_bool bt_bool rfl) pa_nil))) (nomark _)) (pe_one (pe_cmpR (k_eq G.K rfl (hu64 hr)) (pe_cmpR op_isN (pv 0) pe_non (nomark _)) (pe_cmpR op_isN (pv 1) pe_non (nomark _)) (nomark _))))))) pss_nil)
    (pss_one (ps_ret (pe_and (pe_callB (k_isi G.K rfl) (by rfl) h_isinstance bt_isinstance (pa_cons (pv 0) (pa_cons (pe_bltn (v := .ty "int") (by rfl) h_int bt_int rfl) pa_nil))) (pe_and (pe_not (pe_callB (k_isi G.K rfl) (by rfl) h_isinstance bt_isinstance (pa_cons (pv 0) (pa_cons (pe_bltn (v := .ty "bool") (by rfl) h_bool bt_bool rfl) pa_nil)))) (pe_one (pe_cmpR (k_eq G.K rfl (hu64 hr)) (pv 0) (pv 1) (nomark _))))))))), ?_⟩
    exact (sim_sseq (sim_sif (sim_tTru (sim_isi2 (t := Ty.list) (u := Ty.tuple) sim_var)) (sim_sseq (sim_sif (sim_tOr (sim_tTest (sim_ne (sim_isi (t := Ty.list) sim_var) (sim_isi (t := Ty.list) sim_var))) (sim_tTest (sim_ne (sim_isi (t := Ty.tuple) sim_var) (sim_isi (t := Ty.tuple) sim_var)))) (sim_sret sim_bl) sim_snil)
    (sim_sret (sim_andV (sim_eq (sim_len (sim_acons sim_var sim_anil)) (sim_len (sim_acons sim_var sim_anil))) (sim_all (sim_acons (SimN.e (sim_nlc (vs := [2, 3]) (sim_izp (sim_acons sim_var (sim_acons sim_var sim_anil))) (sim_gseq (sim_gcons (sim_gname (i := 2)) (sim_gcons (sim_gname (i := 3)) sim_gnil))) (by decide) sim_tyes (sim_call (sim_acons sim_var (sim_acons sim_var sim_anil))))) sim_anil))))) sim_snil)
    (sim_sseq (sim_sif (sim_tOr (sim_tTest (sim_isN sim_var sim_non)) (sim_tTru (sim_isi2 (t := Ty.bool) (u := Ty.str) sim_var))) (sim_sret (sim_andV (sim_eq sim_var sim_var) (sim_andV (sim_eq (sim_isi (t := Ty.bool) sim_var) (sim_isi (t := Ty.bool) sim_var)) (sim_eq (sim_isN sim_var sim_non) (sim_isN sim_var sim_non))))) sim_snil)
    (sim_sret (sim_andV (sim_isi (t := Ty.int) sim_var) (sim_andV (sim_notV (sim_isi (t := Ty.bool) sim_var)) (sim_eq sim_var sim_var))))))
end
abbrev s2 : Stmt := topS 2
abbrev N2 : List Str := ["kinds", "above", "name", "supers", "_", "mine", "upper"]
abbrev P2 : List Str := ["kinds"]
theorem sc2 : FnScope N2 P2 (defScope s2) := ⟨rfl, rfl, rfl, by decide +kernel, rfl, by decide +kernel, by decide +kernel⟩
def m_uppers : SS := (sSeq (sNew 1 nDK)
    (sSeq (sFor (iSq (eVar 0)) (bSeq 3 (bCons (bName 2) (bCons (bName 3) (bCons (bName 4) bNil)))) (sSeq (sFrz (sSeq (sNew 5 (nDsp (eVar 2) (eC (.bl true))))
    (sFor (iSq (eVar 3)) (bName 6) (sDrop (eUpd (eVar 5) (eBin dIx (eVar 1) (eVar 6)))))))
    (sPut (eVar 5) (eVar 1) (eVar 2))))
    (sRet (eVar 1))))
def M_uppers : FE := runE 7 1 m_uppers
section
variable {P : Program} {w : World} {G : Gm} {mg : Str → Option Value} {base : Heap} {f : Addr} {fd : FuncData}
theorem ok2 (F : Fun G.K "uppers" "uppers" s2 f fd) : FnOk P w G.K mg base CX0 1 f fd P2 (spE G 1 M_uppers) := by
  have nd := sc2.nd
  refine ok_E' F sc2 rfl rfl (fun cdv A outer s H E hr => ?_)
  refine ⟨_, (pss_cons (ps_set (i := 1) nd rfl (by first | exact Or.inl rfl | exact Or.inr rfl) pe_dnewK)
    (pss_cons (ps_for PassesOwn.never rfl (k_seq G.K rfl (pv 0)) (k_gseq G.K rfl (n := 3) rfl (pgs_cons (pg_name (i := 2) nd rfl (by first | exact Or.inl rfl | exact Or.inr rfl)) (pgs_cons (pg_name (i := 3) nd rfl (by first | exact Or.inl rfl | exact Or.inr rfl)) (pgs_cons (pg_name (i := 4) nd rfl (by first | exact Or.inl rfl | exact Or.inr rfl)) pgs_nil)))) (pss_cons (ps_set (i := 5) nd rfl (by first | exact Or.inl rfl | exact Or.inr rfl) (pe_disp (pps_cons (pv 2) pe_bl pps_nil) rfl rfl (List.cons_ne_nil _ _) (Nat.le_of_ble_eq_true rfl)))
    (pss_cons (ps_for PassesOwn.never rfl (k_seq G.K rfl (pv 3)) (pg_name (i := 6) nd rfl (by first | exact Or.inl rfl | exact Or.inr rfl)) (pss_one (ps_expr (pe_bm PySem.F.plainAttrs_dict PySem.F.slot_dict_update PySem.F.type_dict_update mt_upd (pv 5) (pa_cons (pe_ix (k_ix G.K rfl (hu1 hr)) (pv 1) (pv 6) (fun _ _ => rfl)) pa_nil)))))
    (pss_one (ps_asg (pv 5) (pg_sub (pv 1) (pv 2) (set_0 (hu1 hr))))))))
    (pss_one (ps_ret (pv 1))))), ?_⟩
  exact (sim_sseq (sim_snew sim_ndk)
    (sim_sseq (sim_sfor (sim_iseq sim_var) (sim_gseq (sim_gcons (sim_gname (i := 2)) (sim_gcons (sim_gname (i := 3)) (sim_gcons (sim_gname (i := 4)) sim_gnil)))) (sim_frz2 (sim_sseq (sim_snew (sim_ndsp sim_var sim_bl))
    (sim_sfor (sim_iseq sim_var) (sim_gname (i := 6)) (sim_sdrop (sim_upd sim_var (sim_ix sim_var sim_var)))))
    (sim_sput sim_var sim_var sim_var)))
    (sim_sret sim_var)))
end
abbrev s3 : Stmt := topS 3
abbrev N3 : List Str := ["above", "one", "other", "kind", "upper"]
abbrev P3 : List Str := ["above", "one", "other"]
theorem sc3 : FnScope N3 P3 (defScope s3) := ⟨rfl, rfl, rfl, by decide +kernel, rfl, by decide +kernel, by decide +kernel⟩
def m_is_shape_below : SS := (sRet (eB dAll (aCons (eFr (nLc (iZp (aCons (eVar 1) (aCons (eVar 2) aNil))) (bSeq 2 (bCons (bName 3) (bCons (bName 4) bNil))) tYes' (eBin dIn (eVar 4) (eBin dIx (eVar 0) (eVar 3))) [3, 4])) aNil)))
def M_is_shape_below : FE := runE 5 3 m_is_shape_below
section
variable {P : Program} {w : World} {G : Gm} {mg : Str → Option Value} {base : Heap} {f : Addr} {fd : FuncData}
theorem ok3 (F : Fun G.K "is_shape_below" "is_shape_below" s3 f fd) (h_all : mg "all" = none) (h_zip : mg "zip" = none) : FnOk P w G.K mg base CX0 1 f fd P3 (spE G 3 M_is_shape_below) := by
  have nd := sc3.nd
  refine ok_E' F sc3 rfl rfl (fun cdv A outer s H E hr => ?_)
  refine ⟨_, (pss_one (ps_ret (pe_callB (k_all G.K rfl rfl) (by rfl) h_all bt_all (pa_cons (pe_lc (own := [("kind", 3), ("upper", 4)]) rfl nd (k_zip G.K rfl (by rfl) h_zip (pa_cons (pv 1) (pa_cons (pv 2) pa_nil))) (blkOk_by (own := [("kind", 3), ("upper", 4)]) (N := N3) (sc := defScope s3) (by decide +kernel)) (fun _ _ _ _ _ => (k_gseq G.K rfl (n := 2) rfl (pgs_cons (pg_name (i := 3) nd rfl (Or.inl rfl)) (pgs_cons (pg_name (i := 4) nd rfl (Or.inl rfl)) pgs_nil)))) (fun _ _ _ _ _ => pts_nil) (fun _ _ _ _ _ => (pe_cmpR (k_in G.K rfl (hu65 hr)) (pv 4) (pe_ix (k_ix G.K rfl (hu1 hr)) (pv 0) (pv 3) (fun _ _ => rfl)) rfl))) pa_nil)))), ?_⟩
  exact (sim_sret (sim_all (sim_acons (SimN.e (sim_nlc (vs := [3, 4]) (sim_izp (sim_acons sim_var (sim_acons sim_var sim_anil))) (sim_gseq (sim_gcons (sim_gname (i := 3)) (sim_gcons (sim_gname (i := 4)) sim_gnil))) (by decide) sim_tyes (sim_in sim_var (sim_ix sim_var sim_var)))) sim_anil)))
end
abbrev s16x1 : Stmt := inClass (topS 16) 1
abbrev N16x1 : List Str := ["self", "shape", "label", "other"]
abbrev P16x1 : List Str := ["self", "shape"]
theorem sc16x1 : FnScope N16x1 P16x1 (defScope s16x1) := ⟨rfl, rfl, rfl, by decide +kernel, rfl, by decide +kernel, by decide +kernel⟩
def m_Table__nearer_than : SS := (sRet (eFr (nLc (iSq (eFld "Table" "methods" (eVar 0))) (bSeq 2 (bCons (bName 2) (bCons (bName 3) bNil))) (tAnd' (tB' (eBin dNe (eVar 3) (eVar 1))) (tTru (eCall 3 M_is_shape_below (aCons (eFld "Table" "above" (eVar 0)) (aCons (eVar 3) (aCons (eVar 1) aNil)))))) (eVar 2) [2, 3])))
def M_Table__nearer_than : FE := runE 4 2 m_Table__nearer_than
section
variable {P : Program} {w : World} {G : Gm} {mg : Str → Option Value} {base : Heap} {f : Addr} {fd : FuncData}
theorem ok16x1 (F : Fun G.K "_nearer_than" "Table._nearer_than" s16x1 f fd) (c_3 : Cl P w G.K mg base 1 "is_shape_below" P3 (spE G 3 M_is_shape_below)) (cl_Table : Cls G.K (G.cls "Table")) (na_Table_above : NoAttr G.K (G.cls "Table") "above") (na_Table_methods : NoAttr G.K (G.cls "Table") "methods") : FnOk P w G.K mg base CX0 2 f fd P16x1 (spE G 2 M_Table__nearer_than) := by
  have nd := sc16x1.nd
  refine ok_E' F sc16x1 rfl rfl (fun cdv A outer s H E hr => ?_)
  refine ⟨_, (pss_one (ps_ret (pe_lc (own := [("label", 2), ("other", 3)]) rfl nd (k_seq G.K rfl (k_fld G.K rfl (pv 0))) (blkOk_by (own := [("label", 2), ("other", 3)]) (N := N16x1) (sc := defScope s16x1) (by decide +kernel)) (fun _ _ _ _ _ => (k_gseq G.K rfl (n := 2) rfl (pgs_cons (pg_name (i := 2) nd rfl (Or.inl rfl)) (pgs_cons (pg_name (i := 3) nd rfl (Or.inl rfl)) pgs_nil)))) (fun _ _ _ _ _ => (pts_one (PW.pt (pw_and (pt_cmpR (k_ne G.K rfl (hu64 hr)) (pv 3) (pv 1) (nomark _)) (pw_and1 (k_truth G.K rfl (pe_cl c_3 hr (by decide) (by rfl) (pa_cons (k_fld G.K rfl (pv 0)) (pa_cons (pv 3) (pa_cons (pv 1) pa_nil)))) (fun _ => rfl))))))) (fun _ _ _ _ _ => (pv 2))))), ?_⟩
  exact (sim_sret (SimN.e (sim_nlc (vs := [2, 3]) (sim_iseq (sim_fld (c0 := "Table") cl_Table na_Table_methods sim_var)) (sim_gseq (sim_gcons (sim_gname (i := 2)) (sim_gcons (sim_gname (i := 3)) sim_gnil))) (by decide) (sim_tAnd (sim_tTest (sim_ne sim_var sim_var)) (sim_tTru (sim_call (sim_acons (sim_fld (c0 := "Table") cl_Table na_Table_above sim_var) (sim_acons sim_var (sim_acons sim_var sim_anil)))))) sim_var)))
end
abbrev s16x0 : Stmt := inClass (topS 16) 0
abbrev N16x0 : List Str := ["self", "generic", "kinds", "_", "methods", "label", "shape"]
abbrev P16x0 : List Str := ["self", "generic"]
theorem sc16x0 : FnScope N16x0 P16x0 (defScope s16x0) := ⟨rfl, rfl, rfl, by decide +kernel, rfl, by decide +kernel, by decide +kernel⟩
def m_Table___init__ : SS := (sSeq (sUnp (bSeq 3 (bCons (bName 2) (bCons (bName 3) (bCons (bName 4) bNil)))) (eVar 1))
    (sSeq (sFldS "Table" "kinds" (eVar 0) (eVar 2))
    (sSeq (sFldS "Table" "above" (eVar 0) (eCall 1 M_uppers (aCons (eVar 2) aNil)))
    (sSeq (sFldS "Table" "methods" (eVar 0) (eFr (nLc (iSq (eVar 4)) (bSeq 2 (bCons (bName 5) (bCons (bName 6) bNil))) tYes' (eTup (aCons (eVar 5) (aCons (eB dTuple (aCons (eVar 6) aNil)) aNil))) [5, 6])))
    (sFldS "Table" "nearer" (eVar 0) (eFr (nDc (iSq (eFld "Table" "methods" (eVar 0))) (bSeq 2 (bCons (bName 5) (bCons (bName 6) bNil))) tYes' (eVar 5) (eMeth "Table" "_nearer_than" 2 M_Table__nearer_than (eVar 0) (aCons (eVar 6) aNil)) [5, 6])))))))
def M_Table___init__ : FE := runE 7 2 m_Table___init__
section
variable {P : Program} {w : World} {G : Gm} {mg : Str → Option Value} {base : Heap} {f : Addr} {fd : FuncData}
theorem ok16x0 (F : Fun G.K "__init__" "Table.__init__" s16x0 f fd) (cm_16x1 : ClM P w G.K mg base 2 (G.cls "Table") "_nearer_than" P16x1 (spE G 2 M_Table__nearer_than)) (c_2 : Cl P w G.K mg base 1 "uppers" P2 (spE G 1 M_uppers)) (h_tuple : mg "tuple" = none) (cl_Table : Cls G.K (G.cls "Table")) (na_Table_above : NoAttr G.K (G.cls "Table") "above") (na_Table_kinds : NoAttr G.K (G.cls "Table") "kinds") (na_Table_methods : NoAttr G.K (G.cls "Table") "methods") (na_Table_nearer : NoAttr G.K (G.cls "Table") "nearer") : FnOk P w G.K mg base CX0 3 f fd P16x0 (spE G 2 M_Table___init__) := by
  have nd := sc16x0.nd
  refine ok_E' F sc16x0 rfl rfl (fun cdv A outer s H E hr => ?_)
  refine ⟨_, (pss_cons (ps_asg (pv 1) (k_gseq G.K rfl (n := 3) rfl (pgs_cons (pg_name (i := 2) nd rfl (by first | exact Or.inl rfl | exact Or.inr rfl)) (pgs_cons (pg_name (i := 3) nd rfl (by first | exact Or.inl rfl | exact Or.inr rfl)) (pgs_cons (pg_name (i := 4) nd rfl (by first | exact Or.inl rfl | exact Or.inr rfl)) pgs_nil)))))
    (pss_cons (ps_fld (pv 0) (pv 2) rfl)
    (pss_cons (ps_fld (pv 0) (pe_cl c_2 hr (by decide) (by rfl) (pa_cons (pv 2) pa_nil)) rfl)
    (pss_cons (ps_fld (pv 0) (pe_lc (own := [("label", 5), ("shape", 6)]) rfl nd (k_seq G.K rfl (pv 4)) (blkOk_by (own := [("label", 5), ("shape", 6)]) (N := N16x0) (sc := defScope s16x0) (by decide +kernel)) (fun _ _ _ _ _ => (k_gseq G.K rfl (n := 2) rfl (pgs_cons (pg_name (i := 5) nd rfl (Or.inl rfl)) (pgs_cons (pg_name (i := 6) nd rfl (Or.inl rfl)) pgs_nil)))) (fun _ _ _ _ _ => pts_nil) (fun _ _ _ _ _ => (pe_tup (pa_cons (pv 5) (pa_cons (pe_callTy (k_tuple G.K rfl) (by rfl) h_tuple bt_tuple (pa_cons (pv 6) pa_nil)) pa_nil))))) rfl)
    (pss_one (ps_fld (pv 0) (pe_dc (own := [("label", 5), ("shape", 6)]) rfl nd (k_seq G.K rfl (k_fld G.K rfl (pv 0))) (blkOk_by (own := [("label", 5), ("shape", 6)]) (N := N16x0) (sc := defScope s16x0) (by decide +kernel)) (fun _ _ _ _ _ => (k_gseq G.K rfl (n := 2) rfl (pgs_cons (pg_name (i := 5) nd rfl (Or.inl rfl)) (pgs_cons (pg_name (i := 6) nd rfl (Or.inl rfl)) pgs_nil)))) (fun _ _ _ _ _ => pts_nil) (fun _ _ _ _ _ => (pv 5)) (fun _ _ _ _ _ => (pe_cm cm_16x1 cl_Table hr (by decide) (pv 0) (pa_cons (pv 6) pa_nil)))) rfl)))))), ?_⟩
  exact (sim_sseq (sim_sunp sim_var (sim_gseq (sim_gcons (sim_gname (i := 2)) (sim_gcons (sim_gname (i := 3)) (sim_gcons (sim_gname (i := 4)) sim_gnil)))))
    (sim_sseq (sim_sfld (c0 := "Table") cl_Table na_Table_kinds sim_var sim_var)
    (sim_sseq (sim_sfld (c0 := "Table") cl_Table na_Table_above sim_var (sim_call (sim_acons sim_var sim_anil)))
    (sim_sseq (sim_sfld (c0 := "Table") cl_Table na_Table_methods sim_var (SimN.e (sim_nlc (vs := [5, 6]) (sim_iseq sim_var) (sim_gseq (sim_gcons (sim_gname (i := 5)) (sim_gcons (sim_gname (i := 6)) sim_gnil))) (by decide) sim_tyes (sim_tup (sim_acons sim_var (sim_acons (sim_tuple (sim_acons sim_var sim_anil)) sim_anil))))))
    (sim_sfld (c0 := "Table") cl_Table na_Table_nearer sim_var (SimN.e (sim_ndc (vs := [5, 6]) (sim_iseq (sim_fld (c0 := "Table") cl_Table na_Table_methods sim_var)) (sim_gseq (sim_gcons (sim_gname (i := 5)) (sim_gcons (sim_gname (i := 6)) sim_gnil))) (by decide) sim_tyes sim_var (sim_meth (c0 := "Table") sim_var (sim_acons sim_var sim_anil)))))))))
end
abbrev s16x2 : Stmt := inClass (topS 16) 2
abbrev N16x2 : List Str := ["self", "label", "name", "shape"]
abbrev P16x2 : List Str := ["self", "label"]
theorem sc16x2 : FnScope N16x2 P16x2 (defScope s16x2) := ⟨rfl, rfl, rfl, by decide +kernel, rfl, by decide +kernel, by decide +kernel⟩
def m_Table_shape_of : SS := (sSeq (sFor (iSq (eFld "Table" "methods" (eVar 0))) (bSeq 2 (bCons (bName 2) (bCons (bName 3) bNil))) (sIf (tB' (eBin dEq (eVar 2) (eVar 1))) (sRet (eVar 3)) sNil))
    sNever)
def M_Table_shape_of : FE := runE 4 2 m_Table_shape_of
section
variable {P : Program} {w : World} {G : Gm} {mg : Str → Option Value} {base : Heap} {f : Addr} {fd : FuncData}
theorem ok16x2 (F : Fun G.K "shape_of" "Table.shape_of" s16x2 f fd) (cl_Table : Cls G.K (G.cls "Table")) (na_Table_methods : NoAttr G.K (G.cls "Table") "methods") : FnOk P w G.K mg base CX0 1 f fd P16x2 (spE G 2 M_Table_shape_of) := by
  have nd := sc16x2.nd
  refine ok_E' F sc16x2 rfl rfl (fun cdv A outer s H E hr => ?_)
  refine ⟨_, (pss_cons (ps_for PassesOwn.never rfl (k_seq G.K rfl (k_fld G.K rfl (pv 0))) (k_gseq G.K rfl (n := 2) rfl (pgs_cons (pg_name (i := 2) nd rfl (by first | exact Or.inl rfl | exact Or.inr rfl)) (pgs_cons (pg_name (i := 3) nd rfl (by first | exact Or.inl rfl | exact Or.inr rfl)) pgs_nil))) (pss_one (ps_if (pt_cmpR (k_eq G.K rfl (hu64 hr)) (pv 2) (pv 1) (nomark _)) (pss_one (ps_ret (pv 3))) pss_nil)))
    (pss_one ps_never)), ?_⟩
  exact (sim_sseq (sim_sfor (sim_iseq (sim_fld (c0 := "Table") cl_Table na_Table_methods sim_var)) (sim_gseq (sim_gcons (sim_gname (i := 2)) (sim_gcons (sim_gname (i := 3)) sim_gnil))) (sim_sif (sim_tTest (sim_eq sim_var sim_var)) (sim_sret sim_var) sim_snil))
    sim_never)
end
abbrev s7 : Stmt := topS 7
abbrev N7 : List Str := ["columns", "rows", "column", "row", "member"]
abbrev P7 : List Str := ["columns"]
theorem sc7 : FnScope N7 P7 (defScope s7) := ⟨rfl, rfl, rfl, by decide +kernel, rfl, by decide +kernel, by decide +kernel⟩
def m_every_choice : SS := (sSeq (sNew 1 (nLst (aCons (eTup aNil) aNil)))
    (sSeq (sFor (iSq (eVar 0)) (bName 2) (sNew 1 (nLc2 (iSq (eVar 1)) (bName 3) tYes' (iSq (eVar 2)) (bName 4) tYes' (eBin dAdd (eVar 3) (eTup (aCons (eVar 4) aNil))) [3, 4] [4])))
    (sRet (eVar 1))))
def M_every_choice : FN := runN 5 1 m_every_choice
section
variable {P : Program} {w : World} {G : Gm} {mg : Str → Option Value} {base : Heap} {f : Addr} {fd : FuncData}
theorem ok7 (F : Fun G.K "every_choice" "every_choice" s7 f fd) : FnOk P w G.K mg base CX0 1 f fd P7 (spN G 1 M_every_choice) := by
  have nd := sc7.nd
  refine ok_N' F sc7 rfl rfl (fun cdv A outer s H E hr => ?_)
  refine ⟨_, (pss_cons (ps_set (i := 1) nd rfl (by first | exact Or.inl rfl | exact Or.inr rfl) (pe_lst (pa_cons (pe_tup pa_nil) pa_nil)))
    (pss_cons (ps_for PassesOwn.never rfl (k_seq G.K rfl (pv 0)) (pg_name (i := 2) nd rfl (by first | exact Or.inl rfl | exact Or.inr rfl)) (pss_one (ps_setLc2 (i := 1) (own := [("row", 3), ("member", 4)]) (vs1 := [4]) rfl nd rfl rfl (sw_true rfl rfl rfl (by decide +kernel)) (k_seq G.K rfl (pv 1)) (blkOk_by (own := [("row", 3), ("member", 4)]) (N := N7) (sc := defScope s7) (by decide +kernel)) (by decide) (fun _ _ _ _ _ => (pg_name (i := 3) nd rfl (Or.inl rfl))) (fun _ _ _ _ _ => pts_nil) (fun _ _ _ _ _ => (k_seq G.K rfl (pv 2))) (fun _ _ _ _ _ => (pg_name (i := 4) nd rfl (Or.inl rfl))) (fun _ _ _ _ _ => pts_nil) (fun _ _ _ _ _ => (pe_op (k_add G.K rfl) (pv 3) (pe_tup (pa_cons (pv 4) pa_nil)))))))
    (pss_one (ps_ret (pv 1))))), ?_⟩
  exact (sim_sseq (sim_snew (sim_nlst (sim_acons (sim_tup sim_anil) sim_anil)))
    (sim_sseq (sim_sfor (sim_iseq sim_var) (sim_gname (i := 2)) (sim_snew (sim_nlc2 (vs := [3, 4]) (vs1 := [4]) (sim_iseq sim_var) (sim_gname (i := 3)) (by decide) sim_tyes (sim_iseq sim_var) (sim_gname (i := 4)) (by decide) sim_tyes (sim_add sim_var (sim_tup (sim_acons sim_var sim_anil))))))
    (sim_sret sim_var)))
end
abbrev s11 : Stmt := topS 11
abbrev N11 : List Str := ["generic", "names", "kinds", "places", "_", "row"]
abbrev P11 : List Str := ["generic"]
theorem sc11 : FnScope N11 P11 (defScope s11) := ⟨rfl, rfl, rfl, by decide +kernel, rfl, by decide +kernel, by decide +kernel⟩
def m_shapes : SS := (sSeq (sUnp (bSeq 3 (bCons (bName 2) (bCons (bName 3) (bCons (bName 4) bNil)))) (eVar 0))
    (sSeq (sSet 1 (eFr (nB dSort2 (aCons (eFr (nLc (iSq (eVar 2)) (bName 5) tYes' (eBin dIx (eVar 5) (eC (.int 0))) [5])) aNil))))
    (sRetNew (nCall 1 M_every_choice (aCons (eBin dMul (eFr (nLst (aCons (eVar 1) aNil))) (eVar 3)) aNil)))))
def M_shapes : FN := runN 6 1 m_shapes
section
variable {P : Program} {w : World} {G : Gm} {mg : Str → Option Value} {base : Heap} {f : Addr} {fd : FuncData}
theorem ok11 (F : Fun G.K "shapes" "shapes" s11 f fd) (c_7 : Cl P w G.K mg base 1 "every_choice" P7 (spN G 1 M_every_choice)) (h_sorted : mg "sorted" = none) : FnOk P w G.K mg base CX0 2 f fd P11 (spN G 1 M_shapes) := by
  have nd := sc11.nd
  refine ok_N' F sc11 rfl rfl (fun cdv A outer s H E hr => ?_)
  refine ⟨_, (pss_cons (ps_asg (pv 0) (k_gseq G.K rfl (n := 3) rfl (pgs_cons (pg_name (i := 2) nd rfl (by first | exact Or.inl rfl | exact Or.inr rfl)) (pgs_cons (pg_name (i := 3) nd rfl (by first | exact Or.inl rfl | exact Or.inr rfl)) (pgs_cons (pg_name (i := 4) nd rfl (by first | exact Or.inl rfl | exact Or.inr rfl)) pgs_nil)))))
    (pss_cons (ps_set (i := 1) nd rfl (by first | exact Or.inl rfl | exact Or.inr rfl) (pe_callB (k_sort2 G.K rfl rfl (hu64 hr)) (by rfl) h_sorted bt_sorted (pa_cons (pe_lc (own := [("row", 5)]) rfl nd (k_seq G.K rfl (pv 2)) (blkOk_by (own := [("row", 5)]) (N := N11) (sc := defScope s11) (by decide +kernel)) (fun _ _ _ _ _ => (pg_name (i := 5) nd rfl (Or.inl rfl))) (fun _ _ _ _ _ => pts_nil) (fun _ _ _ _ _ => (pe_ix (k_ix G.K rfl (hu1 hr)) (pv 5) pe_int (fun _ _ => rfl)))) pa_nil)))
    (pss_one (ps_ret (pe_cl c_7 hr (by decide) (by rfl) (pa_cons (pe_op op_mul0 (pe_lst (pa_cons (pv 1) pa_nil)) (pv 3)) pa_nil)))))), ?_⟩
  exact (sim_sseq (sim_sunp sim_var (sim_gseq (sim_gcons (sim_gname (i := 2)) (sim_gcons (sim_gname (i := 3)) (sim_gcons (sim_gname (i := 4)) sim_gnil)))))
    (sim_sseq (sim_sset (SimN.e (sim_nsort2 (sim_acons (SimN.e (sim_nlc (vs := [5]) (sim_iseq sim_var) (sim_gname (i := 5)) (by decide) sim_tyes (sim_ix sim_var sim_int))) sim_anil))))
    (sim_sretnew (sim_ncall (sim_acons (sim_mul (SimN.e (sim_nlst (sim_acons sim_var sim_anil))) sim_var) sim_anil)))))
end
abbrev s16x3 : Stmt := inClass (topS 16) 3
abbrev N16x3 : List Str := ["self", "call", "label", "shape"]
abbrev P16x3 : List Str := ["self", "call"]
theorem sc16x3 : FnScope N16x3 P16x3 (defScope s16x3) := ⟨rfl, rfl, rfl, by decide +kernel, rfl, by decide +kernel, by decide +kernel⟩
def m_Table_fitting : SS := (sRet (eFr (nLc (iSq (eFld "Table" "methods" (eVar 0))) (bSeq 2 (bCons (bName 2) (bCons (bName 3) bNil))) (tTru (eCall 3 M_is_shape_below (aCons (eFld "Table" "above" (eVar 0)) (aCons (eVar 1) (aCons (eVar 3) aNil))))) (eVar 2) [2, 3])))
def M_Table_fitting : FE := runE 4 2 m_Table_fitting
section
variable {P : Program} {w : World} {G : Gm} {mg : Str → Option Value} {base : Heap} {f : Addr} {fd : FuncData}
theorem ok16x3 (F : Fun G.K "fitting" "Table.fitting" s16x3 f fd) (c_3 : Cl P w G.K mg base 1 "is_shape_below" P3 (spE G 3 M_is_shape_below)) (cl_Table : Cls G.K (G.cls "Table")) (na_Table_above : NoAttr G.K (G.cls "Table") "above") (na_Table_methods : NoAttr G.K (G.cls "Table") "methods") : FnOk P w G.K mg base CX0 2 f fd P16x3 (spE G 2 M_Table_fitting) := by
  have nd := sc16x3.nd
  refine ok_E' F sc16x3 rfl rfl (fun cdv A outer s H E hr => ?_)
  refine ⟨_, (pss_one (ps_ret (pe_lc (own := [("label", 2), ("shape", 3)]) rfl nd (k_seq G.K rfl (k_fld G.K rfl (pv 0))) (blkOk_by (own := [("label", 2), ("shape", 3)]) (N := N16x3) (sc := defScope s16x3) (by decide +kernel)) (fun _ _ _ _ _ => (k_gseq G.K rfl (n := 2) rfl (pgs_cons (pg_name (i := 2) nd rfl (Or.inl rfl)) (pgs_cons (pg_name (i := 3) nd rfl (Or.inl rfl)) pgs_nil)))) (fun _ _ _ _ _ => (pts_one (k_truth G.K rfl (pe_cl c_3 hr (by decide) (by rfl) (pa_cons (k_fld G.K rfl (pv 0)) (pa_cons (pv 1) (pa_cons (pv 3) pa_nil)))) (fun _ => rfl)))) (fun _ _ _ _ _ => (pv 2))))), ?_⟩
  exact (sim_sret (SimN.e (sim_nlc (vs := [2, 3]) (sim_iseq (sim_fld (c0 := "Table") cl_Table na_Table_methods sim_var)) (sim_gseq (sim_gcons (sim_gname (i := 2)) (sim_gcons (sim_gname (i := 3)) sim_gnil))) (by decide) (sim_tTru (sim_call (sim_acons (sim_fld (c0 := "Table") cl_Table na_Table_above sim_var) (sim_acons sim_var (sim_acons sim_var sim_anil))))) sim_var)))
end
abbrev s16x4 : Stmt := inClass (topS 16) 4
abbrev N16x4 : List Str := ["self", "call", "fits", "label", "lower"]
abbrev P16x4 : List Str := ["self", "call"]
theorem sc16x4 : FnScope N16x4 P16x4 (defScope s16x4) := ⟨rfl, rfl, rfl, by decide +kernel, rfl, by decide +kernel, by decide +kernel⟩
def m_Table_nearest : SS := (sSeq (sSet 2 (eMeth "Table" "fitting" 2 M_Table_fitting (eVar 0) (aCons (eVar 1) aNil)))
    (sRet (eFr (nLc (iSq (eVar 2)) (bName 3) (tNot' (tTru (eB dAny (aCons (eFr (nLc (iSq (eBin dIx (eFld "Table" "nearer" (eVar 0)) (eVar 3))) (bName 4) tYes' (eBin dIn (eVar 4) (eVar 2)) [4])) aNil)))) (eVar 3) [3]))))
def M_Table_nearest : FE := runE 5 2 m_Table_nearest
section
variable {P : Program} {w : World} {G : Gm} {mg : Str → Option Value} {base : Heap} {f : Addr} {fd : FuncData}
theorem ok16x4 (F : Fun G.K "nearest" "Table.nearest" s16x4 f fd) (cm_16x3 : ClM P w G.K mg base 2 (G.cls "Table") "fitting" P16x3 (spE G 2 M_Table_fitting)) (h_any : mg "any" = none) (cl_Table : Cls G.K (G.cls "Table")) (na_Table_nearer : NoAttr G.K (G.cls "Table") "nearer") : FnOk P w G.K mg base CX0 3 f fd P16x4 (spE G 2 M_Table_nearest) := by
  have nd := sc16x4.nd
  refine ok_E' F sc16x4 rfl rfl (fun cdv A outer s H E hr => ?_)
  refine ⟨_, (pss_cons (ps_set (i := 2) nd rfl (by first | exact Or.inl rfl | exact Or.inr rfl) (pe_cm cm_16x3 cl_Table hr (by decide) (pv 0) (pa_cons (pv 1) pa_nil)))
    (pss_one (ps_ret (pe_lc (own := [("label", 3)]) rfl nd (k_seq G.K rfl (pv 2)) (blkOk_by (own := [("label", 3)]) (N := N16x4) (sc := defScope s16x4) (by decide +kernel)) (fun _ _ _ _ _ => (pg_name (i := 3) nd rfl (Or.inl rfl))) (fun _ _ _ _ _ => (pts_one (pt_not (k_truth G.K rfl (pe_callB (k_any G.K rfl rfl) (by rfl) h_any bt_any (pa_cons (pe_lc (own := [("lower", 4)]) rfl nd (k_seq G.K rfl (pe_ix (k_ix G.K rfl (hu1 hr)) (k_fld G.K rfl (pv 0)) (pv 3) (fun _ _ => rfl))) (blkOk_by (own := [("lower", 4)]) (N := N16x4) (by rfl)) (fun _ _ _ _ _ => (pg_name (i := 4) nd rfl (Or.inl rfl))) (fun _ _ _ _ _ => pts_nil) (fun _ _ _ _ _ => (pe_cmpR (k_in G.K rfl (hu65 hr)) (pv 4) (pv 2) rfl))) pa_nil)) (fun _ => rfl))))) (fun _ _ _ _ _ => (pv 3)))))), ?_⟩
  exact (sim_sseq (sim_sset (sim_meth (c0 := "Table") sim_var (sim_acons sim_var sim_anil)))
    (sim_sret (SimN.e (sim_nlc (vs := [3]) (sim_iseq sim_var) (sim_gname (i := 3)) (by decide) (sim_tNot (sim_tTru (sim_any (sim_acons (SimN.e (sim_nlc (vs := [4]) (sim_iseq (sim_ix (sim_fld (c0 := "Table") cl_Table na_Table_nearer sim_var) sim_var)) (sim_gname (i := 4)) (by decide) sim_tyes (sim_in sim_var sim_var))) sim_anil)))) sim_var))))
end
abbrev s22 : Stmt := topS 22
abbrev N22 : List Str := ["generic", "label", "other", "table", "call", "labels"]
abbrev P22 : List Str := ["generic", "label", "other"]
theorem sc22 : FnScope N22 P22 (defScope s22) := ⟨rfl, rfl, rfl, by decide +kernel, rfl, by decide +kernel, by decide +kernel⟩
def m_meet : SS := (sSeq (sSet 3 (eFr (nMk "Table" 2 M_Table___init__ (aCons (eVar 0) aNil))))
    (sSeq (sDrop (eMeth "Table" "shape_of" 2 M_Table_shape_of (eVar 3) (aCons (eVar 1) aNil)))
    (sSeq (sDrop (eMeth "Table" "shape_of" 2 M_Table_shape_of (eVar 3) (aCons (eVar 2) aNil)))
    (sSeq (sFor (iSq (eFr (nCall 1 M_shapes (aCons (eVar 0) aNil)))) (bName 4) (sSeq (sSet 5 (eMeth "Table" "nearest" 2 M_Table_nearest (eVar 3) (aCons (eVar 4) aNil)))
    (sIf (tAnd' (tB' (eBin dIn (eVar 1) (eVar 5))) (tB' (eBin dIn (eVar 2) (eVar 5)))) (sRet (eVar 4)) sNil)))
    (sRet (eC .non))))))
def M_meet : FE := runE 6 3 m_meet
section
variable {P : Program} {w : World} {G : Gm} {mg : Str → Option Value} {base : Heap} {f : Addr} {fd : FuncData}
theorem ok22 (F : Fun G.K "meet" "meet" s22 f fd) (cm_16x4 : ClM P w G.K mg base 3 (G.cls "Table") "nearest" P16x4 (spE G 2 M_Table_nearest)) (cm_16x2 : ClM P w G.K mg base 1 (G.cls "Table") "shape_of" P16x2 (spE G 2 M_Table_shape_of)) (c_11 : Cl P w G.K mg base 2 "shapes" P11 (spN G 1 M_shapes)) (ci_16x0 : ClI P w G.K mg base 3 "Table" (G.cls "Table") P16x0 (spE G 2 M_Table___init__)) (cl_Table : Cls G.K (G.cls "Table")) : FnOk P w G.K mg base CX0 5 f fd P22 (spE G 3 M_meet) := by
  have nd := sc22.nd
  refine ok_E' F sc22 rfl rfl (fun cdv A outer s H E hr => ?_)
  refine ⟨_, (pss_cons (ps_set (i := 3) nd rfl (by first | exact Or.inl rfl | exact Or.inr rfl) (pe_mk ci_16x0 hr (by decide) (by rfl) (pa_cons (pv 0) pa_nil)))
    (pss_cons (ps_expr (pe_cm cm_16x2 cl_Table hr (by decide) (pv 3) (pa_cons (pv 1) pa_nil)))
    (pss_cons (ps_expr (pe_cm cm_16x2 cl_Table hr (by decide) (pv 3) (pa_cons (pv 2) pa_nil)))
    (pss_cons (ps_for PassesOwn.never rfl (k_seq G.K rfl (pe_cl c_11 hr (by decide) (by rfl) (pa_cons (pv 0) pa_nil))) (pg_name (i := 4) nd rfl (by first | exact Or.inl rfl | exact Or.inr rfl)) (pss_cons (ps_set (i := 5) nd rfl (by first | exact Or.inl rfl | exact Or.inr rfl) (pe_cm cm_16x4 cl_Table hr (by decide) (pv 3) (pa_cons (pv 4) pa_nil)))
    (pss_one (ps_if (PW.pt (pw_and (pt_cmpR (k_in G.K rfl (hu65 hr)) (pv 1) (pv 5) rfl) (pw_and1 (pt_cmpR (k_in G.K rfl (hu65 hr)) (pv 2) (pv 5) rfl)))) (pss_one (ps_ret (pv 4))) pss_nil))))
    (pss_one (ps_ret pe_non)))))), ?_⟩
  exact (sim_sseq (sim_sset (SimN.e (sim_mk (c0 := "Table") (sim_acons sim_var sim_anil))))
    (sim_sseq (sim_sdrop (sim_meth (c0 := "Table") sim_var (sim_acons sim_var sim_anil)))
    (sim_sseq (sim_sdrop (sim_meth (c0 := "Table") sim_var (sim_acons sim_var sim_anil)))
    (sim_sseq (sim_sfor (sim_iseq (SimN.e (sim_ncall (sim_acons sim_var sim_anil)))) (sim_gname (i := 4)) (sim_sseq (sim_sset (sim_meth (c0 := "Table") sim_var (sim_acons sim_var sim_anil)))
    (sim_sif (sim_tAnd (sim_tTest (sim_in sim_var sim_var)) (sim_tTest (sim_in sim_var sim_var))) (sim_sret sim_var) sim_snil)))
    (sim_sret sim_non)))))
end
abbrev s4 : Stmt := topS 4
abbrev N4 : List Str := ["above", "one", "other", "both", "kind", "upper"]
abbrev P4 : List Str := ["above", "one", "other"]
theorem sc4 : FnScope N4 P4 (defScope s4) := ⟨rfl, rfl, rfl, by decide +kernel, rfl, by decide +kernel, by decide +kernel⟩
def m_greatest_kinds : SS := (sSeq (sSet 3 (eFr (nLc (iKy (eVar 0)) (bName 4) (tAnd' (tB' (eBin dIn (eVar 1) (eBin dIx (eVar 0) (eVar 4)))) (tB' (eBin dIn (eVar 2) (eBin dIx (eVar 0) (eVar 4))))) (eVar 4) [4])))
    (sRet (eFr (nB dSort2 (aCons (eFr (nLc (iSq (eVar 3)) (bName 4) (tNot' (tTru (eB dAny (aCons (eFr (nLc (iKy (eIxK (eVar 0) (eVar 4))) (bName 5) (tB' (eBin dNe (eVar 5) (eVar 4))) (eBin dIn (eVar 5) (eVar 3)) [5])) aNil)))) (eVar 4) [4])) aNil)))))
def M_greatest_kinds : FE := runE 6 3 m_greatest_kinds
section
variable {P : Program} {w : World} {G : Gm} {mg : Str → Option Value} {base : Heap} {f : Addr} {fd : FuncData}
theorem ok4 (F : Fun G.K "greatest_kinds" "greatest_kinds" s4 f fd) (h_any : mg "any" = none) (h_sorted : mg "sorted" = none) : FnOk P w G.K mg base CX0 1 f fd P4 (spE G 3 M_greatest_kinds) := by
  have nd := sc4.nd
  refine ok_E' F sc4 rfl rfl (fun cdv A outer s H E hr => ?_)
  refine ⟨_, (pss_cons (ps_set (i := 3) nd rfl (by first | exact Or.inl rfl | exact Or.inr rfl) (pe_lockA (pe_lc (own := [("kind", 4)]) rfl nd (pi_keys (pv 0)) (blkOk_by (own := [("kind", 4)]) (N := N4) (sc := defScope s4) (by decide +kernel)) (fun _ _ _ _ _ => (pg_name (i := 4) nd rfl (Or.inl rfl))) (fun _ _ _ _ _ => (pts_one (PW.pt (pw_and (pt_cmpR (k_in G.K rfl (hu65 hr)) (pv 1) (pe_ix (k_ix G.K rfl (hu1 hr)) (pv 0) (pv 4) (fun _ _ => rfl)) rfl) (pw_and1 (pt_cmpR (k_in G.K rfl (hu65 hr)) (pv 2) (pe_ix (k_ix G.K rfl (hu1 hr)) (pv 0) (pv 4) (fun _ _ => rfl)) rfl)))))) (fun _ _ _ _ _ => (pv 4)))))
    (pss_one (ps_ret (pe_callB (k_sort2 G.K rfl rfl (hu64 hr)) (by rfl) h_sorted bt_sorted (pa_cons (pe_lc (own := [("kind", 4)]) rfl nd (k_seq G.K rfl (pv 3)) (blkOk_by (own := [("kind", 4)]) (N := N4) (sc := defScope s4) (by decide +kernel)) (fun _ _ _ _ _ => (pg_name (i := 4) nd rfl (Or.inr rfl))) (fun _ _ _ _ _ => (pts_one (pt_not (k_truth G.K rfl (pe_callB (k_any G.K rfl rfl) (by rfl) h_any bt_any (pa_cons (pe_lockA (pe_lc (own := [("upper", 5)]) rfl nd (pi_keys (pe_ix (k_ix G.K rfl (hu1 hr)) (pv 0) (pv 4) (fun _ _ => rfl))) (blkOk_by (own := [("upper", 5)]) (N := N4) (by rfl)) (fun _ _ _ _ _ => (pg_name (i := 5) nd rfl (Or.inl rfl))) (fun _ _ _ _ _ => (pts_one (pt_cmpR (k_ne G.K rfl (hu64 hr)) (pv 5) (pv 4) (nomark _)))) (fun _ _ _ _ _ => (pe_cmpR (k_in G.K rfl (hu65 hr)) (pv 5) (pv 3) rfl)))) pa_nil)) (fun _ => rfl))))) (fun _ _ _ _ _ => (pv 4))) pa_nil))))), ?_⟩
  exact (sim_sseq (sim_sset (SimN.e (sim_nlck (vs := [4]) simp_var (sim_gname (i := 4)) (by decide) (sim_tAnd (sim_tTest (sim_in sim_var (sim_ix sim_var sim_var))) (sim_tTest (sim_in sim_var (sim_ix sim_var sim_var)))) sim_var)))
    (sim_sret (SimN.e (sim_nsort2 (sim_acons (SimN.e (sim_nlc (vs := [4]) (sim_iseq sim_var) (sim_gname (i := 4)) (by decide) (sim_tNot (sim_tTru (sim_any (sim_acons (SimN.e (sim_nlck (vs := [5]) (simp_ixk simp_var simp_var) (sim_gname (i := 5)) (by decide) (sim_tTest (sim_ne sim_var sim_var)) (sim_in sim_var sim_var))) sim_anil)))) sim_var)) sim_anil)))))
end
abbrev s12 : Stmt := topS 12
abbrev N12 : List Str := ["kinds", "one", "other", "above", "kind", "unlike"]
abbrev P12 : List Str := ["kinds", "one", "other"]
theorem sc12 : FnScope N12 P12 (defScope s12) := ⟨rfl, rfl, rfl, by decide +kernel, rfl, by decide +kernel, by decide +kernel⟩
def m_common : SS := (sSeq (sSet 3 (eCall 1 M_uppers (aCons (eVar 0) aNil)))
    (sRet (eFr (nCall 1 M_every_choice (aCons (eFr (nLc (iZp (aCons (eVar 1) (aCons (eVar 2) aNil))) (bSeq 2 (bCons (bName 4) (bCons (bName 5) bNil))) tYes' (eCall 3 M_greatest_kinds (aCons (eVar 3) (aCons (eVar 4) (aCons (eVar 5) aNil)))) [4, 5])) aNil)))))
def M_common : FE := runE 6 3 m_common
section
variable {P : Program} {w : World} {G : Gm} {mg : Str → Option Value} {base : Heap} {f : Addr} {fd : FuncData}
theorem ok12 (F : Fun G.K "common" "common" s12 f fd) (c_7 : Cl P w G.K mg base 1 "every_choice" P7 (spN G 1 M_every_choice)) (c_4 : Cl P w G.K mg base 1 "greatest_kinds" P4 (spE G 3 M_greatest_kinds)) (c_2 : Cl P w G.K mg base 1 "uppers" P2 (spE G 1 M_uppers)) (h_zip : mg "zip" = none) : FnOk P w G.K mg base CX0 2 f fd P12 (spE G 3 M_common) := by
  have nd := sc12.nd
  refine ok_E' F sc12 rfl rfl (fun cdv A outer s H E hr => ?_)
  refine ⟨_, (pss_cons (ps_set (i := 3) nd rfl (by first | exact Or.inl rfl | exact Or.inr rfl) (pe_cl c_2 hr (by decide) (by rfl) (pa_cons (pv 0) pa_nil)))
    (pss_one (ps_ret (pe_cl c_7 hr (by decide) (by rfl) (pa_cons (pe_lc (own := [("kind", 4), ("unlike", 5)]) rfl nd (k_zip G.K rfl (by rfl) h_zip (pa_cons (pv 1) (pa_cons (pv 2) pa_nil))) (blkOk_by (own := [("kind", 4), ("unlike", 5)]) (N := N12) (sc := defScope s12) (by decide +kernel)) (fun _ _ _ _ _ => (k_gseq G.K rfl (n := 2) rfl (pgs_cons (pg_name (i := 4) nd rfl (Or.inl rfl)) (pgs_cons (pg_name (i := 5) nd rfl (Or.inl rfl)) pgs_nil)))) (fun _ _ _ _ _ => pts_nil) (fun _ _ _ _ _ => (pe_cl c_4 hr (by decide) (by rfl) (pa_cons (pv 3) (pa_cons (pv 4) (pa_cons (pv 5) pa_nil)))))) pa_nil))))), ?_⟩
  exact (sim_sseq (sim_sset (sim_call (sim_acons sim_var sim_anil)))
    (sim_sret (SimN.e (sim_ncall (sim_acons (SimN.e (sim_nlc (vs := [4, 5]) (sim_izp (sim_acons sim_var (sim_acons sim_var sim_anil))) (sim_gseq (sim_gcons (sim_gname (i := 4)) (sim_gcons (sim_gname (i := 5)) sim_gnil))) (by decide) sim_tyes (sim_call (sim_acons sim_var (sim_acons sim_var (sim_acons sim_var sim_anil)))))) sim_anil)))))
end
abbrev s24 : Stmt := topS 24
abbrev N24 : List Str := ["table", "nearer", "part", "label"]
abbrev P24 : List Str := ["table", "nearer", "part"]
theorem sc24 : FnScope N24 P24 (defScope s24) := ⟨rfl, rfl, rfl, by decide +kernel, rfl, by decide +kernel, by decide +kernel⟩
def m__least_covering : SS := (sRet (eBin dIx (eFr (nLc (iSq (eMeth "Table" "fitting" 2 M_Table_fitting (eVar 0) (aCons (eVar 2) aNil))) (bName 3) (tB' (eBin dIn (eVar 3) (eVar 1))) (eVar 3) [3])) (eC (.int 0))))
def M__least_covering : FE := runE 4 3 m__least_covering
section
variable {P : Program} {w : World} {G : Gm} {mg : Str → Option Value} {base : Heap} {f : Addr} {fd : FuncData}
theorem ok24 (F : Fun G.K "_least_covering" "_least_covering" s24 f fd) (cm_16x3 : ClM P w G.K mg base 2 (G.cls "Table") "fitting" P16x3 (spE G 2 M_Table_fitting)) (cl_Table : Cls G.K (G.cls "Table")) : FnOk P w G.K mg base CX0 3 f fd P24 (spE G 3 M__least_covering) := by
  have nd := sc24.nd
  refine ok_E' F sc24 rfl rfl (fun cdv A outer s H E hr => ?_)
  refine ⟨_, (pss_one (ps_ret (pe_ix (k_ix G.K rfl (hu1 hr)) (pe_lc (own := [("label", 3)]) rfl nd (k_seq G.K rfl (pe_cm cm_16x3 cl_Table hr (by decide) (pv 0) (pa_cons (pv 2) pa_nil))) (blkOk_by (own := [("label", 3)]) (N := N24) (sc := defScope s24) (by decide +kernel)) (fun _ _ _ _ _ => (pg_name (i := 3) nd rfl (Or.inl rfl))) (fun _ _ _ _ _ => (pts_one (pt_cmpR (k_in G.K rfl (hu65 hr)) (pv 3) (pv 1) rfl))) (fun _ _ _ _ _ => (pv 3))) pe_int (fun _ _ => rfl)))), ?_⟩
  exact (sim_sret (sim_ix (SimN.e (sim_nlc (vs := [3]) (sim_iseq (sim_meth (c0 := "Table") sim_var (sim_acons sim_var sim_anil))) (sim_gname (i := 3)) (by decide) (sim_tTest (sim_in sim_var sim_var)) sim_var)) sim_int))
end
abbrev s23 : Stmt := topS 23
abbrev N23 : List Str := ["generic", "label", "other", "table", "nearer", "parts", "part"]
abbrev P23 : List Str := ["generic", "label", "other"]
theorem sc23 : FnScope N23 P23 (defScope s23) := ⟨rfl, rfl, rfl, by decide +kernel, rfl, by decide +kernel, by decide +kernel⟩
def m_cover : SS := (sSeq (sIf (tB' (eBin dIsNotN (eCall 3 M_meet (aCons (eVar 0) (aCons (eVar 1) (aCons (eVar 2) aNil)))) (eC .non))) (sRet (eC .non)) sNil)
    (sSeq (sSet 3 (eFr (nMk "Table" 2 M_Table___init__ (aCons (eVar 0) aNil))))
    (sSeq (sSet 4 (eBin dAdd (eBin dIx (eFld "Table" "nearer" (eVar 3)) (eVar 1)) (eBin dIx (eFld "Table" "nearer" (eVar 3)) (eVar 2))))
    (sSeq (sSet 5 (eCall 3 M_common (aCons (eFld "Table" "kinds" (eVar 3)) (aCons (eMeth "Table" "shape_of" 2 M_Table_shape_of (eVar 3) (aCons (eVar 1) aNil)) (aCons (eMeth "Table" "shape_of" 2 M_Table_shape_of (eVar 3) (aCons (eVar 2) aNil)) aNil)))))
    (sRet (eFr (nLc (iSq (eVar 5)) (bName 6) tYes' (eCall 3 M__least_covering (aCons (eVar 3) (aCons (eVar 4) (aCons (eVar 6) aNil)))) [6])))))))
def M_cover : FE := runE 7 3 m_cover
section
variable {P : Program} {w : World} {G : Gm} {mg : Str → Option Value} {base : Heap} {f : Addr} {fd : FuncData}
theorem ok23 (F : Fun G.K "cover" "cover" s23 f fd) (cm_16x2 : ClM P w G.K mg base 1 (G.cls "Table") "shape_of" P16x2 (spE G 2 M_Table_shape_of)) (c_24 : Cl P w G.K mg base 3 "_least_covering" P24 (spE G 3 M__least_covering)) (c_12 : Cl P w G.K mg base 2 "common" P12 (spE G 3 M_common)) (c_22 : Cl P w G.K mg base 5 "meet" P22 (spE G 3 M_meet)) (ci_16x0 : ClI P w G.K mg base 3 "Table" (G.cls "Table") P16x0 (spE G 2 M_Table___init__)) (cl_Table : Cls G.K (G.cls "Table")) (na_Table_kinds : NoAttr G.K (G.cls "Table") "kinds") (na_Table_nearer : NoAttr G.K (G.cls "Table") "nearer") : FnOk P w G.K mg base CX0 6 f fd P23 (spE G 3 M_cover) := by
  have nd := sc23.nd
  refine ok_E' F sc23 rfl rfl (fun cdv A outer s H E hr => ?_)
  refine ⟨_, (pss_cons (ps_if (pt_cmpR op_notN (pe_cl c_22 hr (by decide) (by rfl) (pa_cons (pv 0) (pa_cons (pv 1) (pa_cons (pv 2) pa_nil)))) pe_non (nomark _)) (pss_one (ps_ret pe_non)) pss_nil)
    (pss_cons (ps_set (i := 3) nd rfl (by first | exact Or.inl rfl | exact Or.inr rfl) (pe_mk ci_16x0 hr (by decide) (by rfl) (pa_cons (pv 0) pa_nil)))
    (pss_cons (ps_set (i := 4) nd rfl (by first | exact Or.inl rfl | exact Or.inr rfl) (pe_op (k_add G.K rfl) (pe_ix (k_ix G.K rfl (hu1 hr)) (k_fld G.K rfl (pv 3)) (pv 1) (fun _ _ => rfl)) (pe_ix (k_ix G.K rfl (hu1 hr)) (k_fld G.K rfl (pv 3)) (pv 2) (fun _ _ => rfl))))
    (pss_cons (ps_set (i := 5) nd rfl (by first | exact Or.inl rfl | exact Or.inr rfl) (pe_cl c_12 hr (by decide) (by rfl) (pa_cons (k_fld G.K rfl (pv 3)) (pa_cons (pe_cm cm_16x2 cl_Table hr (by decide) (pv 3) (pa_cons (pv 1) pa_nil)) (pa_cons (pe_cm cm_16x2 cl_Table hr (by decide) (pv 3) (pa_cons (pv 2) pa_nil)) pa_nil)))))
    (pss_one (ps_ret (pe_lc (own := [("part", 6)]) rfl nd (k_seq G.K rfl (pv 5)) (blkOk_by (own := [("part", 6)]) (N := N23) (sc := defScope s23) (by decide +kernel)) (fun _ _ _ _ _ => (pg_name (i := 6) nd rfl (Or.inl rfl))) (fun _ _ _ _ _ => pts_nil) (fun _ _ _ _ _ => (pe_cl c_24 hr (by decide) (by rfl) (pa_cons (pv 3) (pa_cons (pv 4) (pa_cons (pv 6) pa_nil)))))))))))), ?_⟩
  exact (sim_sseq (sim_sif (sim_tTest (sim_notN (sim_call (sim_acons sim_var (sim_acons sim_var (sim_acons sim_var sim_anil)))) sim_non)) (sim_sret sim_non) sim_snil)
    (sim_sseq (sim_sset (SimN.e (sim_mk (c0 := "Table") (sim_acons sim_var sim_anil))))
    (sim_sseq (sim_sset (sim_add (sim_ix (sim_fld (c0 := "Table") cl_Table na_Table_nearer sim_var) sim_var) (sim_ix (sim_fld (c0 := "Table") cl_Table na_Table_nearer sim_var) sim_var)))
    (sim_sseq (sim_sset (sim_call (sim_acons (sim_fld (c0 := "Table") cl_Table na_Table_kinds sim_var) (sim_acons (sim_meth (c0 := "Table") sim_var (sim_acons sim_var sim_anil)) (sim_acons (sim_meth (c0 := "Table") sim_var (sim_acons sim_var sim_anil)) sim_anil)))))
    (sim_sret (SimN.e (sim_nlc (vs := [6]) (sim_iseq sim_var) (sim_gname (i := 6)) (by decide) sim_tyes (sim_call (sim_acons sim_var (sim_acons sim_var (sim_acons sim_var sim_anil)))))))))))
end
abbrev s27 : Stmt := topS 27
abbrev N27 : List Str := ["_law_box_here", "_law_below", "_law_once", "_law_far", "_law_twice", "_law_drawn"]
abbrev P27 : List Str := ["_law_box_here", "_law_below"]
theorem sc27 : FnScope N27 P27 (defScope s27) := ⟨rfl, rfl, rfl, by decide +kernel, rfl, by decide +kernel, by decide +kernel⟩
def m_Ltake : SS := (sSeq (sIf (tB' (eBin dGt (eBin dIx (eVar 0) (eC (.int 0))) (eC (.int 0)))) (sSeq (sSet 5 (eBin dMod (eB dInt (aCons (eBin dIx (eVar 0) (eC (.int 0))) aNil)) (eVar 1)))
    (sSeq (sPut (eBin dDiv (eBin dIx (eVar 0) (eC (.int 0))) (eVar 1)) (eVar 0) (eC (.int 0)))
    (sRet (eVar 5)))) sNil)
    (sSeq (sPut (eBin dAdd (eBin dIx (eVar 0) (eC (.int 2))) (eC (.int 1))) (eVar 0) (eC (.int 2)))
    (sSeq (sSet 2 (eBin dMod (eB dInt (aCons (eBin dMul (eBin dAdd (eBin dIx (eVar 0) (eC (.int 1))) (eBin dMul (eC (.int 48271)) (eBin dIx (eVar 0) (eC (.int 2))))) (eBin dAdd (eC (.int 39373)) (eBin dIx (eVar 0) (eC (.int 2))))) aNil)) (eC (.int 2147483647))))
    (sSeq (sSet 3 (eBin dAdd (eBin dMod (eB dInt (aCons (eVar 2) aNil)) (eC (.int 40009))) (eC (.int 7))))
    (sSeq (sSet 4 (eBin dMod (eB dInt (aCons (eBin dMul (eBin dAdd (eBin dAdd (eVar 2) (eBin dIx (eVar 0) (eC (.int 2)))) (eBin dDiv (eBin dIx (eVar 0) (eC (.int 1))) (eC (.int 1000003)))) (eVar 3)) aNil)) (eC (.int 2147483629))))
    (sRet (eBin dMod (eB dInt (aCons (eBin dDiv (eBin dMod (eB dInt (aCons (eBin dAdd (eBin dMul (eVar 4) (eC (.int 48271))) (eVar 2)) aNil)) (eC (.int 2147483587))) (eC (.int 64))) aNil)) (eVar 1))))))))
def M_Ltake : FE := runE 6 2 m_Ltake
section
variable {P : Program} {w : World} {G : Gm} {mg : Str → Option Value} {base : Heap} {f : Addr} {fd : FuncData}
theorem ok27 (F : Fun G.K "_law_take" "_law_take" s27 f fd) (h_int : mg "int" = none) : FnOk P w G.K mg base CX0 1 f fd P27 (spE G 2 M_Ltake) := by
  have nd := sc27.nd
  refine ok_E' F sc27 rfl rfl (fun cdv A outer s H E hr => ?_)
  refine ⟨_, (pss_cons (ps_if (pt_cmpR op_gt (pe_ix (k_ix G.K rfl (hu1 hr)) (pv 0) pe_int (fun _ _ => rfl)) pe_int (nomark _)) (pss_cons (ps_set (i := 5) nd rfl (by first | exact Or.inl rfl | exact Or.inr rfl) (pe_op op_modN (pe_callTy call_int1 (by rfl) h_int bt_int (pa_cons (pe_ix (k_ix G.K rfl (hu1 hr)) (pv 0) pe_int (fun _ _ => rfl)) pa_nil)) (pv 1)))
    (pss_cons (ps_asg (pe_op op_fdivN (pe_ix (k_ix G.K rfl (hu1 hr)) (pv 0) pe_int (fun _ _ => rfl)) (pv 1)) (pg_sub (pv 0) pe_int (set_0 (hu1 hr))))
    (pss_one (ps_ret (pv 5))))) pss_nil)
    (pss_cons (ps_asg (pe_op (k_add G.K rfl) (pe_ix (k_ix G.K rfl (hu1 hr)) (pv 0) pe_int (fun _ _ => rfl)) pe_int) (pg_sub (pv 0) pe_int (set_0 (hu1 hr))))
    (pss_cons (ps_set (i := 2) nd rfl (by first | exact Or.inl rfl | exact Or.inr rfl) (pe_op op_modN (pe_callTy call_int1 (by rfl) h_int bt_int (pa_cons (pe_op op_mul0 (pe_op (k_add G.K rfl) (pe_ix (k_ix G.K rfl (hu1 hr)) (pv 0) pe_int (fun _ _ => rfl)) (pe_op op_mul0 pe_int (pe_ix (k_ix G.K rfl (hu1 hr)) (pv 0) pe_int (fun _ _ => rfl)))) (pe_op (k_add G.K rfl) pe_int (pe_ix (k_ix G.K rfl (hu1 hr)) (pv 0) pe_int (fun _ _ => rfl)))) pa_nil)) pe_int))
    (pss_cons (ps_set (i := 3) nd rfl (by first | exact Or.inl rfl | exact Or.inr rfl) (pe_op (k_add G.K rfl) (pe_op op_modN (pe_callTy call_int1 (by rfl) h_int bt_int (pa_cons (pv 2) pa_nil)) pe_int) pe_int))
    (pss_cons (ps_set (i := 4) nd rfl (by first | exact Or.inl rfl | exact Or.inr rfl) (pe_op op_modN (pe_callTy call_int1 (by rfl) h_int bt_int (pa_cons (pe_op op_mul0 (pe_op (k_add G.K rfl) (pe_op (k_add G.K rfl) (pv 2) (pe_ix (k_ix G.K rfl (hu1 hr)) (pv 0) pe_int (fun _ _ => rfl))) (pe_op op_fdivN (pe_ix (k_ix G.K rfl (hu1 hr)) (pv 0) pe_int (fun _ _ => rfl)) pe_int)) (pv 3)) pa_nil)) pe_int))
    (pss_one (ps_ret (pe_op op_modN (pe_callTy call_int1 (by rfl) h_int bt_int (pa_cons (pe_op op_fdivN (pe_op op_modN (pe_callTy call_int1 (by rfl) h_int bt_int (pa_cons (pe_op (k_add G.K rfl) (pe_op op_mul0 (pv 4) pe_int) (pv 2)) pa_nil)) pe_int) pe_int) pa_nil)) (pv 1))))))))), ?_⟩
  exact (sim_sseq (sim_sif (sim_tTest (sim_gt (sim_ix sim_var sim_int) sim_int)) (sim_sseq (sim_sset (sim_mod (sim_int' (sim_acons (sim_ix sim_var sim_int) sim_anil)) sim_var))
    (sim_sseq (sim_sput (sim_div (sim_ix sim_var sim_int) sim_var) sim_var sim_int)
    (sim_sret sim_var))) sim_snil)
    (sim_sseq (sim_sput (sim_add (sim_ix sim_var sim_int) sim_int) sim_var sim_int)
    (sim_sseq (sim_sset (sim_mod (sim_int' (sim_acons (sim_mul (sim_add (sim_ix sim_var sim_int) (sim_mul sim_int (sim_ix sim_var sim_int))) (sim_add sim_int (sim_ix sim_var sim_int))) sim_anil)) sim_int))
    (sim_sseq (sim_sset (sim_add (sim_mod (sim_int' (sim_acons sim_var sim_anil)) sim_int) sim_int))
    (sim_sseq (sim_sset (sim_mod (sim_int' (sim_acons (sim_mul (sim_add (sim_add sim_var (sim_ix sim_var sim_int)) (sim_div (sim_ix sim_var sim_int) sim_int)) sim_var) sim_anil)) sim_int))
    (sim_sret (sim_mod (sim_int' (sim_acons (sim_div (sim_mod (sim_int' (sim_acons (sim_add (sim_mul sim_var sim_int) sim_var) sim_anil)) sim_int) sim_int) sim_anil)) sim_var)))))))
end
abbrev s21 : Stmt := topS 21
abbrev N21 : List Str := ["table", "generic", "call"]
abbrev P21 : List Str := ["table", "generic"]
theorem sc21 : FnScope N21 P21 (defScope s21) := ⟨rfl, rfl, rfl, by decide +kernel, rfl, by decide +kernel, by decide +kernel⟩
def m__torn_calls : SS := (sRet (eFr (nLc (iSq (eFr (nCall 1 M_shapes (aCons (eVar 1) aNil)))) (bName 2) (tB' (eBin dGt (eB dLen (aCons (eMeth "Table" "nearest" 2 M_Table_nearest (eVar 0) (aCons (eVar 2) aNil)) aNil)) (eC (.int 1)))) (eVar 2) [2])))
def M__torn_calls : FE := runE 3 2 m__torn_calls
section
variable {P : Program} {w : World} {G : Gm} {mg : Str → Option Value} {base : Heap} {f : Addr} {fd : FuncData}
theorem ok21 (F : Fun G.K "_torn_calls" "_torn_calls" s21 f fd) (cm_16x4 : ClM P w G.K mg base 3 (G.cls "Table") "nearest" P16x4 (spE G 2 M_Table_nearest)) (c_11 : Cl P w G.K mg base 2 "shapes" P11 (spN G 1 M_shapes)) (h_len : mg "len" = none) (cl_Table : Cls G.K (G.cls "Table")) : FnOk P w G.K mg base CX0 4 f fd P21 (spE G 2 M__torn_calls) := by
  have nd := sc21.nd
  refine ok_E' F sc21 rfl rfl (fun cdv A outer s H E hr => ?_)
  refine ⟨_, (pss_one (ps_ret (pe_lc (own := [("call", 2)]) rfl nd (k_seq G.K rfl (pe_cl c_11 hr (by decide) (by rfl) (pa_cons (pv 1) pa_nil))) (blkOk_by (own := [("call", 2)]) (N := N21) (sc := defScope s21) (by decide +kernel)) (fun _ _ _ _ _ => (pg_name (i := 2) nd rfl (Or.inl rfl))) (fun _ _ _ _ _ => (pts_one (pt_cmpR op_gt (pe_callB (k_len G.K rfl) (by rfl) h_len bt_len (pa_cons (pe_cm cm_16x4 cl_Table hr (by decide) (pv 0) (pa_cons (pv 2) pa_nil)) pa_nil)) pe_int (nomark _)))) (fun _ _ _ _ _ => (pv 2))))), ?_⟩
  exact (sim_sret (SimN.e (sim_nlc (vs := [2]) (sim_iseq (SimN.e (sim_ncall (sim_acons sim_var sim_anil)))) (sim_gname (i := 2)) (by decide) (sim_tTest (sim_gt (sim_len (sim_acons (sim_meth (c0 := "Table") sim_var (sim_acons sim_var sim_anil)) sim_anil)) sim_int)) sim_var)))
end
abbrev s19 : Stmt := topS 19
abbrev N19 : List Str := ["generic"]
abbrev P19 : List Str := ["generic"]
theorem sc19 : FnScope N19 P19 (defScope s19) := ⟨rfl, rfl, rfl, by decide +kernel, rfl, by decide +kernel, by decide +kernel⟩
def m_torn : SS := (sRet (eCall 2 M__torn_calls (aCons (eFr (nMk "Table" 2 M_Table___init__ (aCons (eVar 0) aNil))) (aCons (eVar 0) aNil))))
def M_torn : FE := runE 1 1 m_torn
section
variable {P : Program} {w : World} {G : Gm} {mg : Str → Option Value} {base : Heap} {f : Addr} {fd : FuncData}
theorem ok19 (F : Fun G.K "torn" "torn" s19 f fd) (c_21 : Cl P w G.K mg base 4 "_torn_calls" P21 (spE G 2 M__torn_calls)) (ci_16x0 : ClI P w G.K mg base 3 "Table" (G.cls "Table") P16x0 (spE G 2 M_Table___init__)) (cl_Table : Cls G.K (G.cls "Table")) : FnOk P w G.K mg base CX0 5 f fd P19 (spE G 1 M_torn) := by
  have nd := sc19.nd
  refine ok_E' F sc19 rfl rfl (fun cdv A outer s H E hr => ?_)
  refine ⟨_, (pss_one (ps_ret (pe_cl c_21 hr (by decide) (by rfl) (pa_cons (pe_mk ci_16x0 hr (by decide) (by rfl) (pa_cons (pv 0) pa_nil)) (pa_cons (pv 0) pa_nil))))), ?_⟩
  exact (sim_sret (sim_call (sim_acons (SimN.e (sim_mk (c0 := "Table") (sim_acons sim_var sim_anil))) (sim_acons sim_var sim_anil))))
end
abbrev s6 : Stmt := topS 6
abbrev N6 : List Str := ["above", "found", "shape", "other"]
abbrev P6 : List Str := ["above", "found", "shape"]
theorem sc6 : FnScope N6 P6 (defScope s6) := ⟨rfl, rfl, rfl, by decide +kernel, rfl, by decide +kernel, by decide +kernel⟩
def m__is_below_another : SS := (sSeq (sFor (iSq (eVar 1)) (bName 3) (sIf (tAnd' (tB' (eBin dNe (eVar 3) (eVar 2))) (tTru (eCall 3 M_is_shape_below (aCons (eVar 0) (aCons (eVar 2) (aCons (eVar 3) aNil)))))) (sRet (eC (.bl true))) sNil))
    (sRet (eC (.bl false))))
def M__is_below_another : FE := runE 4 3 m__is_below_another
section
variable {P : Program} {w : World} {G : Gm} {mg : Str → Option Value} {base : Heap} {f : Addr} {fd : FuncData}
theorem ok6 (F : Fun G.K "_is_below_another" "_is_below_another" s6 f fd) (c_3 : Cl P w G.K mg base 1 "is_shape_below" P3 (spE G 3 M_is_shape_below)) : FnOk P w G.K mg base CX0 2 f fd P6 (spE G 3 M__is_below_another) := by
  have nd := sc6.nd
  refine ok_E' F sc6 rfl rfl (fun cdv A outer s H E hr => ?_)
  refine ⟨_, (pss_cons (ps_for PassesOwn.never rfl (k_seq G.K rfl (pv 1)) (pg_name (i := 3) nd rfl (by first | exact Or.inl rfl | exact Or.inr rfl)) (pss_one (ps_if (PW.pt (pw_and (pt_cmpR (k_ne G.K rfl (hu64 hr)) (pv 3) (pv 2) (nomark _)) (pw_and1 (k_truth G.K rfl (pe_cl c_3 hr (by decide) (by rfl) (pa_cons (pv 0) (pa_cons (pv 2) (pa_cons (pv 3) pa_nil)))) (fun _ => rfl))))) (pss_one (ps_ret pe_bl)) pss_nil)))
    (pss_one (ps_ret pe_bl))), ?_⟩
  exact (sim_sseq (sim_sfor (sim_iseq sim_var) (sim_gname (i := 3)) (sim_sif (sim_tAnd (sim_tTest (sim_ne sim_var sim_var)) (sim_tTru (sim_call (sim_acons sim_var (sim_acons sim_var (sim_acons sim_var sim_anil)))))) (sim_sret sim_bl) sim_snil))
    (sim_sret sim_bl))
end
abbrev s5 : Stmt := topS 5
abbrev N5 : List Str := ["above", "found", "shape"]
abbrev P5 : List Str := ["above", "found"]
theorem sc5 : FnScope N5 P5 (defScope s5) := ⟨rfl, rfl, rfl, by decide +kernel, rfl, by decide +kernel, by decide +kernel⟩
def m_greatest_shapes : SS := (sRet (eFr (nLc (iSq (eVar 1)) (bName 2) (tNot' (tTru (eCall 3 M__is_below_another (aCons (eVar 0) (aCons (eVar 1) (aCons (eVar 2) aNil)))))) (eVar 2) [2])))
def M_greatest_shapes : FE := runE 3 2 m_greatest_shapes
section
variable {P : Program} {w : World} {G : Gm} {mg : Str → Option Value} {base : Heap} {f : Addr} {fd : FuncData}
theorem ok5 (F : Fun G.K "greatest_shapes" "greatest_shapes" s5 f fd) (c_6 : Cl P w G.K mg base 2 "_is_below_another" P6 (spE G 3 M__is_below_another)) : FnOk P w G.K mg base CX0 3 f fd P5 (spE G 2 M_greatest_shapes) := by
  have nd := sc5.nd
  refine ok_E' F sc5 rfl rfl (fun cdv A outer s H E hr => ?_)
  refine ⟨_, (pss_one (ps_ret (pe_lc (own := [("shape", 2)]) rfl nd (k_seq G.K rfl (pv 1)) (blkOk_by (own := [("shape", 2)]) (N := N5) (sc := defScope s5) (by decide +kernel)) (fun _ _ _ _ _ => (pg_name (i := 2) nd rfl (Or.inl rfl))) (fun _ _ _ _ _ => (pts_one (pt_not (k_truth G.K rfl (pe_cl c_6 hr (by decide) (by rfl) (pa_cons (pv 0) (pa_cons (pv 1) (pa_cons (pv 2) pa_nil)))) (fun _ => rfl))))) (fun _ _ _ _ _ => (pv 2))))), ?_⟩
  exact (sim_sret (SimN.e (sim_nlc (vs := [2]) (sim_iseq sim_var) (sim_gname (i := 2)) (by decide) (sim_tNot (sim_tTru (sim_call (sim_acons sim_var (sim_acons sim_var (sim_acons sim_var sim_anil)))))) sim_var)))
end
abbrev s20 : Stmt := topS 20
abbrev N20 : List Str := ["generic", "table"]
abbrev P20 : List Str := ["generic"]
theorem sc20 : FnScope N20 P20 (defScope s20) := ⟨rfl, rfl, rfl, by decide +kernel, rfl, by decide +kernel, by decide +kernel⟩
def m_greatest_torn : SS := (sSeq (sSet 1 (eFr (nMk "Table" 2 M_Table___init__ (aCons (eVar 0) aNil))))
    (sRet (eCall 2 M_greatest_shapes (aCons (eFld "Table" "above" (eVar 1)) (aCons (eCall 2 M__torn_calls (aCons (eVar 1) (aCons (eVar 0) aNil))) aNil)))))
def M_greatest_torn : FE := runE 2 1 m_greatest_torn
section
variable {P : Program} {w : World} {G : Gm} {mg : Str → Option Value} {base : Heap} {f : Addr} {fd : FuncData}
theorem ok20 (F : Fun G.K "greatest_torn" "greatest_torn" s20 f fd) (c_21 : Cl P w G.K mg base 4 "_torn_calls" P21 (spE G 2 M__torn_calls)) (c_5 : Cl P w G.K mg base 3 "greatest_shapes" P5 (spE G 2 M_greatest_shapes)) (ci_16x0 : ClI P w G.K mg base 3 "Table" (G.cls "Table") P16x0 (spE G 2 M_Table___init__)) (cl_Table : Cls G.K (G.cls "Table")) (na_Table_above : NoAttr G.K (G.cls "Table") "above") : FnOk P w G.K mg base CX0 5 f fd P20 (spE G 1 M_greatest_torn) := by
  have nd := sc20.nd
  refine ok_E' F sc20 rfl rfl (fun cdv A outer s H E hr => ?_)
  refine ⟨_, (pss_cons (ps_set (i := 1) nd rfl (by first | exact Or.inl rfl | exact Or.inr rfl) (pe_mk ci_16x0 hr (by decide) (by rfl) (pa_cons (pv 0) pa_nil)))
    (pss_one (ps_ret (pe_cl c_5 hr (by decide) (by rfl) (pa_cons (k_fld G.K rfl (pv 1)) (pa_cons (pe_cl c_21 hr (by decide) (by rfl) (pa_cons (pv 1) (pa_cons (pv 0) pa_nil))) pa_nil)))))), ?_⟩
  exact (sim_sseq (sim_sset (SimN.e (sim_mk (c0 := "Table") (sim_acons sim_var sim_anil))))
    (sim_sret (sim_call (sim_acons (sim_fld (c0 := "Table") cl_Table na_Table_above sim_var) (sim_acons (sim_call (sim_acons sim_var (sim_acons sim_var sim_anil))) sim_anil)))))
end
abbrev s18 : Stmt := topS 18
abbrev N18 : List Str := ["generic", "call"]
abbrev P18 : List Str := ["generic", "call"]
theorem sc18 : FnScope N18 P18 (defScope s18) := ⟨rfl, rfl, rfl, by decide +kernel, rfl, by decide +kernel, by decide +kernel⟩
def m_nearest : SS := (sRet (eMeth "Table" "nearest" 2 M_Table_nearest (eFr (nMk "Table" 2 M_Table___init__ (aCons (eVar 0) aNil))) (aCons (eVar 1) aNil)))
def M_nearest : FE := runE 2 2 m_nearest
section
variable {P : Program} {w : World} {G : Gm} {mg : Str → Option Value} {base : Heap} {f : Addr} {fd : FuncData}
theorem ok18 (F : Fun G.K "nearest" "nearest" s18 f fd) (cm_16x4 : ClM P w G.K mg base 3 (G.cls "Table") "nearest" P16x4 (spE G 2 M_Table_nearest)) (ci_16x0 : ClI P w G.K mg base 3 "Table" (G.cls "Table") P16x0 (spE G 2 M_Table___init__)) (cl_Table : Cls G.K (G.cls "Table")) : FnOk P w G.K mg base CX0 5 f fd P18 (spE G 2 M_nearest) := by
  have nd := sc18.nd
  refine ok_E' F sc18 rfl rfl (fun cdv A outer s H E hr => ?_)
  refine ⟨_, (pss_one (ps_ret (pe_cm cm_16x4 cl_Table hr (by decide) (pe_mk ci_16x0 hr (by decide) (by rfl) (pa_cons (pv 0) pa_nil)) (pa_cons (pv 1) pa_nil)))), ?_⟩
  exact (sim_sret (sim_meth (c0 := "Table") (SimN.e (sim_mk (c0 := "Table") (sim_acons sim_var sim_anil))) (sim_acons sim_var sim_anil)))
end
abbrev s31 : Stmt := topS 31
abbrev N31 : List Str := ["_law_box_here", "_law_tops", "_law_methods", "_law_generic_so", "_law_due", "_law_pair", "_law_rows", "_law_book", "_law_closed", "_law_k", "_law_spot", "_law_parts", "_law_told", "_law_name", "_law_label_so", "_law_its", "_law_own"]
abbrev P31 : List Str := ["_law_box_here"]
theorem sc31 : FnScope N31 P31 (defScope s31) := ⟨rfl, rfl, rfl, by decide +kernel, rfl, by decide +kernel, by decide +kernel⟩
def m_Lright : SS := (sSeq (sFrz (sSeq (sSet 1 (eSl (eFr (nLst (aCons (eC (.str "a")) (aCons (eC (.str "b")) (aCons (eC (.str "c")) (aCons (eC (.str "d")) aNil)))))) oNone (oSome (eBin dAdd (eC (.int 2)) (eCall 2 M_Ltake (aCons (eVar 0) (aCons (eC (.int 3)) aNil)))))))
    (sSeq (sMul [6, 7, 8] (aNew (nLc (iSq (eVar 1)) (bName 16) tYes' (eTup (aCons (eVar 16) (aCons (eTup aNil) (aCons (eC (.bl false)) aNil)))) [16]) (aNew nDT (aNew (nLst aNil) aNil))))
    (sSeq (sNew 2 (nLc (iSq (eVar 1)) (bName 16) tYes' (eTup (aCons (eBin dAdd (eC (.str "m")) (eVar 16)) (aCons (eTup (aCons (eVar 16) aNil)) aNil))) [16]))
    (sSeq (sFor (iEn (aCons (eCall 1 M_Lpairs (aCons (eVar 1) aNil)) aNil)) (bSeq 2 (bCons (bName 9) (bCons (bName 5) bNil))) (sIf (tAnd' (tB' (eBin dLt (eB dLen (aCons (eVar 6) aNil)) (eC (.int 8)))) (tB' (eBin dGt (eCall 2 M_Ltake (aCons (eVar 0) (aCons (eC (.int 4)) aNil))) (eC (.int 0))))) (sSeq (sSet 13 (eBin dAdd (eC (.str "z")) (eBin dIx (eC (.str "uvwxyz")) (eVar 9))))
    (sSeq (sDrop (eApp (eVar 6) (eTup (aCons (eVar 13) (aCons (eVar 5) (aCons (eC (.bl false)) aNil))))))
    (sSeq (sPut (eVar 13) (eVar 7) (eVar 5))
    (sIf (tAnd' (tB' (eBin dEq (eCall 2 M_Ltake (aCons (eVar 0) (aCons (eC (.int 3)) aNil))) (eC (.int 0)))) (tB' (eBin dLt (eB dLen (aCons (eVar 2) aNil)) (eC (.int 7))))) (sSeq (sDrop (eApp (eVar 2) (eTup (aCons (eBin dAdd (eC (.str "w")) (eBin dIx (eC (.str "uvwxyz")) (eVar 9))) (aCons (eTup (aCons (eVar 13) aNil)) aNil)))))
    (sDrop (eApp (eVar 8) (eVar 5)))) sNil)))) sNil))
    (sSet 3 (eTup (aCons (eB dTuple (aCons (eVar 6) aNil)) (aCons (eC (.int 1)) (aCons (eB dTuple (aCons (eFr (nB dSort3 (aCons (eVar 2) aNil))) aNil)) aNil))))))))))
    (sSeq (sSet 4 (eFr (nB dSort3 (aCons (eFr (nLc (iKyT (eVar 7)) (bName 5) (tB' (eBin dNotIn (eVar 5) (eVar 8))) (eTup (aCons (eBin dIx (eVar 7) (eVar 5)) aNil)) [5])) aNil))))
    (sSeq (sIf (tNot' (tTru (eCall 2 (M_Lsame 10) (aCons (eFr (nLst (aCons (eCall 1 M_torn (aCons (eVar 3) aNil)) (aCons (eCall 1 M_greatest_torn (aCons (eVar 3) aNil)) aNil)))) (aCons (eFr (nLst (aCons (eVar 4) (aCons (eVar 4) aNil)))) aNil))))) (sRet (eC (.bl false))) sNil)
    (sSeq (sFor (iSq (eCall 1 M_Lpairs (aCons (eVar 1) aNil))) (bName 5) (sSeq (sMul [14, 15] (aCons (eBin dAdd (eC (.str "m")) (eBin dIx (eVar 5) (eC (.int 0)))) (aCons (eBin dAdd (eC (.str "m")) (eBin dIx (eVar 5) (eC (.int 1)))) aNil)))
    (sSeq (sSet 10 (eIf (tAnd' (tB' (eBin dIn (eVar 5) (eVar 7))) (tB' (eBin dNotIn (eVar 5) (eVar 8)))) (eTup (aCons (eBin dIx (eVar 7) (eVar 5)) aNil)) (eC .non)))
    (sSeq (sSet 11 (eIf (tB' (eBin dIn (eVar 5) (eVar 8))) (eFr (nLst (aCons (eBin dAdd (eC (.str "w")) (eBin dIx (eBin dIx (eVar 7) (eVar 5)) (eC (.int 1)))) aNil))) (eFr (nLst aNil))))
    (sSeq (sSet 12 (eFr (nLst (aCons (eCall 3 M_meet (aCons (eVar 3) (aCons (eVar 14) (aCons (eVar 15) aNil)))) (aCons (eCall 3 M_cover (aCons (eVar 3) (aCons (eVar 15) (aCons (eVar 14) aNil)))) aNil)))))
    (sSeq (sIf (tNot' (tTru (eCall 2 (M_Lsame 10) (aCons (eVar 12) (aCons (eFr (nLst (aCons (eVar 10) (aCons (eIf (tB' (eBin dIsN (eVar 10) (eC .non))) (eVar 11) (eC .non)) aNil)))) aNil))))) (sRet (eC (.bl false))) sNil)
    (sIf (tAnd' (tB' (eBin dIsNotN (eVar 10) (eC .non))) (tNot' (tTru (eCall 2 (M_Lsame 10) (aCons (eCall 2 M_nearest (aCons (eVar 3) (aCons (eVar 10) aNil))) (aCons (eFr (nLst (aCons (eVar 14) (aCons (eVar 15) aNil)))) aNil)))))) (sRet (eC (.bl false))) sNil)))))))
    (sRet (eC (.bl true)))))))
def M_Lright : FE := runE 17 1 m_Lright
section
variable {P : Program} {w : World} {G : Gm} {mg : Str → Option Value} {base : Heap} {f : Addr} {fd : FuncData}
theorem ok31 (F : Fun G.K "_law_right" "_law_right" s31 f fd) (c_30 : Cl P w G.K mg base 1 "_law_pairs" P30 (spE G 1 M_Lpairs)) (c_29 : Cl P w G.K mg base 11 "_law_same" P29 (spE G 2 (M_Lsame 10))) (c_27 : Cl P w G.K mg base 1 "_law_take" P27 (spE G 2 M_Ltake)) (c_23 : Cl P w G.K mg base 6 "cover" P23 (spE G 3 M_cover)) (c_20 : Cl P w G.K mg base 5 "greatest_torn" P20 (spE G 1 M_greatest_torn)) (c_22 : Cl P w G.K mg base 5 "meet" P22 (spE G 3 M_meet)) (c_18 : Cl P w G.K mg base 5 "nearest" P18 (spE G 2 M_nearest)) (c_19 : Cl P w G.K mg base 5 "torn" P19 (spE G 1 M_torn)) (h_enumerate : mg "enumerate" = none) (h_len : mg "len" = none) (h_sorted : mg "sorted" = none) (h_tuple : mg "tuple" = none) : FnOk P w G.K mg base CX0 12 f fd P31 (spE G 1 M_Lright) := by
  have nd := sc31.nd
  refine ok_E' F sc31 rfl rfl (fun cdv A outer s H E hr => ?_)
  refine ⟨_, (pss_cons (ps_set (i := 1) nd rfl (by first | exact Or.inl rfl | exact Or.inr rfl) (pe_slice (k_sl G.K rfl) (pe_lst (pa_cons pe_str (pa_cons pe_str (pa_cons pe_str (pa_cons pe_str pa_nil))))) po_none (po_some (pe_op (k_add G.K rfl) pe_int (pe_cl c_27 hr (by decide) (by rfl) (pa_cons (pv 0) (pa_cons pe_int pa_nil)))))))
    (pss_cons (ps_asg (pe_tup (pa_cons (pe_lc (own := [("_law_own", 16)]) rfl nd (k_seq G.K rfl (pv 1)) (blkOk_by (own := [("_law_own", 16)]) (N := N31) (sc := defScope s31) (by decide +kernel)) (fun _ _ _ _ _ => (pg_name (i := 16) nd rfl (Or.inl rfl))) (fun _ _ _ _ _ => pts_nil) (fun _ _ _ _ _ => (pe_tup (pa_cons (pv 16) (pa_cons (pe_tup pa_nil) (pa_cons pe_bl pa_nil)))))) (pa_cons pe_dnewT (pa_cons (pe_lst pa_nil) pa_nil)))) (k_gseq G.K rfl (n := 3) rfl (pgs_cons (pg_name (i := 6) nd rfl (by first | exact Or.inl rfl | exact Or.inr rfl)) (pgs_cons (pg_name (i := 7) nd rfl (by first | exact Or.inl rfl | exact Or.inr rfl)) (pgs_cons (pg_name (i := 8) nd rfl (by first | exact Or.inl rfl | exact Or.inr rfl)) pgs_nil)))))
    (pss_cons (ps_setLc (i := 2) (own := [("_law_own", 16)]) rfl nd rfl rfl (sw_true rfl rfl rfl (by decide +kernel)) (k_seq G.K rfl (pv 1)) (blkOk_by (own := [("_law_own", 16)]) (N := N31) (sc := defScope s31) (by decide +kernel)) (fun _ _ _ _ _ => (pg_name (i := 16) nd rfl (Or.inl rfl))) (fun _ _ _ _ _ => pts_nil) (fun _ _ _ _ _ => (pe_tup (pa_cons (pe_op (k_add G.K rfl) pe_str (pv 16)) (pa_cons (pe_tup (pa_cons (pv 16) pa_nil)) pa_nil)))))
    (pss_cons (ps_for PassesOwn.never rfl (k_enum G.K rfl (by rfl) h_enumerate (pa_cons (pe_cl c_30 hr (by decide) (by rfl) (pa_cons (pv 1) pa_nil)) pa_nil)) (k_gseq G.K rfl (n := 2) rfl (pgs_cons (pg_name (i := 9) nd rfl (by first | exact Or.inl rfl | exact Or.inr rfl)) (pgs_cons (pg_name (i := 5) nd rfl (by first | exact Or.inl rfl | exact Or.inr rfl)) pgs_nil))) (pss_one (ps_if (PW.pt (pw_and (pt_cmpR op_lt (pe_callB (k_len G.K rfl) (by rfl) h_len bt_len (pa_cons (pv 6) pa_nil)) pe_int (nomark _)) (pw_and1 (pt_cmpR op_gt (pe_cl c_27 hr (by decide) (by rfl) (pa_cons (pv 0) (pa_cons pe_int pa_nil))) pe_int (nomark _))))) (pss_cons (ps_set (i := 13) nd rfl (by first | exact Or.inl rfl | exact Or.inr rfl) (pe_op (k_add G.K rfl) pe_str (pe_ix (k_ix G.K rfl (hu1 hr)) pe_str (pv 9) (fun _ _ => rfl))))
    (pss_cons (ps_expr (pe_bm PySem.F.plainAttrs_list PySem.F.slot_list_append PySem.F.type_list_append mt_append (pv 6) (pa_cons (pe_tup (pa_cons (pv 13) (pa_cons (pv 5) (pa_cons pe_bl pa_nil)))) pa_nil)))
    (pss_cons (ps_asg (pv 13) (pg_sub (pv 7) (pv 5) (set_0 (hu1 hr))))
    (pss_one (ps_if (PW.pt (pw_and (pt_cmpR (k_eq G.K rfl (hu64 hr)) (pe_cl c_27 hr (by decide) (by rfl) (pa_cons (pv 0) (pa_cons pe_int pa_nil))) pe_int (nomark _)) (pw_and1 (pt_cmpR op_lt (pe_callB (k_len G.K rfl) (by rfl) h_len bt_len (pa_cons (pv 2) pa_nil)) pe_int (nomark _))))) (pss_cons (ps_expr (pe_bm PySem.F.plainAttrs_list PySem.F.slot_list_append PySem.F.type_list_append mt_append (pv 2) (pa_cons (pe_tup (pa_cons (pe_op (k_add G.K rfl) pe_str (pe_ix (k_ix G.K rfl (hu1 hr)) pe_str (pv 9) (fun _ _ => rfl))) (pa_cons (pe_tup (pa_cons (pv 13) pa_nil)) pa_nil))) pa_nil)))
    (pss_one (ps_expr (pe_bm PySem.F.plainAttrs_list PySem.F.slot_list_append PySem.F.type_list_append mt_append (pv 8) (pa_cons (pv 5) pa_nil))))) pss_nil))))) pss_nil)))
    (pss_cons (ps_set (i := 3) nd rfl (by first | exact Or.inl rfl | exact Or.inr rfl) (pe_tup (pa_cons (pe_callTy (k_tuple G.K rfl) (by rfl) h_tuple bt_tuple (pa_cons (pv 6) pa_nil)) (pa_cons pe_int (pa_cons (pe_callTy (k_tuple G.K rfl) (by rfl) h_tuple bt_tuple (pa_cons (pe_callB (k_sort2 G.K rfl rfl (hu64 hr)) (by rfl) h_sorted bt_sorted (pa_cons (pv 2) pa_nil)) pa_nil)) pa_nil)))))
    (pss_cons (ps_set (i := 4) nd rfl (by first | exact Or.inl rfl | exact Or.inr rfl) (pe_callB (k_sort2 G.K rfl rfl (hu64 hr)) (by rfl) h_sorted bt_sorted (pa_cons (pe_lockA (pe_lc (own := [("_law_pair", 5)]) rfl nd (pi_keys (pv 7)) (blkOk_by (own := [("_law_pair", 5)]) (N := N31) (sc := defScope s31) (by decide +kernel)) (fun _ _ _ _ _ => (pg_name (i := 5) nd rfl (Or.inl rfl))) (fun _ _ _ _ _ => (pts_one (pt_cmpR (k_notIn G.K rfl (hu65 hr)) (pv 5) (pv 8) rfl))) (fun _ _ _ _ _ => (pe_tup (pa_cons (pe_ix (k_ix G.K rfl (hu1 hr)) (pv 7) (pv 5) (fun _ _ => rfl)) pa_nil))))) pa_nil)))
    (pss_cons (ps_if (pt_not (k_truth G.K rfl (pe_cl c_29 hr (by decide) (by rfl) (pa_cons (pe_lst (pa_cons (pe_cl c_19 hr (by decide) (by rfl) (pa_cons (pv 3) pa_nil)) (pa_cons (pe_cl c_20 hr (by decide) (by rfl) (pa_cons (pv 3) pa_nil)) pa_nil))) (pa_cons (pe_lst (pa_cons (pv 4) (pa_cons (pv 4) pa_nil))) pa_nil))) (fun _ => rfl))) (pss_one (ps_ret pe_bl)) pss_nil)
    (pss_cons (ps_for PassesOwn.never rfl (k_seq G.K rfl (pe_cl c_30 hr (by decide) (by rfl) (pa_cons (pv 1) pa_nil))) (pg_name (i := 5) nd rfl (by first | exact Or.inl rfl | exact Or.inr rfl)) (pss_cons (ps_par (i := 14) (j := 15) rfl nd rfl rfl (by decide) rfl rfl (pa_cons (pe_op (k_add G.K rfl) pe_str (pe_ix (k_ix G.K rfl (hu1 hr)) (pv 5) pe_int (fun _ _ => rfl))) (pa_cons (pe_op (k_add G.K rfl) pe_str (pe_ix (k_ix G.K rfl (hu1 hr)) (pv 5) pe_int (fun _ _ => rfl))) pa_nil)) rfl)
    (pss_cons (ps_set (i := 10) nd rfl (by first | exact Or.inl rfl | exact Or.inr rfl) (pe_ifExp (PW.pt (pw_and (pt_cmpR (k_in G.K rfl (hu65 hr)) (pv 5) (pv 7) rfl) (pw_and1 (pt_cmpR (k_notIn G.K rfl (hu65 hr)) (pv 5) (pv 8) rfl)))) (pe_tup (pa_cons (pe_ix (k_ix G.K rfl (hu1 hr)) (pv 7) (pv 5) (fun _ _ => rfl)) pa_nil)) pe_non))
    (pss_cons (ps_set (i := 11) nd rfl (by first | exact Or.inl rfl | exact Or.inr rfl) (pe_ifExp (pt_cmpR (k_in G.K rfl (hu65 hr)) (pv 5) (pv 8) rfl) (pe_lst (pa_cons (pe_op (k_add G.K rfl) pe_str (pe_ix (k_ix G.K rfl (hu1 hr)) (pe_ix (k_ix G.K rfl (hu1 hr)) (pv 7) (pv 5) (fun _ _ => rfl)) pe_int (fun _ _ => rfl))) pa_nil)) (pe_lst pa_nil)))
    (pss_cons (ps_set (i := 12) nd rfl (by first | exact Or.inl rfl | exact Or.inr rfl) (pe_lst (pa_cons (pe_cl c_22 hr (by decide) (by rfl) (pa_cons (pv 3) (pa_cons (pv 14) (pa_cons (pv 15) pa_nil)))) (pa_cons (pe_cl c_23 hr (by decide) (by rfl) (pa_cons (pv 3) (pa_cons (pv 15) (pa_cons (pv 14) pa_nil)))) pa_nil))))
    (pss_cons (ps_if (pt_not (k_truth G.K rfl (pe_cl c_29 hr (by decide) (by rfl) (pa_cons (pv 12) (pa_cons (pe_lst (pa_cons (pv 10) (pa_cons (pe_ifExp (pt_cmpR op_isN (pv 10) pe_non (nomark _)) (pv 11) pe_non) pa_nil))) pa_nil))) (fun _ => rfl))) (pss_one (ps_ret pe_bl)) pss_nil)
    (pss_one (ps_if (PW.pt (pw_and (pt_cmpR op_notN (pv 10) pe_non (nomark _)) (pw_and1 (pt_not (k_truth G.K rfl (pe_cl c_29 hr (by decide) (by rfl) (pa_cons (pe_cl c_18 hr (by decide) (by rfl) (pa_cons (pv 3) (pa_cons (pv 10) pa_nil))) (pa_cons (pe_lst (pa_cons (pv 14) (pa_cons (pv 15) pa_nil))) pa_nil))) (fun _ => rfl)))))) (pss_one (ps_ret pe_bl)) pss_nil))))))))
    (pss_one (ps_ret pe_bl)))))))))), ?_⟩
  exact (sim_frz5 (sim_sseq (sim_sset (sim_sl (SimN.e (sim_nlst (sim_acons sim_str (sim_acons sim_str (sim_acons sim_str (sim_acons sim_str sim_anil)))))) sim_onone (sim_osome (sim_add sim_int (sim_call (sim_acons sim_var (sim_acons sim_int sim_anil)))))))
    (sim_sseq (sim_smul (is := [6, 7, 8]) (sim_agnew (sim_nlc (vs := [16]) (sim_iseq sim_var) (sim_gname (i := 16)) (by decide) sim_tyes (sim_tup (sim_acons sim_var (sim_acons (sim_tup sim_anil) (sim_acons sim_bl sim_anil))))) (sim_agnew sim_ndt (sim_agnew (sim_nlst sim_anil) sim_agnil))) rfl (by decide))
    (sim_sseq (sim_snew (sim_nlc (vs := [16]) (sim_iseq sim_var) (sim_gname (i := 16)) (by decide) sim_tyes (sim_tup (sim_acons (sim_add sim_str sim_var) (sim_acons (sim_tup (sim_acons sim_var sim_anil)) sim_anil)))))
    (sim_sseq (sim_sfor (sim_ien (sim_acons (sim_call (sim_acons sim_var sim_anil)) sim_anil)) (sim_gseq (sim_gcons (sim_gname (i := 9)) (sim_gcons (sim_gname (i := 5)) sim_gnil))) (sim_sif (sim_tAnd (sim_tTest (sim_lt (sim_len (sim_acons sim_var sim_anil)) sim_int)) (sim_tTest (sim_gt (sim_call (sim_acons sim_var (sim_acons sim_int sim_anil))) sim_int))) (sim_sseq (sim_sset (sim_add sim_str (sim_ix sim_str sim_var)))
    (sim_sseq (sim_sdrop (sim_app sim_var (sim_tup (sim_acons sim_var (sim_acons sim_var (sim_acons sim_bl sim_anil))))))
    (sim_sseq (sim_sput sim_var sim_var sim_var)
    (sim_sif (sim_tAnd (sim_tTest (sim_eq (sim_call (sim_acons sim_var (sim_acons sim_int sim_anil))) sim_int)) (sim_tTest (sim_lt (sim_len (sim_acons sim_var sim_anil)) sim_int))) (sim_sseq (sim_sdrop (sim_app sim_var (sim_tup (sim_acons (sim_add sim_str (sim_ix sim_str sim_var)) (sim_acons (sim_tup (sim_acons sim_var sim_anil)) sim_anil)))))
    (sim_sdrop (sim_app sim_var sim_var))) sim_snil)))) sim_snil))
    (sim_sset (sim_tup (sim_acons (sim_tuple (sim_acons sim_var sim_anil)) (sim_acons sim_int (sim_acons (sim_tuple (sim_acons (SimN.e (sim_nsort3 (sim_acons sim_var sim_anil))) sim_anil)) sim_anil)))))))))
    (sim_sseq (sim_sset (SimN.e (sim_nsort3 (sim_acons (SimN.e (sim_nlckT (vs := [5]) simp_var (sim_gname (i := 5)) (by decide) (sim_tTest (sim_notIn sim_var sim_var)) (sim_tup (sim_acons (sim_ix sim_var sim_var) sim_anil)))) sim_anil))))
    (sim_sseq (sim_sif (sim_tNot (sim_tTru (sim_call (sim_acons (SimN.e (sim_nlst (sim_acons (sim_call (sim_acons sim_var sim_anil)) (sim_acons (sim_call (sim_acons sim_var sim_anil)) sim_anil)))) (sim_acons (SimN.e (sim_nlst (sim_acons sim_var (sim_acons sim_var sim_anil)))) sim_anil))))) (sim_sret sim_bl) sim_snil)
    (sim_sseq (sim_sfor (sim_iseq (sim_call (sim_acons sim_var sim_anil))) (sim_gname (i := 5)) (sim_sseq (sim_spar (sim_agcons (sim_add sim_str (sim_ix sim_var sim_int)) (sim_agcons (sim_add sim_str (sim_ix sim_var sim_int)) sim_agnil)))
    (sim_sseq (sim_sset (sim_tIf (sim_tAnd (sim_tTest (sim_in sim_var sim_var)) (sim_tTest (sim_notIn sim_var sim_var))) (sim_tup (sim_acons (sim_ix sim_var sim_var) sim_anil)) sim_non))
    (sim_sseq (sim_sset (sim_tIf (sim_tTest (sim_in sim_var sim_var)) (SimN.e (sim_nlst (sim_acons (sim_add sim_str (sim_ix (sim_ix sim_var sim_var) sim_int)) sim_anil))) (SimN.e (sim_nlst sim_anil))))
    (sim_sseq (sim_sset (SimN.e (sim_nlst (sim_acons (sim_call (sim_acons sim_var (sim_acons sim_var (sim_acons sim_var sim_anil)))) (sim_acons (sim_call (sim_acons sim_var (sim_acons sim_var (sim_acons sim_var sim_anil)))) sim_anil)))))
    (sim_sseq (sim_sif (sim_tNot (sim_tTru (sim_call (sim_acons sim_var (sim_acons (SimN.e (sim_nlst (sim_acons sim_var (sim_acons (sim_tIf (sim_tTest (sim_isN sim_var sim_non)) sim_var sim_non) sim_anil)))) sim_anil))))) (sim_sret sim_bl) sim_snil)
    (sim_sif (sim_tAnd (sim_tTest (sim_notN sim_var sim_non)) (sim_tNot (sim_tTru (sim_call (sim_acons (sim_call (sim_acons sim_var (sim_acons sim_var sim_anil))) (sim_acons (SimN.e (sim_nlst (sim_acons sim_var (sim_acons sim_var sim_anil)))) sim_anil)))))) (sim_sret sim_bl) sim_snil)))))))
    (sim_sret sim_bl)))))
end
abbrev s26 : Stmt := topS 26
abbrev N26 : List Str := ["_law_script", "_law_k", "_law_cell"]
abbrev P26 : List Str := ["_law_script", "_law_k"]
theorem sc26 : FnScope N26 P26 (defScope s26) := ⟨rfl, rfl, rfl, by decide +kernel, rfl, by decide +kernel, by decide +kernel⟩
def m_Lbox : SS := (sSeq (sSet 2 (eIf (tB' (eBin dLt (eVar 1) (eB dLen (aCons (eVar 0) aNil)))) (eBin dIx (eVar 0) (eVar 1)) (eC (.int 0))))
    (sRetNew (nLst (aCons (eBin dMul (eB dAbs (aCons (eVar 2) aNil)) (eB dInt (aCons (eBin dGe (eB dAbs (aCons (eVar 2) aNil)) (eBin dPow (eC (.int 10)) (eC (.int 18)))) aNil))) (aCons (eBin dAdd (eBin dAdd (eBin dMod (eB dInt (aCons (eVar 2) aNil)) (eC (.int 2305843009213693951))) (eBin dMul (eC (.int 39373)) (eVar 1))) (eC (.int 103))) (aCons (eC (.int 0)) aNil))))))
def M_Lbox : FN := runN 3 2 m_Lbox
section
variable {P : Program} {w : World} {G : Gm} {mg : Str → Option Value} {base : Heap} {f : Addr} {fd : FuncData}
theorem ok26 (F : Fun G.K "_law_box" "_law_box" s26 f fd) (h_abs : mg "abs" = none) (h_int : mg "int" = none) (h_len : mg "len" = none) : FnOk P w G.K mg base CX0 1 f fd P26 (spN G 2 M_Lbox) := by
  have nd := sc26.nd
  refine ok_N' F sc26 rfl rfl (fun cdv A outer s H E hr => ?_)
  refine ⟨_, (pss_cons (ps_set (i := 2) nd rfl (by first | exact Or.inl rfl | exact Or.inr rfl) (pe_ifExp (pt_cmpR op_lt (pv 1) (pe_callB (k_len G.K rfl) (by rfl) h_len bt_len (pa_cons (pv 0) pa_nil)) (nomark _)) (pe_ix (k_ix G.K rfl (hu1 hr)) (pv 0) (pv 1) (fun _ _ => rfl)) pe_int))
    (pss_one (ps_ret (pe_lst (pa_cons (pe_op op_mul0 (pe_callB call_abs (by rfl) h_abs bt_abs (pa_cons (pv 2) pa_nil)) (pe_callTy call_int1 (by rfl) h_int bt_int (pa_cons (pe_cmpR op_ge (pe_callB call_abs (by rfl) h_abs bt_abs (pa_cons (pv 2) pa_nil)) (pe_op op_pow pe_int pe_int) (nomark _)) pa_nil))) (pa_cons (pe_op (k_add G.K rfl) (pe_op (k_add G.K rfl) (pe_op op_modN (pe_callTy call_int1 (by rfl) h_int bt_int (pa_cons (pv 2) pa_nil)) pe_int) (pe_op op_mul0 pe_int (pv 1))) pe_int) (pa_cons pe_int pa_nil))))))), ?_⟩
  exact (sim_sseq (sim_sset (sim_tIf (sim_tTest (sim_lt sim_var (sim_len (sim_acons sim_var sim_anil)))) (sim_ix sim_var sim_var) sim_int))
    (sim_sretnew (sim_nlst (sim_acons (sim_mul (sim_abs (sim_acons sim_var sim_anil)) (sim_int' (sim_acons (sim_ge (sim_abs (sim_acons sim_var sim_anil)) (sim_pow sim_int sim_int)) sim_anil))) (sim_acons (sim_add (sim_add (sim_mod (sim_int' (sim_acons sim_var sim_anil)) sim_int) (sim_mul sim_int sim_var)) sim_int) (sim_acons sim_int sim_anil))))))
end
abbrev s32 : Stmt := topS 32
abbrev N32 : List Str := ["_law_script", "_law_cells_here", "_law_k"]
abbrev P32 : List Str := ["_law_script"]
theorem sc32 : FnScope N32 P32 (defScope s32) := ⟨rfl, rfl, rfl, by decide +kernel, rfl, by decide +kernel, by decide +kernel⟩
def m_law : SS := (sSeq (sSet 1 (eCall 2 M_Lcells (aCons (eVar 0) (aCons (eC (.int 3)) aNil))))
    (sRet (eB dAll (aCons (eFr (nLc (iRg1 (aCons (eB dLen (aCons (eVar 1) aNil)) aNil)) (bName 2) tYes' (eCallG 1 M_Lright (aNew (nCall 2 M_Lbox (aCons (eVar 1) (aCons (eVar 2) aNil))) aNil)) [2])) aNil))))
def M_law : FE := runE 3 1 m_law
section
variable {P : Program} {w : World} {G : Gm} {mg : Str → Option Value} {base : Heap} {f : Addr} {fd : FuncData}
theorem ok32 (F : Fun G.K "law" "law" s32 f fd) (c_26 : Cl P w G.K mg base 1 "_law_box" P26 (spN G 2 M_Lbox)) (c_28 : Cl P w G.K mg base 1 "_law_cells" P28 (spE G 2 M_Lcells)) (c_31 : Cl P w G.K mg base 12 "_law_right" P31 (spE G 1 M_Lright)) (h_all : mg "all" = none) (h_len : mg "len" = none) (h_range : mg "range" = none) : FnOk P w G.K mg base CX0 13 f fd P32 (spE G 1 M_law) := by
  have nd := sc32.nd
  refine ok_E' F sc32 rfl rfl (fun cdv A outer s H E hr => ?_)
  refine ⟨_, (pss_cons (ps_set (i := 1) nd rfl (by first | exact Or.inl rfl | exact Or.inr rfl) (pe_cl c_28 hr (by decide) (by rfl) (pa_cons (pv 0) (pa_cons pe_int pa_nil))))
    (pss_one (ps_ret (pe_callB (k_all G.K rfl rfl) (by rfl) h_all bt_all (pa_cons (pe_lc (own := [("_law_k", 2)]) rfl nd (pi_range1 (by rfl) h_range (pa_cons (pe_callB (k_len G.K rfl) (by rfl) h_len bt_len (pa_cons (pv 1) pa_nil)) pa_nil)) (blkOk_by (own := [("_law_k", 2)]) (N := N32) (sc := defScope s32) (by decide +kernel)) (fun _ _ _ _ _ => (pg_name (i := 2) nd rfl (Or.inl rfl))) (fun _ _ _ _ _ => pts_nil) (fun _ _ _ _ _ => (pe_cl c_31 hr (by decide) (by rfl) (pa_cons (pe_cl c_26 hr (by decide) (by rfl) (pa_cons (pv 1) (pa_cons (pv 2) pa_nil))) pa_nil)))) pa_nil))))), ?_⟩
  exact (sim_sseq (sim_sset (sim_call (sim_acons sim_var (sim_acons sim_int sim_anil))))
    (sim_sret (sim_all (sim_acons (SimN.e (sim_nlc (vs := [2]) (sim_irg1 (sim_acons (sim_len (sim_acons sim_var sim_anil)) sim_anil)) (sim_gname (i := 2)) (by decide) sim_tyes (sim_callG (sim_agnew (sim_ncall (sim_acons sim_var (sim_acons sim_var sim_anil))) sim_agnil)))) sim_anil))))
end
set_option maxHeartbeats 4000000 in
theorem all_mk {l : PySem.W.OpenLaw} {w : World} {K : PySem.W.Frag} {h : Heap} {mg : Str → Option Value} {fa f28 f30 f29 f2 f3 f16x1 f16x0 f16x2 f7 f11 f16x3 f16x4 f22 f4 f12 f24 f23 f27 f21 f19 f6 f5 f20 f18 f31 f26 f32 CT_Table : Addr} (X : K.In h) (G0 : h.Ns mainGlobals mg) (hfa : mg "law" = some (.ref fa))
  {od28 an28 : Option Addr} {sl28 : Array (Option Value)} {oc28 kv28 dc28 pm28 cd28 ct28 : Value}
  (a28 : PySem.W.nsIn K mainGlobals "_law_cells" = some (some (.ref f28)))
  (l28 : K.lookup f28 = some ⟨oc28, od28, .func (PySem.W.fnOf "_law_cells" "_law_cells" (defArgs s28) (defBody s28) (defScope s28) .none kv28 dc28 pm28 an28 cd28 ct28), sl28⟩)
  (c28 : PySem.W.codeIn K cd28 "_law_cells" = true) (k28 : PySem.W.keepIn K (.ref f28) = true)
  {od30 an30 : Option Addr} {sl30 : Array (Option Value)} {oc30 kv30 dc30 pm30 cd30 ct30 : Value}
  (a30 : PySem.W.nsIn K mainGlobals "_law_pairs" = some (some (.ref f30)))
  (l30 : K.lookup f30 = some ⟨oc30, od30, .func (PySem.W.fnOf "_law_pairs" "_law_pairs" (defArgs s30) (defBody s30) (defScope s30) .none kv30 dc30 pm30 an30 cd30 ct30), sl30⟩)
  (c30 : PySem.W.codeIn K cd30 "_law_pairs" = true) (k30 : PySem.W.keepIn K (.ref f30) = true)
  {od29 an29 : Option Addr} {sl29 : Array (Option Value)} {oc29 kv29 dc29 pm29 cd29 ct29 : Value}
  (a29 : PySem.W.nsIn K mainGlobals "_law_same" = some (some (.ref f29)))
  (l29 : K.lookup f29 = some ⟨oc29, od29, .func (PySem.W.fnOf "_law_same" "_law_same" (defArgs s29) (defBody s29) (defScope s29) .none kv29 dc29 pm29 an29 cd29 ct29), sl29⟩)
  (c29 : PySem.W.codeIn K cd29 "_law_same" = true) (k29 : PySem.W.keepIn K (.ref f29) = true)
  {od2 an2 : Option Addr} {sl2 : Array (Option Value)} {oc2 kv2 dc2 pm2 cd2 ct2 : Value}
  (a2 : PySem.W.nsIn K mainGlobals "uppers" = some (some (.ref f2)))
  (l2 : K.lookup f2 = some ⟨oc2, od2, .func (PySem.W.fnOf "uppers" "uppers" (defArgs s2) (defBody s2) (defScope s2) .none kv2 dc2 pm2 an2 cd2 ct2), sl2⟩)
  (c2 : PySem.W.codeIn K cd2 "uppers" = true) (k2 : PySem.W.keepIn K (.ref f2) = true)
  {od3 an3 : Option Addr} {sl3 : Array (Option Value)} {oc3 kv3 dc3 pm3 cd3 ct3 : Value}
  (a3 : PySem.W.nsIn K mainGlobals "is_shape_below" = some (some (.ref f3)))
  (l3 : K.lookup f3 = some ⟨oc3, od3, .func (PySem.W.fnOf "is_shape_below" "is_shape_below" (defArgs s3) (defBody s3) (defScope s3) .none kv3 dc3 pm3 an3 cd3 ct3), sl3⟩)
  (c3 : PySem.W.codeIn K cd3 "is_shape_below" = true) (k3 : PySem.W.keepIn K (.ref f3) = true)
  {od16x1 an16x1 : Option Addr} {sl16x1 : Array (Option Value)} {oc16x1 kv16x1 dc16x1 pm16x1 cd16x1 ct16x1 : Value}
  (a16x1 : PySem.W.findIn K (.ref CT_Table) "_nearer_than" = some (some (.ref f16x1))) (i16x1 : PySem.W.isFn K (.ref f16x1) = true)
  (l16x1 : K.lookup f16x1 = some ⟨oc16x1, od16x1, .func (PySem.W.fnOf "_nearer_than" "Table._nearer_than" (defArgs s16x1) (defBody s16x1) (defScope s16x1) .none kv16x1 dc16x1 pm16x1 an16x1 cd16x1 ct16x1), sl16x1⟩)
  (c16x1 : PySem.W.codeIn K cd16x1 "Table._nearer_than" = true) (k16x1 : PySem.W.keepIn K (.ref f16x1) = true)
  {od16x0 an16x0 : Option Addr} {sl16x0 : Array (Option Value)} {oc16x0 kv16x0 dc16x0 pm16x0 cd16x0 ct16x0 : Value}
  (a16x0 : PySem.W.findIn K (.ref CT_Table) "__init__" = some (some (.ref f16x0))) (i16x0 : PySem.W.isFn K (.ref f16x0) = true)
  (l16x0 : K.lookup f16x0 = some ⟨oc16x0, od16x0, .func (PySem.W.fnOf "__init__" "Table.__init__" (defArgs s16x0) (defBody s16x0) (defScope s16x0) .none kv16x0 dc16x0 pm16x0 an16x0 cd16x0 ct16x0), sl16x0⟩)
  (c16x0 : PySem.W.codeIn K cd16x0 "Table.__init__" = true) (k16x0 : PySem.W.keepIn K (.ref f16x0) = true)
  {od16x2 an16x2 : Option Addr} {sl16x2 : Array (Option Value)} {oc16x2 kv16x2 dc16x2 pm16x2 cd16x2 ct16x2 : Value}
  (a16x2 : PySem.W.findIn K (.ref CT_Table) "shape_of" = some (some (.ref f16x2))) (i16x2 : PySem.W.isFn K (.ref f16x2) = true)
  (l16x2 : K.lookup f16x2 = some ⟨oc16x2, od16x2, .func (PySem.W.fnOf "shape_of" "Table.shape_of" (defArgs s16x2) (defBody s16x2) (defScope s16x2) .none kv16x2 dc16x2 pm16x2 an16x2 cd16x2 ct16x2), sl16x2⟩)
  (c16x2 : PySem.W.codeIn K cd16x2 "Table.shape_of" = true) (k16x2 : PySem.W.keepIn K (.ref f16x2) = true)
  {od7 an7 : Option Addr} {sl7 : Array (Option Value)} {oc7 kv7 dc7 pm7 cd7 ct7 : Value}
  (a7 : PySem.W.nsIn K mainGlobals "every_choice" = some (some (.ref f7)))
  (l7 : K.lookup f7 = some ⟨oc7, od7, .func (PySem.W.fnOf "every_choice" "every_choice" (defArgs s7) (defBody s7) (defScope s7) .none kv7 dc7 pm7 an7 cd7 ct7), sl7⟩)
  (c7 : PySem.W.codeIn K cd7 "every_choice" = true) (k7 : PySem.W.keepIn K (.ref f7) = true)
  {od11 an11 : Option Addr} {sl11 : Array (Option Value)} {oc11 kv11 dc11 pm11 cd11 ct11 : Value}
  (a11 : PySem.W.nsIn K mainGlobals "shapes" = some (some (.ref f11)))
  (l11 : K.lookup f11 = some ⟨oc11, od11, .func (PySem.W.fnOf "shapes" "shapes" (defArgs s11) (defBody s11) (defScope s11) .none kv11 dc11 pm11 an11 cd11 ct11), sl11⟩)
  (c11 : PySem.W.codeIn K cd11 "shapes" = true) (k11 : PySem.W.keepIn K (.ref f11) = true)
  {od16x3 an16x3 : Option Addr} {sl16x3 : Array (Option Value)} {oc16x3 kv16x3 dc16x3 pm16x3 cd16x3 ct16x3 : Value}
  (a16x3 : PySem.W.findIn K (.ref CT_Table) "fitting" = some (some (.ref f16x3))) (i16x3 : PySem.W.isFn K (.ref f16x3) = true)
  (l16x3 : K.lookup f16x3 = some ⟨oc16x3, od16x3, .func (PySem.W.fnOf "fitting" "Table.fitting" (defArgs s16x3) (defBody s16x3) (defScope s16x3) .none kv16x3 dc16x3 pm16x3 an16x3 cd16x3 ct16x3), sl16x3⟩)
  (c16x3 : PySem.W.codeIn K cd16x3 "Table.fitting" = true) (k16x3 : PySem.W.keepIn K (.ref f16x3) = true)
  {od16x4 an16x4 : Option Addr} {sl16x4 : Array (Option Value)} {oc16x4 kv16x4 dc16x4 pm16x4 cd16x4 ct16x4 : Value}
  (a16x4 : PySem.W.findIn K (.ref CT_Table) "nearest" = some (some (.ref f16x4))) (i16x4 : PySem.W.isFn K (.ref f16x4) = true)
  (l16x4 : K.lookup f16x4 = some ⟨oc16x4, od16x4, .func (PySem.W.fnOf "nearest" "Table.nearest" (defArgs s16x4) (defBody s16x4) (defScope s16x4) .none kv16x4 dc16x4 pm16x4 an16x4 cd16x4 ct16x4), sl16x4⟩)
  (c16x4 : PySem.W.codeIn K cd16x4 "Table.nearest" = true) (k16x4 : PySem.W.keepIn K (.ref f16x4) = true)
  {od22 an22 : Option Addr} {sl22 : Array (Option Value)} {oc22 kv22 dc22 pm22 cd22 ct22 : Value}
  (a22 : PySem.W.nsIn K mainGlobals "meet" = some (some (.ref f22)))
  (l22 : K.lookup f22 = some ⟨oc22, od22, .func (PySem.W.fnOf "meet" "meet" (defArgs s22) (defBody s22) (defScope s22) .none kv22 dc22 pm22 an22 cd22 ct22), sl22⟩)
  (c22 : PySem.W.codeIn K cd22 "meet" = true) (k22 : PySem.W.keepIn K (.ref f22) = true)
  {od4 an4 : Option Addr} {sl4 : Array (Option Value)} {oc4 kv4 dc4 pm4 cd4 ct4 : Value}
  (a4 : PySem.W.nsIn K mainGlobals "greatest_kinds" = some (some (.ref f4)))
  (l4 : K.lookup f4 = some ⟨oc4, od4, .func (PySem.W.fnOf "greatest_kinds" "greatest_kinds" (defArgs s4) (defBody s4) (defScope s4) .none kv4 dc4 pm4 an4 cd4 ct4), sl4⟩)
  (c4 : PySem.W.codeIn K cd4 "greatest_kinds" = true) (k4 : PySem.W.keepIn K (.ref f4) = true)
  {od12 an12 : Option Addr} {sl12 : Array (Option Value)} {oc12 kv12 dc12 pm12 cd12 ct12 : Value}
  (a12 : PySem.W.nsIn K mainGlobals "common" = some (some (.ref f12)))
  (l12 : K.lookup f12 = some ⟨oc12, od12, .func (PySem.W.fnOf "common" "common" (defArgs s12) (defBody s12) (defScope s12) .none kv12 dc12 pm12 an12 cd12 ct12), sl12⟩)
  (c12 : PySem.W.codeIn K cd12 "common" = true) (k12 : PySem.W.keepIn K (.ref f12) = true)
  {od24 an24 : Option Addr} {sl24 : Array (Option Value)} {oc24 kv24 dc24 pm24 cd24 ct24 : Value}
  (a24 : PySem.W.nsIn K mainGlobals "_least_covering" = some (some (.ref f24)))
  (l24 : K.lookup f24 = some ⟨oc24, od24, .func (PySem.W.fnOf "_least_covering" "_least_covering" (defArgs s24) (defBody s24) (defScope s24) .none kv24 dc24 pm24 an24 cd24 ct24), sl24⟩)
  (c24 : PySem.W.codeIn K cd24 "_least_covering" = true) (k24 : PySem.W.keepIn K (.ref f24) = true)
  {od23 an23 : Option Addr} {sl23 : Array (Option Value)} {oc23 kv23 dc23 pm23 cd23 ct23 : Value}
  (a23 : PySem.W.nsIn K mainGlobals "cover" = some (some (.ref f23)))
  (l23 : K.lookup f23 = some ⟨oc23, od23, .func (PySem.W.fnOf "cover" "cover" (defArgs s23) (defBody s23) (defScope s23) .none kv23 dc23 pm23 an23 cd23 ct23), sl23⟩)
  (c23 : PySem.W.codeIn K cd23 "cover" = true) (k23 : PySem.W.keepIn K (.ref f23) = true)
  {od27 an27 : Option Addr} {sl27 : Array (Option Value)} {oc27 kv27 dc27 pm27 cd27 ct27 : Value}
  (a27 : PySem.W.nsIn K mainGlobals "_law_take" = some (some (.ref f27)))
  (l27 : K.lookup f27 = some ⟨oc27, od27, .func (PySem.W.fnOf "_law_take" "_law_take" (defArgs s27) (defBody s27) (defScope s27) .none kv27 dc27 pm27 an27 cd27 ct27), sl27⟩)
  (c27 : PySem.W.codeIn K cd27 "_law_take" = true) (k27 : PySem.W.keepIn K (.ref f27) = true)
  {od21 an21 : Option Addr} {sl21 : Array (Option Value)} {oc21 kv21 dc21 pm21 cd21 ct21 : Value}
  (a21 : PySem.W.nsIn K mainGlobals "_torn_calls" = some (some (.ref f21)))
  (l21 : K.lookup f21 = some ⟨oc21, od21, .func (PySem.W.fnOf "_torn_calls" "_torn_calls" (defArgs s21) (defBody s21) (defScope s21) .none kv21 dc21 pm21 an21 cd21 ct21), sl21⟩)
  (c21 : PySem.W.codeIn K cd21 "_torn_calls" = true) (k21 : PySem.W.keepIn K (.ref f21) = true)
  {od19 an19 : Option Addr} {sl19 : Array (Option Value)} {oc19 kv19 dc19 pm19 cd19 ct19 : Value}
  (a19 : PySem.W.nsIn K mainGlobals "torn" = some (some (.ref f19)))
  (l19 : K.lookup f19 = some ⟨oc19, od19, .func (PySem.W.fnOf "torn" "torn" (defArgs s19) (defBody s19) (defScope s19) .none kv19 dc19 pm19 an19 cd19 ct19), sl19⟩)
  (c19 : PySem.W.codeIn K cd19 "torn" = true) (k19 : PySem.W.keepIn K (.ref f19) = true)
  {od6 an6 : Option Addr} {sl6 : Array (Option Value)} {oc6 kv6 dc6 pm6 cd6 ct6 : Value}
  (a6 : PySem.W.nsIn K mainGlobals "_is_below_another" = some (some (.ref f6)))
  (l6 : K.lookup f6 = some ⟨oc6, od6, .func (PySem.W.fnOf "_is_below_another" "_is_below_another" (defArgs s6) (defBody s6) (defScope s6) .none kv6 dc6 pm6 an6 cd6 ct6), sl6⟩)
  (c6 : PySem.W.codeIn K cd6 "_is_below_another" = true) (k6 : PySem.W.keepIn K (.ref f6) = true)
  {od5 an5 : Option Addr} {sl5 : Array (Option Value)} {oc5 kv5 dc5 pm5 cd5 ct5 : Value}
  (a5 : PySem.W.nsIn K mainGlobals "greatest_shapes" = some (some (.ref f5)))
  (l5 : K.lookup f5 = some ⟨oc5, od5, .func (PySem.W.fnOf "greatest_shapes" "greatest_shapes" (defArgs s5) (defBody s5) (defScope s5) .none kv5 dc5 pm5 an5 cd5 ct5), sl5⟩)
  (c5 : PySem.W.codeIn K cd5 "greatest_shapes" = true) (k5 : PySem.W.keepIn K (.ref f5) = true)
  {od20 an20 : Option Addr} {sl20 : Array (Option Value)} {oc20 kv20 dc20 pm20 cd20 ct20 : Value}
  (a20 : PySem.W.nsIn K mainGlobals "greatest_torn" = some (some (.ref f20)))
  (l20 : K.lookup f20 = some ⟨oc20, od20, .func (PySem.W.fnOf "greatest_torn" "greatest_torn" (defArgs s20) (defBody s20) (defScope s20) .none kv20 dc20 pm20 an20 cd20 ct20), sl20⟩)
  (c20 : PySem.W.codeIn K cd20 "greatest_torn" = true) (k20 : PySem.W.keepIn K (.ref f20) = true)
  {od18 an18 : Option Addr} {sl18 : Array (Option Value)} {oc18 kv18 dc18 pm18 cd18 ct18 : Value}
  (a18 : PySem.W.nsIn K mainGlobals "nearest" = some (some (.ref f18)))
  (l18 : K.lookup f18 = some ⟨oc18, od18, .func (PySem.W.fnOf "nearest" "nearest" (defArgs s18) (defBody s18) (defScope s18) .none kv18 dc18 pm18 an18 cd18 ct18), sl18⟩)
  (c18 : PySem.W.codeIn K cd18 "nearest" = true) (k18 : PySem.W.keepIn K (.ref f18) = true)
  {od31 an31 : Option Addr} {sl31 : Array (Option Value)} {oc31 kv31 dc31 pm31 cd31 ct31 : Value}
  (a31 : PySem.W.nsIn K mainGlobals "_law_right" = some (some (.ref f31)))
  (l31 : K.lookup f31 = some ⟨oc31, od31, .func (PySem.W.fnOf "_law_right" "_law_right" (defArgs s31) (defBody s31) (defScope s31) .none kv31 dc31 pm31 an31 cd31 ct31), sl31⟩)
  (c31 : PySem.W.codeIn K cd31 "_law_right" = true) (k31 : PySem.W.keepIn K (.ref f31) = true)
  {od26 an26 : Option Addr} {sl26 : Array (Option Value)} {oc26 kv26 dc26 pm26 cd26 ct26 : Value}
  (a26 : PySem.W.nsIn K mainGlobals "_law_box" = some (some (.ref f26)))
  (l26 : K.lookup f26 = some ⟨oc26, od26, .func (PySem.W.fnOf "_law_box" "_law_box" (defArgs s26) (defBody s26) (defScope s26) .none kv26 dc26 pm26 an26 cd26 ct26), sl26⟩)
  (c26 : PySem.W.codeIn K cd26 "_law_box" = true) (k26 : PySem.W.keepIn K (.ref f26) = true)
  {od32 an32 : Option Addr} {sl32 : Array (Option Value)} {oc32 kv32 dc32 pm32 cd32 ct32 : Value}
  (a32 : PySem.W.nsIn K mainGlobals "law" = some (some (.ref f32)))
  (l32 : K.lookup f32 = some ⟨oc32, od32, .func (PySem.W.fnOf "law" "law" (defArgs s32) (defBody s32) (defScope s32) .none kv32 dc32 pm32 an32 cd32 ct32), sl32⟩)
  (c32 : PySem.W.codeIn K cd32 "law" = true) (k32 : PySem.W.keepIn K (.ref f32) = true)
  (aC_Table : PySem.W.nsIn K mainGlobals "Table" = some (some (.ref CT_Table))) (pg_Table : PySem.W.plainGet K CT_Table Str.empty = true) (hd_Table : PySem.W.hasDictIn K CT_Table = true) (po_Table : PySem.W.plainOver K CT_Table = true) (sa_Table : PySem.W.findIn K (.ref CT_Table) "__setattr__" = some (some (.builtin "object.__setattr__"))) (mk_Table : PySem.W.makesIn K CT_Table = true) (kc_Table : PySem.W.keepIn K (.ref CT_Table) = true)
  (n_Table_above : PySem.W.findIn K (.ref CT_Table) "above" = some none)
  (n_Table_kinds : PySem.W.findIn K (.ref CT_Table) "kinds" = some none)
  (n_Table_methods : PySem.W.findIn K (.ref CT_Table) "methods" = some none)
  (n_Table_nearer : PySem.W.findIn K (.ref CT_Table) "nearer" = some none)
  (z_abs : PySem.W.nsIn K mainGlobals "abs" = some none)
  (z_all : PySem.W.nsIn K mainGlobals "all" = some none)
  (z_any : PySem.W.nsIn K mainGlobals "any" = some none)
  (z_bool : PySem.W.nsIn K mainGlobals "bool" = some none)
  (z_enumerate : PySem.W.nsIn K mainGlobals "enumerate" = some none)
  (z_int : PySem.W.nsIn K mainGlobals "int" = some none)
  (z_isinstance : PySem.W.nsIn K mainGlobals "isinstance" = some none)
  (z_len : PySem.W.nsIn K mainGlobals "len" = some none)
  (z_list : PySem.W.nsIn K mainGlobals "list" = some none)
  (z_range : PySem.W.nsIn K mainGlobals "range" = some none)
  (z_sorted : PySem.W.nsIn K mainGlobals "sorted" = some none)
  (z_str : PySem.W.nsIn K mainGlobals "str" = some none)
  (z_tuple : PySem.W.nsIn K mainGlobals "tuple" = some none)
  (z_zip : PySem.W.nsIn K mainGlobals "zip" = some none)
  (hM : ∀ ns : List Int, ns.length ≤ 63 → ∃ C, M_law [.dat (.scr ns)] [] = some (.dat (.bl true), C)) :
  ∃ fd : FuncData, (∀ (s : Shared) (v : Value), BindsTo s fd ⟨[v], []⟩ [("_law_script", v)]) ∧ ∀ base : Heap, K.In base → base.Ns mainGlobals mg → FnOk l.prog w K mg base CX0 13 fa fd P32 (spTop K) := by
  have e := hfa.symm.trans (PySem.W.mg_of X G0 a32)
  cases e
  have h_abs := PySem.W.mg_none_of X G0 z_abs
  have h_all := PySem.W.mg_none_of X G0 z_all
  have h_any := PySem.W.mg_none_of X G0 z_any
  have h_bool := PySem.W.mg_none_of X G0 z_bool
  have h_enumerate := PySem.W.mg_none_of X G0 z_enumerate
  have h_int := PySem.W.mg_none_of X G0 z_int
  have h_isinstance := PySem.W.mg_none_of X G0 z_isinstance
  have h_len := PySem.W.mg_none_of X G0 z_len
  have h_list := PySem.W.mg_none_of X G0 z_list
  have h_range := PySem.W.mg_none_of X G0 z_range
  have h_sorted := PySem.W.mg_none_of X G0 z_sorted
  have h_str := PySem.W.mg_none_of X G0 z_str
  have h_tuple := PySem.W.mg_none_of X G0 z_tuple
  have h_zip := PySem.W.mg_none_of X G0 z_zip
  have F28 := fun_mk (st := s28) l28 c28 k28
  have g28 := PySem.W.mg_of X G0 a28
  have b28 := F28.binds (ps := P28) fun _ _ _ _ _ _ us hl => match us, hl with | [_, _], _ => rfl
  have F30 := fun_mk (st := s30) l30 c30 k30
  have g30 := PySem.W.mg_of X G0 a30
  have b30 := F30.binds (ps := P30) fun _ _ _ _ _ _ us hl => match us, hl with | [_], _ => rfl
  have F29 := fun_mk (st := s29) l29 c29 k29
  have g29 := PySem.W.mg_of X G0 a29
  have b29 := F29.binds (ps := P29) fun _ _ _ _ _ _ us hl => match us, hl with | [_, _], _ => rfl
  have F2 := fun_mk (st := s2) l2 c2 k2
  have g2 := PySem.W.mg_of X G0 a2
  have b2 := F2.binds (ps := P2) fun _ _ _ _ _ _ us hl => match us, hl with | [_], _ => rfl
  have F3 := fun_mk (st := s3) l3 c3 k3
  have g3 := PySem.W.mg_of X G0 a3
  have b3 := F3.binds (ps := P3) fun _ _ _ _ _ _ us hl => match us, hl with | [_, _, _], _ => rfl
  have F16x1 := fun_mk (st := s16x1) l16x1 c16x1 k16x1
  have b16x1 := F16x1.binds (ps := P16x1) fun _ _ _ _ _ _ us hl => match us, hl with | [_, _], _ => rfl
  have F16x0 := fun_mk (st := s16x0) l16x0 c16x0 k16x0
  have b16x0 := F16x0.binds (ps := P16x0) fun _ _ _ _ _ _ us hl => match us, hl with | [_, _], _ => rfl
  have F16x2 := fun_mk (st := s16x2) l16x2 c16x2 k16x2
  have b16x2 := F16x2.binds (ps := P16x2) fun _ _ _ _ _ _ us hl => match us, hl with | [_, _], _ => rfl
  have F7 := fun_mk (st := s7) l7 c7 k7
  have g7 := PySem.W.mg_of X G0 a7
  have b7 := F7.binds (ps := P7) fun _ _ _ _ _ _ us hl => match us, hl with | [_], _ => rfl
  have F11 := fun_mk (st := s11) l11 c11 k11
  have g11 := PySem.W.mg_of X G0 a11
  have b11 := F11.binds (ps := P11) fun _ _ _ _ _ _ us hl => match us, hl with | [_], _ => rfl
  have F16x3 := fun_mk (st := s16x3) l16x3 c16x3 k16x3
  have b16x3 := F16x3.binds (ps := P16x3) fun _ _ _ _ _ _ us hl => match us, hl with | [_, _], _ => rfl
  have F16x4 := fun_mk (st := s16x4) l16x4 c16x4 k16x4
  have b16x4 := F16x4.binds (ps := P16x4) fun _ _ _ _ _ _ us hl => match us, hl with | [_, _], _ => rfl
  have F22 := fun_mk (st := s22) l22 c22 k22
  have g22 := PySem.W.mg_of X G0 a22
  have b22 := F22.binds (ps := P22) fun _ _ _ _ _ _ us hl => match us, hl with | [_, _, _], _ => rfl
  have F4 := fun_mk (st := s4) l4 c4 k4
  have g4 := PySem.W.mg_of X G0 a4
  have b4 := F4.binds (ps := P4) fun _ _ _ _ _ _ us hl => match us, hl with | [_, _, _], _ => rfl
  have F12 := fun_mk (st := s12) l12 c12 k12
  have g12 := PySem.W.mg_of X G0 a12
  have b12 := F12.binds (ps := P12) fun _ _ _ _ _ _ us hl => match us, hl with | [_, _, _], _ => rfl
  have F24 := fun_mk (st := s24) l24 c24 k24
  have g24 := PySem.W.mg_of X G0 a24
  have b24 := F24.binds (ps := P24) fun _ _ _ _ _ _ us hl => match us, hl with | [_, _, _], _ => rfl
  have F23 := fun_mk (st := s23) l23 c23 k23
  have g23 := PySem.W.mg_of X G0 a23
  have b23 := F23.binds (ps := P23) fun _ _ _ _ _ _ us hl => match us, hl with | [_, _, _], _ => rfl
  have F27 := fun_mk (st := s27) l27 c27 k27
  have g27 := PySem.W.mg_of X G0 a27
  have b27 := F27.binds (ps := P27) fun _ _ _ _ _ _ us hl => match us, hl with | [_, _], _ => rfl
  have F21 := fun_mk (st := s21) l21 c21 k21
  have g21 := PySem.W.mg_of X G0 a21
  have b21 := F21.binds (ps := P21) fun _ _ _ _ _ _ us hl => match us, hl with | [_, _], _ => rfl
  have F19 := fun_mk (st := s19) l19 c19 k19
  have g19 := PySem.W.mg_of X G0 a19
  have b19 := F19.binds (ps := P19) fun _ _ _ _ _ _ us hl => match us, hl with | [_], _ => rfl
  have F6 := fun_mk (st := s6) l6 c6 k6
  have g6 := PySem.W.mg_of X G0 a6
  have b6 := F6.binds (ps := P6) fun _ _ _ _ _ _ us hl => match us, hl with | [_, _, _], _ => rfl
  have F5 := fun_mk (st := s5) l5 c5 k5
  have g5 := PySem.W.mg_of X G0 a5
  have b5 := F5.binds (ps := P5) fun _ _ _ _ _ _ us hl => match us, hl with | [_, _], _ => rfl
  have F20 := fun_mk (st := s20) l20 c20 k20
  have g20 := PySem.W.mg_of X G0 a20
  have b20 := F20.binds (ps := P20) fun _ _ _ _ _ _ us hl => match us, hl with | [_], _ => rfl
  have F18 := fun_mk (st := s18) l18 c18 k18
  have g18 := PySem.W.mg_of X G0 a18
  have b18 := F18.binds (ps := P18) fun _ _ _ _ _ _ us hl => match us, hl with | [_, _], _ => rfl
  have F31 := fun_mk (st := s31) l31 c31 k31
  have g31 := PySem.W.mg_of X G0 a31
  have b31 := F31.binds (ps := P31) fun _ _ _ _ _ _ us hl => match us, hl with | [_], _ => rfl
  have F26 := fun_mk (st := s26) l26 c26 k26
  have g26 := PySem.W.mg_of X G0 a26
  have b26 := F26.binds (ps := P26) fun _ _ _ _ _ _ us hl => match us, hl with | [_, _], _ => rfl
  have F32 := fun_mk (st := s32) l32 c32 k32
  have g32 := PySem.W.mg_of X G0 a32
  have b32 := F32.binds (ps := P32) fun _ _ _ _ _ _ us hl => match us, hl with | [_], _ => rfl
  have cl_Table : Cls K (Gm.cls (gc K CT_Table) "Table") := ⟨pg_Table, hd_Table, po_Table, sa_Table⟩
  have na_Table_above : NoAttr K (Gm.cls (gc K CT_Table) "Table") "above" := n_Table_above
  have na_Table_kinds : NoAttr K (Gm.cls (gc K CT_Table) "Table") "kinds" := n_Table_kinds
  have na_Table_methods : NoAttr K (Gm.cls (gc K CT_Table) "Table") "methods" := n_Table_methods
  have na_Table_nearer : NoAttr K (Gm.cls (gc K CT_Table) "Table") "nearer" := n_Table_nearer
  refine ⟨PySem.W.fnOf "law" "law" (defArgs s32) (defBody s32) (defScope s32) .none kv32 dc32 pm32 an32 cd32 ct32, fun s v => .of_eq rfl, fun base _ _ => ?_⟩
  have o28 := ok28 (P := l.prog) (w := w) (G := (gc K CT_Table)) (mg := mg) (base := base) F28 h_enumerate h_int h_list
  have C28 : Cl l.prog w K mg base 1 "_law_cells" P28 (spE (gc K CT_Table) 2 M_Lcells) := ⟨f28, _, o28, g28, k28, b28⟩
  have o30 := ok30 (P := l.prog) (w := w) (G := (gc K CT_Table)) (mg := mg) (base := base) F30 h_len h_range
  have C30 : Cl l.prog w K mg base 1 "_law_pairs" P30 (spE (gc K CT_Table) 1 M_Lpairs) := ⟨f30, _, o30, g30, k30, b30⟩
  have o29 := ok29 (P := l.prog) (w := w) (G := (gc K CT_Table)) (base := base) F29 g29 b29 h_all h_bool h_int h_isinstance h_len h_list h_str h_tuple h_zip 10
  have C29 : Cl l.prog w K mg base 11 "_law_same" P29 (spE (gc K CT_Table) 2 (M_Lsame 10)) := ⟨f29, _, o29, g29, k29, b29⟩
  have o2 := ok2 (P := l.prog) (w := w) (G := (gc K CT_Table)) (mg := mg) (base := base) F2
  have C2 : Cl l.prog w K mg base 1 "uppers" P2 (spE (gc K CT_Table) 1 M_uppers) := ⟨f2, _, o2, g2, k2, b2⟩
  have o3 := ok3 (P := l.prog) (w := w) (G := (gc K CT_Table)) (mg := mg) (base := base) F3 h_all h_zip
  have C3 : Cl l.prog w K mg base 1 "is_shape_below" P3 (spE (gc K CT_Table) 3 M_is_shape_below) := ⟨f3, _, o3, g3, k3, b3⟩
  have o16x1 := ok16x1 (P := l.prog) (w := w) (G := (gc K CT_Table)) (mg := mg) (base := base) F16x1 C3 cl_Table na_Table_above na_Table_methods
  have C16x1 : ClM l.prog w K mg base 2 (Gm.cls (gc K CT_Table) "Table") "_nearer_than" P16x1 (spE (gc K CT_Table) 2 M_Table__nearer_than) := ⟨f16x1, _, o16x1, ⟨a16x1, i16x1, k16x1⟩, b16x1⟩
  have o16x0 := ok16x0 (P := l.prog) (w := w) (G := (gc K CT_Table)) (mg := mg) (base := base) F16x0 C16x1 C2 h_tuple cl_Table na_Table_above na_Table_kinds na_Table_methods na_Table_nearer
  have C16x0 : ClI l.prog w K mg base 3 "Table" (Gm.cls (gc K CT_Table) "Table") P16x0 (spE (gc K CT_Table) 2 M_Table___init__) := ⟨f16x0, _, o16x0, ⟨mk_Table, a16x0, i16x0, kc_Table⟩, PySem.W.mg_of X G0 aC_Table, b16x0⟩
  have o16x2 := ok16x2 (P := l.prog) (w := w) (G := (gc K CT_Table)) (mg := mg) (base := base) F16x2 cl_Table na_Table_methods
  have C16x2 : ClM l.prog w K mg base 1 (Gm.cls (gc K CT_Table) "Table") "shape_of" P16x2 (spE (gc K CT_Table) 2 M_Table_shape_of) := ⟨f16x2, _, o16x2, ⟨a16x2, i16x2, k16x2⟩, b16x2⟩
  have o7 := ok7 (P := l.prog) (w := w) (G := (gc K CT_Table)) (mg := mg) (base := base) F7
  have C7 : Cl l.prog w K mg base 1 "every_choice" P7 (spN (gc K CT_Table) 1 M_every_choice) := ⟨f7, _, o7, g7, k7, b7⟩
  have o11 := ok11 (P := l.prog) (w := w) (G := (gc K CT_Table)) (mg := mg) (base := base) F11 C7 h_sorted
  have C11 : Cl l.prog w K mg base 2 "shapes" P11 (spN (gc K CT_Table) 1 M_shapes) := ⟨f11, _, o11, g11, k11, b11⟩
  have o16x3 := ok16x3 (P := l.prog) (w := w) (G := (gc K CT_Table)) (mg := mg) (base := base) F16x3 C3 cl_Table na_Table_above na_Table_methods
  have C16x3 : ClM l.prog w K mg base 2 (Gm.cls (gc K CT_Table) "Table") "fitting" P16x3 (spE (gc K CT_Table) 2 M_Table_fitting) := ⟨f16x3, _, o16x3, ⟨a16x3, i16x3, k16x3⟩, b16x3⟩
  have o16x4 := ok16x4 (P := l.prog) (w := w) (G := (gc K CT_Table)) (mg := mg) (base := base) F16x4 C16x3 h_any cl_Table na_Table_nearer
  have C16x4 : ClM l.prog w K mg base 3 (Gm.cls (gc K CT_Table) "Table") "nearest" P16x4 (spE (gc K CT_Table) 2 M_Table_nearest) := ⟨f16x4, _, o16x4, ⟨a16x4, i16x4, k16x4⟩, b16x4⟩
  have o22 := ok22 (P := l.prog) (w := w) (G := (gc K CT_Table)) (mg := mg) (base := base) F22 C16x4 C16x2 C11 C16x0 cl_Table
  have C22 : Cl l.prog w K mg base 5 "meet" P22 (spE (gc K CT_Table) 3 M_meet) := ⟨f22, _, o22, g22, k22, b22⟩
  have o4 := ok4 (P := l.prog) (w := w) (G := (gc K CT_Table)) (mg := mg) (base := base) F4 h_any h_sorted
  have C4 : Cl l.prog w K mg base 1 "greatest_kinds" P4 (spE (gc K CT_Table) 3 M_greatest_kinds) := ⟨f4, _, o4, g4, k4, b4⟩
  have o12 := ok12 (P := l.prog) (w := w) (G := (gc K CT_Table)) (mg := mg) (base := base) F12 C7 C4 C2 h_zip
  have C12 : Cl l.prog w K mg base 2 "common" P12 (spE (gc K CT_Table) 3 M_common) := ⟨f12, _, o12, g12, k12, b12⟩
  have o24 := ok24 (P := l.prog) (w := w) (G := (gc K CT_Table)) (mg := mg) (base := base) F24 C16x3 cl_Table
  have C24 : Cl l.prog w K mg base 3 "_least_covering" P24 (spE (gc K CT_Table) 3 M__least_covering) := ⟨f24, _, o24, g24, k24, b24⟩
  have o23 := ok23 (P := l.prog) (w := w) (G := (gc K CT_Table)) (mg := mg) (base := base) F23 C16x2 C24 C12 C22 C16x0 cl_Table na_Table_kinds na_Table_nearer
  have C23 : Cl l.prog w K mg base 6 "cover" P23 (spE (gc K CT_Table) 3 M_cover) := ⟨f23, _, o23, g23, k23, b23⟩
  have o27 := ok27 (P := l.prog) (w := w) (G := (gc K CT_Table)) (mg := mg) (base := base) F27 h_int
  have C27 : Cl l.prog w K mg base 1 "_law_take" P27 (spE (gc K CT_Table) 2 M_Ltake) := ⟨f27, _, o27, g27, k27, b27⟩
  have o21 := ok21 (P := l.prog) (w := w) (G := (gc K CT_Table)) (mg := mg) (base := base) F21 C16x4 C11 h_len cl_Table
  have C21 : Cl l.prog w K mg base 4 "_torn_calls" P21 (spE (gc K CT_Table) 2 M__torn_calls) := ⟨f21, _, o21, g21, k21, b21⟩
  have o19 := ok19 (P := l.prog) (w := w) (G := (gc K CT_Table)) (mg := mg) (base := base) F19 C21 C16x0 cl_Table
  have C19 : Cl l.prog w K mg base 5 "torn" P19 (spE (gc K CT_Table) 1 M_torn) := ⟨f19, _, o19, g19, k19, b19⟩
  have o6 := ok6 (P := l.prog) (w := w) (G := (gc K CT_Table)) (mg := mg) (base := base) F6 C3
  have C6 : Cl l.prog w K mg base 2 "_is_below_another" P6 (spE (gc K CT_Table) 3 M__is_below_another) := ⟨f6, _, o6, g6, k6, b6⟩
  have o5 := ok5 (P := l.prog) (w := w) (G := (gc K CT_Table)) (mg := mg) (base := base) F5 C6
  have C5 : Cl l.prog w K mg base 3 "greatest_shapes" P5 (spE (gc K CT_Table) 2 M_greatest_shapes) := ⟨f5, _, o5, g5, k5, b5⟩
  have o20 := ok20 (P := l.prog) (w := w) (G := (gc K CT_Table)) (mg := mg) (base := base) F20 C21 C5 C16x0 cl_Table na_Table_above
  have C20 : Cl l.prog w K mg base 5 "greatest_torn" P20 (spE (gc K CT_Table) 1 M_greatest_torn) := ⟨f20, _, o20, g20, k20, b20⟩
  have o18 := ok18 (P := l.prog) (w := w) (G := (gc K CT_Table)) (mg := mg) (base := base) F18 C16x4 C16x0 cl_Table
  have C18 : Cl l.prog w K mg base 5 "nearest" P18 (spE (gc K CT_Table) 2 M_nearest) := ⟨f18, _, o18, g18, k18, b18⟩
  have o31 := ok31 (P := l.prog) (w := w) (G := (gc K CT_Table)) (mg := mg) (base := base) F31 C30 C29 C27 C23 C20 C22 C18 C19 h_enumerate h_len h_sorted h_tuple
  have C31 : Cl l.prog w K mg base 12 "_law_right" P31 (spE (gc K CT_Table) 1 M_Lright) := ⟨f31, _, o31, g31, k31, b31⟩
  have o26 := ok26 (P := l.prog) (w := w) (G := (gc K CT_Table)) (mg := mg) (base := base) F26 h_abs h_int h_len
  have C26 : Cl l.prog w K mg base 1 "_law_box" P26 (spN (gc K CT_Table) 2 M_Lbox) := ⟨f26, _, o26, g26, k26, b26⟩
  have o32 := ok32 (P := l.prog) (w := w) (G := (gc K CT_Table)) (mg := mg) (base := base) F32 C26 C28 C31 h_all h_len h_range
  exact o32.imp (top_imp (G := (gc K CT_Table)) hM)
end DX

namespace DX
open PySem PySem.Spec L2
@[irreducible] def F_Lcells (script_ : (List Int)) (most_ : Int) : (List Int) :=
  lt ((if (cutD script_ none (some most_)).isEmpty = true then [(0 : Int)] else (cutD script_ none (some most_)))) fun cells_here_ => th (lp (σ := (List Int)) (ρ := ((List Int))) (enum (cutD script_ (some most_) (some (63 : Int)))) cells_here_ (fun s2_ x6_ => lt s2_ fun cells_here_1_ => lt ((x6_.1.fmod most_)) fun at_so_ => lt ((cells_here_1_.set ((ixN cells_here_1_.length at_so_).getD 0) ((atD cells_here_1_ at_so_) + (x6_.2 * (x6_.1 + (2 : Int)))))) fun cells_here_2_ => .nx cells_here_2_)) fun s7_ => lt s7_ fun cells_here_3_ => cells_here_3_
@[irreducible] def P_Lcells (script_ : (List Int)) (most_ : Int) : Prop :=
  lt ((if (cutD script_ none (some most_)).isEmpty = true then [(0 : Int)] else (cutD script_ none (some most_)))) fun cells_here_ => lpP (σ := (List Int)) (ρ := ((List Int))) (enum (cutD script_ (some most_) (some (63 : Int)))) cells_here_ (fun s2_ x6_ => lt s2_ fun cells_here_1_ => lt ((x6_.1.fmod most_)) fun at_so_ => lt ((cells_here_1_.set ((ixN cells_here_1_.length at_so_).getD 0) ((atD cells_here_1_ at_so_) + (x6_.2 * (x6_.1 + (2 : Int)))))) fun cells_here_2_ => .nx cells_here_2_) (fun s2_ x6_ => lt s2_ fun cells_here_1_ => (most_ ≠ 0) ∧ lt ((x6_.1.fmod most_)) fun at_so_ => ((atI cells_here_1_ at_so_).isSome = true) ∧ (CMul x6_.2 (x6_.1 + (2 : Int))) ∧ ((ixN cells_here_1_.length at_so_).isSome = true))
@[irreducible] def F_Lbox (script_ : (List Int)) (k_ : Int) : (List Int) :=
  lt ((if decide (k_ < (script_.length : Int)) = true then (atD script_ k_) else (0 : Int))) fun cell_ => [((if cell_ < 0 then -cell_ else cell_) * (if decide (((10 : Int) ^ (18 : Int).toNat) ≤ (if cell_ < 0 then -cell_ else cell_)) = true then 1 else 0)), (((cell_.fmod (2305843009213693951 : Int)) + ((39373 : Int) * k_)) + (103 : Int)), (0 : Int)]
@[irreducible] def P_Lbox (script_ : (List Int)) (k_ : Int) : Prop :=
  (decide (k_ < (script_.length : Int)) = true → ((atI script_ k_).isSome = true)) ∧ lt ((if decide (k_ < (script_.length : Int)) = true then (atD script_ k_) else (0 : Int))) fun cell_ => (CPow (10 : Int) (18 : Int)) ∧ (CMul (if cell_ < 0 then -cell_ else cell_) (if decide (((10 : Int) ^ (18 : Int).toNat) ≤ (if cell_ < 0 then -cell_ else cell_)) = true then 1 else 0)) ∧ (CMul (39373 : Int) k_)
@[irreducible] def F_Ltake (box_here_ : Bx) (below_ : Int) : Int × Bx :=
  if decide ((0 : Int) < (atD box_here_ (0 : Int))) = true then (lt (((atD box_here_ (0 : Int)).fmod below_)) fun drawn_ => lt ((box_here_.set ((ixN box_here_.length (0 : Int)).getD 0) ((atD box_here_ (0 : Int)).fdiv below_))) fun box_here_1_ => (drawn_, box_here_1_)) else (lt ((box_here_.set ((ixN box_here_.length (2 : Int)).getD 0) ((atD box_here_ (2 : Int)) + (1 : Int)))) fun box_here_2_ => lt (((((atD box_here_2_ (1 : Int)) + ((48271 : Int) * (atD box_here_2_ (2 : Int)))) * ((39373 : Int) + (atD box_here_2_ (2 : Int)))).fmod (2147483647 : Int))) fun once_ => lt (((once_.fmod (40009 : Int)) + (7 : Int))) fun far_ => lt (((((once_ + (atD box_here_2_ (2 : Int))) + ((atD box_here_2_ (1 : Int)).fdiv (1000003 : Int))) * far_).fmod (2147483629 : Int))) fun twice_ => ((((((twice_ * (48271 : Int)) + once_).fmod (2147483587 : Int)).fdiv (64 : Int)).fmod below_), box_here_2_))
@[irreducible] def P_Ltake (box_here_ : Bx) (below_ : Int) : Prop :=
  ((atI box_here_ (0 : Int)).isSome = true) ∧ if decide ((0 : Int) < (atD box_here_ (0 : Int))) = true then (((atI box_here_ (0 : Int)).isSome = true) ∧ (below_ ≠ 0) ∧ lt (((atD box_here_ (0 : Int)).fmod below_)) fun drawn_ => ((atI box_here_ (0 : Int)).isSome = true) ∧ (CDivN (atD box_here_ (0 : Int)) below_) ∧ ((ixN box_here_.length (0 : Int)).isSome = true)) else (((atI box_here_ (2 : Int)).isSome = true) ∧ ((ixN box_here_.length (2 : Int)).isSome = true) ∧ lt ((box_here_.set ((ixN box_here_.length (2 : Int)).getD 0) ((atD box_here_ (2 : Int)) + (1 : Int)))) fun box_here_2_ => ((atI box_here_2_ (1 : Int)).isSome = true) ∧ ((atI box_here_2_ (2 : Int)).isSome = true) ∧ (CMul (48271 : Int) (atD box_here_2_ (2 : Int))) ∧ ((atI box_here_2_ (2 : Int)).isSome = true) ∧ (CMul ((atD box_here_2_ (1 : Int)) + ((48271 : Int) * (atD box_here_2_ (2 : Int)))) ((39373 : Int) + (atD box_here_2_ (2 : Int)))) ∧ lt (((((atD box_here_2_ (1 : Int)) + ((48271 : Int) * (atD box_here_2_ (2 : Int)))) * ((39373 : Int) + (atD box_here_2_ (2 : Int)))).fmod (2147483647 : Int))) fun once_ => lt (((once_.fmod (40009 : Int)) + (7 : Int))) fun far_ => ((atI box_here_2_ (2 : Int)).isSome = true) ∧ ((atI box_here_2_ (1 : Int)).isSome = true) ∧ (CDivN (atD box_here_2_ (1 : Int)) (1000003 : Int)) ∧ (CMul ((once_ + (atD box_here_2_ (2 : Int))) + ((atD box_here_2_ (1 : Int)).fdiv (1000003 : Int))) far_) ∧ lt (((((once_ + (atD box_here_2_ (2 : Int))) + ((atD box_here_2_ (1 : Int)).fdiv (1000003 : Int))) * far_).fmod (2147483629 : Int))) fun twice_ => (CMul twice_ (48271 : Int)) ∧ (CDivN (((twice_ * (48271 : Int)) + once_).fmod (2147483587 : Int)) (64 : Int)) ∧ (below_ ≠ 0))
@[irreducible] def F_Lpairs (some_ : (List Tx)) : (List (List Tx)) :=
  lt (([] : (List (List Tx)))) fun found_ => th (lp (σ := (List (List Tx))) (ρ := ((List (List Tx)))) (rng 0 (some_.length : Int)) found_ (fun s1_ x4_ => lt s1_ fun found_1_ => lt ((found_1_ ++ ((cutD some_ (some (x4_ + (1 : Int))) none).map fun x5_ => [(atD some_ x4_), x5_]))) fun found_2_ => .nx found_2_)) fun s6_ => lt s6_ fun found_3_ => found_3_
@[irreducible] def P_Lpairs (some_ : (List Tx)) : Prop :=
  lt (([] : (List (List Tx)))) fun found_ => (smI (some_.length : Int)) ∧ lpP (σ := (List (List Tx))) (ρ := ((List (List Tx)))) (rng 0 (some_.length : Int)) found_ (fun s1_ x4_ => lt s1_ fun found_1_ => lt ((found_1_ ++ ((cutD some_ (some (x4_ + (1 : Int))) none).map fun x5_ => [(atD some_ x4_), x5_]))) fun found_2_ => .nx found_2_) (fun s1_ x4_ => lt s1_ fun found_1_ => ((cutD some_ (some (x4_ + (1 : Int))) none).length ≤ sizeLine) ∧ (∀ x5_ ∈ (cutD some_ (some (x4_ + (1 : Int))) none), ((atI some_ x4_).isSome = true)) ∧ (found_1_.length + ((cutD some_ (some (x4_ + (1 : Int))) none).map fun x5_ => [(atD some_ x4_), x5_]).length ≤ sizeLine))
@[irreducible] def F_uppers (kinds_ : (List (Tx × List Tx × Bool))) : (List (Tx × (List (Tx × Bool)))) :=
  lt (([] : (List (Tx × (List (Tx × Bool)))))) fun above_ => th (lp (σ := (List (Tx × (List (Tx × Bool))))) (ρ := ((List (Tx × (List (Tx × Bool)))))) kinds_ above_ (fun s2_ x8_ => lt s2_ fun above_1_ => th (σ := (List (Tx × Bool))) (lt ([(x8_.1, true)]) fun mine_ => th (lp (σ := (List (Tx × Bool))) (ρ := (Sp ((List (Tx × Bool))) (Sp ((List (Tx × (List (Tx × Bool))))) ((List (Tx × (List (Tx × Bool)))))))) x8_.2.1 mine_ (fun s11_ x13_ => lt s11_ fun mine_1_ => lt ((kMerge mine_1_ (kAt above_1_ x13_))) fun mine_2_ => .nx mine_2_)) fun s14_ => lt s14_ fun mine_3_ => .nx mine_3_) fun s15_ => lt s15_ fun mine_4_ => lt ((kPut above_1_ x8_.1 mine_4_)) fun above_2_ => .nx above_2_)) fun s19_ => lt s19_ fun above_3_ => above_3_
@[irreducible] def P_uppers (kinds_ : (List (Tx × List Tx × Bool))) : Prop :=
  lt (([] : (List (Tx × (List (Tx × Bool)))))) fun above_ => lpP (σ := (List (Tx × (List (Tx × Bool))))) (ρ := ((List (Tx × (List (Tx × Bool)))))) kinds_ above_ (fun s2_ x8_ => lt s2_ fun above_1_ => th (σ := (List (Tx × Bool))) (lt ([(x8_.1, true)]) fun mine_ => th (lp (σ := (List (Tx × Bool))) (ρ := (Sp ((List (Tx × Bool))) (Sp ((List (Tx × (List (Tx × Bool))))) ((List (Tx × (List (Tx × Bool)))))))) x8_.2.1 mine_ (fun s11_ x13_ => lt s11_ fun mine_1_ => lt ((kMerge mine_1_ (kAt above_1_ x13_))) fun mine_2_ => .nx mine_2_)) fun s14_ => lt s14_ fun mine_3_ => .nx mine_3_) fun s15_ => lt s15_ fun mine_4_ => lt ((kPut above_1_ x8_.1 mine_4_)) fun above_2_ => .nx above_2_) (fun s2_ x8_ => lt s2_ fun above_1_ => (lt ([(x8_.1, true)]) fun mine_ => lpP (σ := (List (Tx × Bool))) (ρ := (Sp ((List (Tx × Bool))) (Sp ((List (Tx × (List (Tx × Bool))))) ((List (Tx × (List (Tx × Bool)))))))) x8_.2.1 mine_ (fun s11_ x13_ => lt s11_ fun mine_1_ => lt ((kMerge mine_1_ (kAt above_1_ x13_))) fun mine_2_ => .nx mine_2_) (fun s11_ x13_ => lt s11_ fun mine_1_ => (kHas above_1_ x13_ = true) ∧ (mine_1_.length + (kAt above_1_ x13_).length ≤ sizeLine))) ∧ thP (σ := (List (Tx × Bool))) (ρ := (Sp ((List (Tx × (List (Tx × Bool))))) ((List (Tx × (List (Tx × Bool))))))) (lt ([(x8_.1, true)]) fun mine_ => th (lp (σ := (List (Tx × Bool))) (ρ := (Sp ((List (Tx × Bool))) (Sp ((List (Tx × (List (Tx × Bool))))) ((List (Tx × (List (Tx × Bool)))))))) x8_.2.1 mine_ (fun s11_ x13_ => lt s11_ fun mine_1_ => lt ((kMerge mine_1_ (kAt above_1_ x13_))) fun mine_2_ => .nx mine_2_)) fun s14_ => lt s14_ fun mine_3_ => .nx mine_3_) (fun s15_ => lt s15_ fun mine_4_ => (above_1_.length < sizeLine)))
@[irreducible] def F_is_shape_below (above_ : (List (Tx × (List (Tx × Bool))))) (one_ : (List Tx)) (other_ : (List Tx)) : Bool :=
  (((one_.zip other_).map fun x1_ => (kHas (kAt above_ x1_.1) x1_.2)).all id)
@[irreducible] def P_is_shape_below (above_ : (List (Tx × (List (Tx × Bool))))) (one_ : (List Tx)) (other_ : (List Tx)) : Prop :=
  ((one_.zip other_).length ≤ sizeLine) ∧ (∀ x1_ ∈ (one_.zip other_), (kHas above_ x1_.1 = true))
@[irreducible] def F_Table__nearer_than (self_ : ((List (Tx × List Tx × Bool)) × (List (Tx × (List (Tx × Bool)))) × (List (Tx × List Tx)))) (shape_ : (List Tx)) : (List Tx) :=
  ((self_.2.2.filter fun x1_ => ((!decide (x1_.2 = shape_)) && (F_is_shape_below self_.2.1 x1_.2 shape_))).map fun x1_ => x1_.1)
@[irreducible] def P_Table__nearer_than (self_ : ((List (Tx × List Tx × Bool)) × (List (Tx × (List (Tx × Bool)))) × (List (Tx × List Tx)))) (shape_ : (List Tx)) : Prop :=
  (self_.2.2.length ≤ sizeLine) ∧ (∀ x1_ ∈ self_.2.2, ((!decide (x1_.2 = shape_)) = true → (P_is_shape_below self_.2.1 x1_.2 shape_)))
@[irreducible] def F_Table___init__ (generic_ : ((List (Tx × List Tx × Bool)) × Int × (List (Tx × List Tx)))) : ((List (Tx × List Tx × Bool)) × (List (Tx × (List (Tx × Bool)))) × (List (Tx × List Tx)) × (List (Tx × List Tx))) :=
  lt (generic_.1) fun self_1_ => lt ((self_1_, (F_uppers generic_.1))) fun self_2_ => lt ((self_2_.1, self_2_.2, (generic_.2.2.map fun x1_ => (x1_.1, x1_.2)))) fun self_3_ => lt ((self_3_.1, self_3_.2.1, self_3_.2.2, (self_3_.2.2.foldl (fun acc x2_ => kPut acc x2_.1 (F_Table__nearer_than self_3_ x2_.2)) []))) fun self_4_ => self_4_
@[irreducible] def P_Table___init__ (generic_ : ((List (Tx × List Tx × Bool)) × Int × (List (Tx × List Tx)))) : Prop :=
  lt (generic_.1) fun self_1_ => (P_uppers generic_.1) ∧ lt ((self_1_, (F_uppers generic_.1))) fun self_2_ => (generic_.2.2.length ≤ sizeLine) ∧ lt ((self_2_.1, self_2_.2, (generic_.2.2.map fun x1_ => (x1_.1, x1_.2)))) fun self_3_ => (∀ x2_ ∈ self_3_.2.2, (P_Table__nearer_than self_3_ x2_.2)) ∧ (self_3_.2.2.length ≤ sizeLine)
@[irreducible] def F_every_choice (columns_ : (List (List Tx))) : (List (List Tx)) :=
  lt ([([] : (List Tx))]) fun rows_ => th (lp (σ := (List (List Tx))) (ρ := ((List (List Tx)))) columns_ rows_ (fun s2_ x7_ => lt s2_ fun rows_1_ => lt (((rows_1_.filter (fun x8_ => true)).flatMap fun x8_ => (x7_.filter fun x9_ => true).map fun x9_ => (x8_ ++ [x9_]))) fun rows_2_ => .nx rows_2_)) fun s11_ => lt s11_ fun rows_3_ => rows_3_
@[irreducible] def P_every_choice (columns_ : (List (List Tx))) : Prop :=
  lt ([([] : (List Tx))]) fun rows_ => lpP (σ := (List (List Tx))) (ρ := ((List (List Tx)))) columns_ rows_ (fun s2_ x7_ => lt s2_ fun rows_1_ => lt (((rows_1_.filter (fun x8_ => true)).flatMap fun x8_ => (x7_.filter fun x9_ => true).map fun x9_ => (x8_ ++ [x9_]))) fun rows_2_ => .nx rows_2_) (fun s2_ x7_ => lt s2_ fun rows_1_ => (∀ x8_ ∈ rows_1_, (∀ x9_ ∈ x7_, (x8_.length + [x9_].length ≤ sizeLine))) ∧ (((rows_1_.filter (fun x8_ => true)).flatMap fun x8_ => (x7_.filter fun x9_ => true).map fun x9_ => (x8_ ++ [x9_])).length ≤ sizeLine))
@[irreducible] def F_shapes (generic_ : ((List (Tx × List Tx × Bool)) × Int × (List (Tx × List Tx)))) : (List (List Tx)) :=
  lt ((sortT (generic_.1.map fun x1_ => x1_.1))) fun names_ => (F_every_choice (List.replicate generic_.2.1.toNat [names_]).flatten)
@[irreducible] def P_shapes (generic_ : ((List (Tx × List Tx × Bool)) × Int × (List (Tx × List Tx)))) : Prop :=
  (generic_.1.length ≤ sizeLine) ∧ ((generic_.1.map fun x1_ => x1_.1).length < 64) ∧ lt ((sortT (generic_.1.map fun x1_ => x1_.1))) fun names_ => (generic_.2.1 ≤ 1000000 ∧ -1000000 ≤ generic_.2.1 ∧ [names_].length * generic_.2.1.toNat ≤ sizeLine) ∧ (P_every_choice (List.replicate generic_.2.1.toNat [names_]).flatten)
@[irreducible] def F_Table_fitting (self_ : ((List (Tx × List Tx × Bool)) × (List (Tx × (List (Tx × Bool)))) × (List (Tx × List Tx)) × (List (Tx × List Tx)))) (call_ : (List Tx)) : (List Tx) :=
  ((self_.2.2.1.filter fun x1_ => (F_is_shape_below self_.2.1 call_ x1_.2)).map fun x1_ => x1_.1)
@[irreducible] def P_Table_fitting (self_ : ((List (Tx × List Tx × Bool)) × (List (Tx × (List (Tx × Bool)))) × (List (Tx × List Tx)) × (List (Tx × List Tx)))) (call_ : (List Tx)) : Prop :=
  (self_.2.2.1.length ≤ sizeLine) ∧ (∀ x1_ ∈ self_.2.2.1, (P_is_shape_below self_.2.1 call_ x1_.2))
@[irreducible] def F_Table_nearest (self_ : ((List (Tx × List Tx × Bool)) × (List (Tx × (List (Tx × Bool)))) × (List (Tx × List Tx)) × (List (Tx × List Tx)))) (call_ : (List Tx)) : (List Tx) :=
  lt ((F_Table_fitting self_ call_)) fun fits_ => (fits_.filter fun x1_ => (!(((kAt self_.2.2.2 x1_).map fun x2_ => (isIn x2_ fits_)).any id)))
@[irreducible] def P_Table_nearest (self_ : ((List (Tx × List Tx × Bool)) × (List (Tx × (List (Tx × Bool)))) × (List (Tx × List Tx)) × (List (Tx × List Tx)))) (call_ : (List Tx)) : Prop :=
  (P_Table_fitting self_ call_) ∧ lt ((F_Table_fitting self_ call_)) fun fits_ => (fits_.length ≤ sizeLine) ∧ (∀ x1_ ∈ fits_, (kHas self_.2.2.2 x1_ = true) ∧ ((kAt self_.2.2.2 x1_).length ≤ sizeLine))
@[irreducible] def F__torn_calls (table_ : ((List (Tx × List Tx × Bool)) × (List (Tx × (List (Tx × Bool)))) × (List (Tx × List Tx)) × (List (Tx × List Tx)))) (generic_ : ((List (Tx × List Tx × Bool)) × Int × (List (Tx × List Tx)))) : (List (List Tx)) :=
  ((F_shapes generic_).filter fun x1_ => decide ((1 : Int) < ((F_Table_nearest table_ x1_).length : Int)))
@[irreducible] def P__torn_calls (table_ : ((List (Tx × List Tx × Bool)) × (List (Tx × (List (Tx × Bool)))) × (List (Tx × List Tx)) × (List (Tx × List Tx)))) (generic_ : ((List (Tx × List Tx × Bool)) × Int × (List (Tx × List Tx)))) : Prop :=
  (P_shapes generic_) ∧ ((F_shapes generic_).length ≤ sizeLine) ∧ (∀ x1_ ∈ (F_shapes generic_), (P_Table_nearest table_ x1_))
@[irreducible] def F_torn (generic_ : ((List (Tx × List Tx × Bool)) × Int × (List (Tx × List Tx)))) : (List (List Tx)) :=
  (F__torn_calls (F_Table___init__ generic_) generic_)
@[irreducible] def P_torn (generic_ : ((List (Tx × List Tx × Bool)) × Int × (List (Tx × List Tx)))) : Prop :=
  (P_Table___init__ generic_) ∧ (P__torn_calls (F_Table___init__ generic_) generic_)
@[irreducible] def F__is_below_another (above_ : (List (Tx × (List (Tx × Bool))))) (found_ : (List (List Tx))) (shape_ : (List Tx)) : Bool :=
  th (lp (σ := Unit) (ρ := (Bool)) found_ () (fun s1_ x3_ => if ((!decide (x3_ = shape_)) && (F_is_shape_below above_ shape_ x3_)) = true then (.rt (true)) else (.nx (())))) fun s4_ => false
@[irreducible] def P__is_below_another (above_ : (List (Tx × (List (Tx × Bool))))) (found_ : (List (List Tx))) (shape_ : (List Tx)) : Prop :=
  lpP (σ := Unit) (ρ := (Bool)) found_ () (fun s1_ x3_ => if ((!decide (x3_ = shape_)) && (F_is_shape_below above_ shape_ x3_)) = true then (.rt (true)) else (.nx (()))) (fun s1_ x3_ => ((!decide (x3_ = shape_)) = true → (P_is_shape_below above_ shape_ x3_)))
@[irreducible] def F_greatest_shapes (above_ : (List (Tx × (List (Tx × Bool))))) (found_ : (List (List Tx))) : (List (List Tx)) :=
  (found_.filter fun x1_ => (!(F__is_below_another above_ found_ x1_)))
@[irreducible] def P_greatest_shapes (above_ : (List (Tx × (List (Tx × Bool))))) (found_ : (List (List Tx))) : Prop :=
  (found_.length ≤ sizeLine) ∧ (∀ x1_ ∈ found_, (P__is_below_another above_ found_ x1_))
@[irreducible] def F_greatest_torn (generic_ : ((List (Tx × List Tx × Bool)) × Int × (List (Tx × List Tx)))) : (List (List Tx)) :=
  lt ((F_Table___init__ generic_)) fun table_ => (F_greatest_shapes table_.2.1 (F__torn_calls table_ generic_))
@[irreducible] def P_greatest_torn (generic_ : ((List (Tx × List Tx × Bool)) × Int × (List (Tx × List Tx)))) : Prop :=
  (P_Table___init__ generic_) ∧ lt ((F_Table___init__ generic_)) fun table_ => (P__torn_calls table_ generic_) ∧ (P_greatest_shapes table_.2.1 (F__torn_calls table_ generic_))
@[irreducible] def F_Table_shape_of (self_ : ((List (Tx × List Tx × Bool)) × (List (Tx × (List (Tx × Bool)))) × (List (Tx × List Tx)) × (List (Tx × List Tx)))) (label_ : Tx) : (List Tx) :=
  th (lp (σ := Unit) (ρ := ((List Tx))) self_.2.2.1 () (fun s1_ x4_ => if (decide (x4_.1 = label_)) = true then (.rt (x4_.2)) else (.nx (())))) fun s5_ => default
@[irreducible] def P_Table_shape_of (self_ : ((List (Tx × List Tx × Bool)) × (List (Tx × (List (Tx × Bool)))) × (List (Tx × List Tx)) × (List (Tx × List Tx)))) (label_ : Tx) : Prop :=
  thP (lp (σ := Unit) (ρ := ((List Tx))) self_.2.2.1 () (fun s1_ x4_ => if (decide (x4_.1 = label_)) = true then (.rt (x4_.2)) else (.nx (())))) (fun s5_ => False)
@[irreducible] def F_meet (generic_ : ((List (Tx × List Tx × Bool)) × Int × (List (Tx × List Tx)))) (label_ : Tx) (other_ : Tx) : (Option (List Tx)) :=
  lt ((F_Table___init__ generic_)) fun table_ => th (lp (σ := Unit) (ρ := ((Option (List Tx)))) (F_shapes generic_) () (fun s1_ x4_ => lt ((F_Table_nearest table_ x4_)) fun labels_ => if ((isIn label_ labels_) && (isIn other_ labels_)) = true then (.rt ((some x4_))) else (.nx (())))) fun s5_ => none
@[irreducible] def P_meet (generic_ : ((List (Tx × List Tx × Bool)) × Int × (List (Tx × List Tx)))) (label_ : Tx) (other_ : Tx) : Prop :=
  (P_Table___init__ generic_) ∧ lt ((F_Table___init__ generic_)) fun table_ => (P_Table_shape_of table_ label_) ∧ (P_Table_shape_of table_ other_) ∧ (P_shapes generic_) ∧ lpP (σ := Unit) (ρ := ((Option (List Tx)))) (F_shapes generic_) () (fun s1_ x4_ => lt ((F_Table_nearest table_ x4_)) fun labels_ => if ((isIn label_ labels_) && (isIn other_ labels_)) = true then (.rt ((some x4_))) else (.nx (()))) (fun s1_ x4_ => (P_Table_nearest table_ x4_))
@[irreducible] def F_greatest_kinds (above_ : (List (Tx × (List (Tx × Bool))))) (one_ : Tx) (other_ : Tx) : (List Tx) :=
  lt (((above_.map (·.1)).filter fun x1_ => ((kHas (kAt above_ x1_) one_) && (kHas (kAt above_ x1_) other_)))) fun both_ => (sortT (both_.filter fun x2_ => (!(((((kAt above_ x2_).map (·.1)).filter fun x3_ => (!decide (x3_ = x2_))).map fun x3_ => (isIn x3_ both_)).any id))))
@[irreducible] def P_greatest_kinds (above_ : (List (Tx × (List (Tx × Bool))))) (one_ : Tx) (other_ : Tx) : Prop :=
  ((above_.map (·.1)).length ≤ sizeLine) ∧ (∀ x1_ ∈ (above_.map (·.1)), (kHas above_ x1_ = true) ∧ ((kHas (kAt above_ x1_) one_) = true → (kHas above_ x1_ = true))) ∧ lt (((above_.map (·.1)).filter fun x1_ => ((kHas (kAt above_ x1_) one_) && (kHas (kAt above_ x1_) other_)))) fun both_ => (both_.length ≤ sizeLine) ∧ (∀ x2_ ∈ both_, (kHas above_ x2_ = true) ∧ (((kAt above_ x2_).map (·.1)).length ≤ sizeLine)) ∧ ((both_.filter fun x2_ => (!(((((kAt above_ x2_).map (·.1)).filter fun x3_ => (!decide (x3_ = x2_))).map fun x3_ => (isIn x3_ both_)).any id))).length < 64)
@[irreducible] def F_common (kinds_ : (List (Tx × List Tx × Bool))) (one_ : (List Tx)) (other_ : (List Tx)) : (List (List Tx)) :=
  lt ((F_uppers kinds_)) fun above_ => (F_every_choice ((one_.zip other_).map fun x1_ => (F_greatest_kinds above_ x1_.1 x1_.2)))
@[irreducible] def P_common (kinds_ : (List (Tx × List Tx × Bool))) (one_ : (List Tx)) (other_ : (List Tx)) : Prop :=
  (P_uppers kinds_) ∧ lt ((F_uppers kinds_)) fun above_ => ((one_.zip other_).length ≤ sizeLine) ∧ (∀ x1_ ∈ (one_.zip other_), (P_greatest_kinds above_ x1_.1 x1_.2)) ∧ (P_every_choice ((one_.zip other_).map fun x1_ => (F_greatest_kinds above_ x1_.1 x1_.2)))
@[irreducible] def F__least_covering (table_ : ((List (Tx × List Tx × Bool)) × (List (Tx × (List (Tx × Bool)))) × (List (Tx × List Tx)) × (List (Tx × List Tx)))) (nearer_ : (List Tx)) (part_ : (List Tx)) : Tx :=
  (atD ((F_Table_fitting table_ part_).filter fun x1_ => (isIn x1_ nearer_)) (0 : Int))
@[irreducible] def P__least_covering (table_ : ((List (Tx × List Tx × Bool)) × (List (Tx × (List (Tx × Bool)))) × (List (Tx × List Tx)) × (List (Tx × List Tx)))) (nearer_ : (List Tx)) (part_ : (List Tx)) : Prop :=
  (P_Table_fitting table_ part_) ∧ ((F_Table_fitting table_ part_).length ≤ sizeLine) ∧ ((atI ((F_Table_fitting table_ part_).filter fun x1_ => (isIn x1_ nearer_)) (0 : Int)).isSome = true)
@[irreducible] def F_cover (generic_ : ((List (Tx × List Tx × Bool)) × Int × (List (Tx × List Tx)))) (label_ : Tx) (other_ : Tx) : (Option (List Tx)) :=
  if (F_meet generic_ label_ other_).isSome = true then none else (lt ((F_Table___init__ generic_)) fun table_ => lt (((kAt table_.2.2.2 label_) ++ (kAt table_.2.2.2 other_))) fun nearer_ => lt ((F_common table_.1 (F_Table_shape_of table_ label_) (F_Table_shape_of table_ other_))) fun parts_ => (some (parts_.map fun x1_ => (F__least_covering table_ nearer_ x1_))))
@[irreducible] def P_cover (generic_ : ((List (Tx × List Tx × Bool)) × Int × (List (Tx × List Tx)))) (label_ : Tx) (other_ : Tx) : Prop :=
  (P_meet generic_ label_ other_) ∧ if (F_meet generic_ label_ other_).isSome = true then True else ((P_Table___init__ generic_) ∧ lt ((F_Table___init__ generic_)) fun table_ => (kHas table_.2.2.2 label_ = true) ∧ (kHas table_.2.2.2 other_ = true) ∧ ((kAt table_.2.2.2 label_).length + (kAt table_.2.2.2 other_).length ≤ sizeLine) ∧ lt (((kAt table_.2.2.2 label_) ++ (kAt table_.2.2.2 other_))) fun nearer_ => (P_Table_shape_of table_ label_) ∧ (P_Table_shape_of table_ other_) ∧ (P_common table_.1 (F_Table_shape_of table_ label_) (F_Table_shape_of table_ other_)) ∧ lt ((F_common table_.1 (F_Table_shape_of table_ label_) (F_Table_shape_of table_ other_))) fun parts_ => (parts_.length ≤ sizeLine) ∧ (∀ x1_ ∈ parts_, (P__least_covering table_ nearer_ x1_)))
@[irreducible] def F_nearest (generic_ : ((List (Tx × List Tx × Bool)) × Int × (List (Tx × List Tx)))) (call_ : (List Tx)) : (List Tx) :=
  (F_Table_nearest (F_Table___init__ generic_) call_)
@[irreducible] def P_nearest (generic_ : ((List (Tx × List Tx × Bool)) × Int × (List (Tx × List Tx)))) (call_ : (List Tx)) : Prop :=
  (P_Table___init__ generic_) ∧ (P_Table_nearest (F_Table___init__ generic_) call_)
@[irreducible] def F_Lright (box_here_ : Bx) : Bool × Bx :=
  th (σ := ((List (List Tx × Tx)) × (List (List Tx)) × ((List (Tx × List Tx × Bool)) × Int × (List (Tx × List Tx))) × (List Tx) × Bx)) (lt ((F_Ltake box_here_ (3 : Int))) fun r2_ => lt ((cutD [(tS "a"), (tS "b"), (tS "c"), (tS "d")] none (some ((2 : Int) + r2_.1)))) fun tops_ => lt ((tops_.map fun x3_ => (x3_, ([] : (List Tx)), false))) fun rows_ => lt (([] : (List (List Tx × Tx)))) fun book_ => lt (([] : (List (List Tx)))) fun closed_ => lt ((tops_.map fun x7_ => (((tS "m") ++ x7_), [x7_]))) fun methods_ => th (lp (σ := ((List (List Tx × Tx)) × Bx × (List (List Tx)) × (List (Tx × List Tx)) × (List (Tx × List Tx × Bool)))) (ρ := (Sp ((List (List Tx × Tx)) × (List (List Tx)) × ((List (Tx × List Tx × Bool)) × Int × (List (Tx × List Tx))) × (List Tx) × Bx) (Bool × Bx))) (enum (F_Lpairs tops_)) (book_, r2_.2, closed_, methods_, rows_) (fun s9_ x21_ => lt s9_.1 fun book_1_ => lt s9_.2.1 fun box_here_1_ => lt s9_.2.2.1 fun closed_1_ => lt s9_.2.2.2.1 fun methods_1_ => lt s9_.2.2.2.2 fun rows_1_ => lt (if decide ((rows_1_.length : Int) < (8 : Int)) = true then lt ((F_Ltake box_here_1_ (4 : Int))) fun r22_ => (decide ((0 : Int) < r22_.1), r22_.2) else (false, box_here_1_)) fun r23_ => th (σ := ((List (List Tx × Tx)) × Bx × (List (List Tx)) × (List (Tx × List Tx)) × (List (Tx × List Tx × Bool)))) (if r23_.1 = true then (lt (((tS "z") ++ (signAt (tS "uvwxyz") x21_.1))) fun name_ => lt ((rows_1_ ++ [(name_, x21_.2, false)])) fun rows_2_ => lt ((kPut book_1_ x21_.2 name_)) fun book_2_ => lt ((F_Ltake r23_.2 (3 : Int))) fun r24_ => th (σ := ((List (List Tx)) × (List (Tx × List Tx)))) (if ((decide (r24_.1 = (0 : Int))) && decide ((methods_1_.length : Int) < (7 : Int))) = true then (lt ((methods_1_ ++ [(((tS "w") ++ (signAt (tS "uvwxyz") x21_.1)), [name_])])) fun methods_2_ => lt ((closed_1_ ++ [x21_.2])) fun closed_2_ => .nx ((closed_2_, methods_2_))) else (.nx ((closed_1_, methods_1_)))) fun s25_ => lt s25_.1 fun closed_3_ => lt s25_.2 fun methods_3_ => .nx ((book_2_, r24_.2, closed_3_, methods_3_, rows_2_))) else (.nx ((book_1_, r23_.2, closed_1_, methods_1_, rows_1_)))) fun s34_ => lt s34_.1 fun book_3_ => lt s34_.2.1 fun box_here_2_ => lt s34_.2.2.1 fun closed_4_ => lt s34_.2.2.2.1 fun methods_4_ => lt s34_.2.2.2.2 fun rows_3_ => .nx ((book_3_, box_here_2_, closed_4_, methods_4_, rows_3_)))) fun s44_ => lt s44_.1 fun book_4_ => lt s44_.2.1 fun box_here_3_ => lt s44_.2.2.1 fun closed_5_ => lt s44_.2.2.2.1 fun methods_5_ => lt s44_.2.2.2.2 fun rows_4_ => lt ((rows_4_, (1 : Int), (sortE qRow methods_5_))) fun generic_so_ => .nx ((book_4_, closed_5_, generic_so_, tops_, box_here_3_))) fun s45_ => lt s45_.1 fun book_5_ => lt s45_.2.1 fun closed_6_ => lt s45_.2.2.1 fun generic_so_1_ => lt s45_.2.2.2.1 fun tops_1_ => lt s45_.2.2.2.2 fun box_here_4_ => lt ((sortE (qT qS) (((book_5_.map (·.1)).filter fun x58_ => (!isIn x58_ closed_6_)).map fun x58_ => [(kAt book_5_ x58_)]))) fun due_ => th (lp (σ := Unit) (ρ := (Bool × Bx)) (F_Lpairs tops_1_) () (fun s59_ x71_ => lt (((tS "m") ++ (atD x71_ (0 : Int)))) fun label_so_ => lt (((tS "m") ++ (atD x71_ (1 : Int)))) fun its_ => lt ((if ((kHas book_5_ x71_) && (!isIn x71_ closed_6_)) = true then (some [(kAt book_5_ x71_)]) else none)) fun spot_ => lt ((if (isIn x71_ closed_6_) = true then [((tS "w") ++ (signAt (kAt book_5_ x71_) (1 : Int)))] else ([] : (List Tx)))) fun parts_ => lt (((F_meet generic_so_1_ label_so_ its_), (F_cover generic_so_1_ its_ label_so_))) fun told_ => if (spot_.isSome && (!true)) = true then (.rt ((false, box_here_4_))) else (.nx (())))) fun s75_ => (true, box_here_4_)
@[irreducible] def P_Lright (box_here_ : Bx) : Prop :=
  ((P_Ltake box_here_ (3 : Int)) ∧ lt ((F_Ltake box_here_ (3 : Int))) fun r2_ => lt ((cutD [(tS "a"), (tS "b"), (tS "c"), (tS "d")] none (some ((2 : Int) + r2_.1)))) fun tops_ => (tops_.length ≤ sizeLine) ∧ lt ((tops_.map fun x3_ => (x3_, ([] : (List Tx)), false))) fun rows_ => lt (([] : (List (List Tx × Tx)))) fun book_ => lt (([] : (List (List Tx)))) fun closed_ => (tops_.length ≤ sizeLine) ∧ (∀ x7_ ∈ tops_, ((tS "m").1.length + x7_.1.length ≤ sizeLine)) ∧ lt ((tops_.map fun x7_ => (((tS "m") ++ x7_), [x7_]))) fun methods_ => (P_Lpairs tops_) ∧ (lpP (σ := ((List (List Tx × Tx)) × Bx × (List (List Tx)) × (List (Tx × List Tx)) × (List (Tx × List Tx × Bool)))) (ρ := (Sp ((List (List Tx × Tx)) × (List (List Tx)) × ((List (Tx × List Tx × Bool)) × Int × (List (Tx × List Tx))) × (List Tx) × Bx) (Bool × Bx))) (enum (F_Lpairs tops_)) (book_, r2_.2, closed_, methods_, rows_) (fun s9_ x21_ => lt s9_.1 fun book_1_ => lt s9_.2.1 fun box_here_1_ => lt s9_.2.2.1 fun closed_1_ => lt s9_.2.2.2.1 fun methods_1_ => lt s9_.2.2.2.2 fun rows_1_ => lt (if decide ((rows_1_.length : Int) < (8 : Int)) = true then lt ((F_Ltake box_here_1_ (4 : Int))) fun r22_ => (decide ((0 : Int) < r22_.1), r22_.2) else (false, box_here_1_)) fun r23_ => th (σ := ((List (List Tx × Tx)) × Bx × (List (List Tx)) × (List (Tx × List Tx)) × (List (Tx × List Tx × Bool)))) (if r23_.1 = true then (lt (((tS "z") ++ (signAt (tS "uvwxyz") x21_.1))) fun name_ => lt ((rows_1_ ++ [(name_, x21_.2, false)])) fun rows_2_ => lt ((kPut book_1_ x21_.2 name_)) fun book_2_ => lt ((F_Ltake r23_.2 (3 : Int))) fun r24_ => th (σ := ((List (List Tx)) × (List (Tx × List Tx)))) (if ((decide (r24_.1 = (0 : Int))) && decide ((methods_1_.length : Int) < (7 : Int))) = true then (lt ((methods_1_ ++ [(((tS "w") ++ (signAt (tS "uvwxyz") x21_.1)), [name_])])) fun methods_2_ => lt ((closed_1_ ++ [x21_.2])) fun closed_2_ => .nx ((closed_2_, methods_2_))) else (.nx ((closed_1_, methods_1_)))) fun s25_ => lt s25_.1 fun closed_3_ => lt s25_.2 fun methods_3_ => .nx ((book_2_, r24_.2, closed_3_, methods_3_, rows_2_))) else (.nx ((book_1_, r23_.2, closed_1_, methods_1_, rows_1_)))) fun s34_ => lt s34_.1 fun book_3_ => lt s34_.2.1 fun box_here_2_ => lt s34_.2.2.1 fun closed_4_ => lt s34_.2.2.2.1 fun methods_4_ => lt s34_.2.2.2.2 fun rows_3_ => .nx ((book_3_, box_here_2_, closed_4_, methods_4_, rows_3_))) (fun s9_ x21_ => lt s9_.1 fun book_1_ => lt s9_.2.1 fun box_here_1_ => lt s9_.2.2.1 fun closed_1_ => lt s9_.2.2.2.1 fun methods_1_ => lt s9_.2.2.2.2 fun rows_1_ => (decide ((rows_1_.length : Int) < (8 : Int)) = true → (P_Ltake box_here_1_ (4 : Int))) ∧ lt (if decide ((rows_1_.length : Int) < (8 : Int)) = true then lt ((F_Ltake box_here_1_ (4 : Int))) fun r22_ => (decide ((0 : Int) < r22_.1), r22_.2) else (false, box_here_1_)) fun r23_ => (if r23_.1 = true then (((tS "uvwxyz").1.length ≤ sizeLine ∧ (atI (signs (tS "uvwxyz")) x21_.1).isSome = true) ∧ ((tS "z").1.length + (signAt (tS "uvwxyz") x21_.1).1.length ≤ sizeLine) ∧ lt (((tS "z") ++ (signAt (tS "uvwxyz") x21_.1))) fun name_ => (rows_1_.length < sizeLine) ∧ lt ((rows_1_ ++ [(name_, x21_.2, false)])) fun rows_2_ => (book_1_.length < sizeLine) ∧ lt ((kPut book_1_ x21_.2 name_)) fun book_2_ => (P_Ltake r23_.2 (3 : Int)) ∧ lt ((F_Ltake r23_.2 (3 : Int))) fun r24_ => (if ((decide (r24_.1 = (0 : Int))) && decide ((methods_1_.length : Int) < (7 : Int))) = true then (((tS "uvwxyz").1.length ≤ sizeLine ∧ (atI (signs (tS "uvwxyz")) x21_.1).isSome = true) ∧ ((tS "w").1.length + (signAt (tS "uvwxyz") x21_.1).1.length ≤ sizeLine) ∧ (methods_1_.length < sizeLine) ∧ lt ((methods_1_ ++ [(((tS "w") ++ (signAt (tS "uvwxyz") x21_.1)), [name_])])) fun methods_2_ => (closed_1_.length < sizeLine)) else True)) else True))) ∧ thP (lp (σ := ((List (List Tx × Tx)) × Bx × (List (List Tx)) × (List (Tx × List Tx)) × (List (Tx × List Tx × Bool)))) (ρ := (Sp ((List (List Tx × Tx)) × (List (List Tx)) × ((List (Tx × List Tx × Bool)) × Int × (List (Tx × List Tx))) × (List Tx) × Bx) (Bool × Bx))) (enum (F_Lpairs tops_)) (book_, r2_.2, closed_, methods_, rows_) (fun s9_ x21_ => lt s9_.1 fun book_1_ => lt s9_.2.1 fun box_here_1_ => lt s9_.2.2.1 fun closed_1_ => lt s9_.2.2.2.1 fun methods_1_ => lt s9_.2.2.2.2 fun rows_1_ => lt (if decide ((rows_1_.length : Int) < (8 : Int)) = true then lt ((F_Ltake box_here_1_ (4 : Int))) fun r22_ => (decide ((0 : Int) < r22_.1), r22_.2) else (false, box_here_1_)) fun r23_ => th (σ := ((List (List Tx × Tx)) × Bx × (List (List Tx)) × (List (Tx × List Tx)) × (List (Tx × List Tx × Bool)))) (if r23_.1 = true then (lt (((tS "z") ++ (signAt (tS "uvwxyz") x21_.1))) fun name_ => lt ((rows_1_ ++ [(name_, x21_.2, false)])) fun rows_2_ => lt ((kPut book_1_ x21_.2 name_)) fun book_2_ => lt ((F_Ltake r23_.2 (3 : Int))) fun r24_ => th (σ := ((List (List Tx)) × (List (Tx × List Tx)))) (if ((decide (r24_.1 = (0 : Int))) && decide ((methods_1_.length : Int) < (7 : Int))) = true then (lt ((methods_1_ ++ [(((tS "w") ++ (signAt (tS "uvwxyz") x21_.1)), [name_])])) fun methods_2_ => lt ((closed_1_ ++ [x21_.2])) fun closed_2_ => .nx ((closed_2_, methods_2_))) else (.nx ((closed_1_, methods_1_)))) fun s25_ => lt s25_.1 fun closed_3_ => lt s25_.2 fun methods_3_ => .nx ((book_2_, r24_.2, closed_3_, methods_3_, rows_2_))) else (.nx ((book_1_, r23_.2, closed_1_, methods_1_, rows_1_)))) fun s34_ => lt s34_.1 fun book_3_ => lt s34_.2.1 fun box_here_2_ => lt s34_.2.2.1 fun closed_4_ => lt s34_.2.2.2.1 fun methods_4_ => lt s34_.2.2.2.2 fun rows_3_ => .nx ((book_3_, box_here_2_, closed_4_, methods_4_, rows_3_)))) (fun s44_ => lt s44_.1 fun book_4_ => lt s44_.2.1 fun box_here_3_ => lt s44_.2.2.1 fun closed_5_ => lt s44_.2.2.2.1 fun methods_5_ => lt s44_.2.2.2.2 fun rows_4_ => (methods_5_.length ≤ 1000))) ∧ thP (σ := ((List (List Tx × Tx)) × (List (List Tx)) × ((List (Tx × List Tx × Bool)) × Int × (List (Tx × List Tx))) × (List Tx) × Bx)) (ρ := (Bool × Bx)) (lt ((F_Ltake box_here_ (3 : Int))) fun r2_ => lt ((cutD [(tS "a"), (tS "b"), (tS "c"), (tS "d")] none (some ((2 : Int) + r2_.1)))) fun tops_ => lt ((tops_.map fun x3_ => (x3_, ([] : (List Tx)), false))) fun rows_ => lt (([] : (List (List Tx × Tx)))) fun book_ => lt (([] : (List (List Tx)))) fun closed_ => lt ((tops_.map fun x7_ => (((tS "m") ++ x7_), [x7_]))) fun methods_ => th (lp (σ := ((List (List Tx × Tx)) × Bx × (List (List Tx)) × (List (Tx × List Tx)) × (List (Tx × List Tx × Bool)))) (ρ := (Sp ((List (List Tx × Tx)) × (List (List Tx)) × ((List (Tx × List Tx × Bool)) × Int × (List (Tx × List Tx))) × (List Tx) × Bx) (Bool × Bx))) (enum (F_Lpairs tops_)) (book_, r2_.2, closed_, methods_, rows_) (fun s9_ x21_ => lt s9_.1 fun book_1_ => lt s9_.2.1 fun box_here_1_ => lt s9_.2.2.1 fun closed_1_ => lt s9_.2.2.2.1 fun methods_1_ => lt s9_.2.2.2.2 fun rows_1_ => lt (if decide ((rows_1_.length : Int) < (8 : Int)) = true then lt ((F_Ltake box_here_1_ (4 : Int))) fun r22_ => (decide ((0 : Int) < r22_.1), r22_.2) else (false, box_here_1_)) fun r23_ => th (σ := ((List (List Tx × Tx)) × Bx × (List (List Tx)) × (List (Tx × List Tx)) × (List (Tx × List Tx × Bool)))) (if r23_.1 = true then (lt (((tS "z") ++ (signAt (tS "uvwxyz") x21_.1))) fun name_ => lt ((rows_1_ ++ [(name_, x21_.2, false)])) fun rows_2_ => lt ((kPut book_1_ x21_.2 name_)) fun book_2_ => lt ((F_Ltake r23_.2 (3 : Int))) fun r24_ => th (σ := ((List (List Tx)) × (List (Tx × List Tx)))) (if ((decide (r24_.1 = (0 : Int))) && decide ((methods_1_.length : Int) < (7 : Int))) = true then (lt ((methods_1_ ++ [(((tS "w") ++ (signAt (tS "uvwxyz") x21_.1)), [name_])])) fun methods_2_ => lt ((closed_1_ ++ [x21_.2])) fun closed_2_ => .nx ((closed_2_, methods_2_))) else (.nx ((closed_1_, methods_1_)))) fun s25_ => lt s25_.1 fun closed_3_ => lt s25_.2 fun methods_3_ => .nx ((book_2_, r24_.2, closed_3_, methods_3_, rows_2_))) else (.nx ((book_1_, r23_.2, closed_1_, methods_1_, rows_1_)))) fun s34_ => lt s34_.1 fun book_3_ => lt s34_.2.1 fun box_here_2_ => lt s34_.2.2.1 fun closed_4_ => lt s34_.2.2.2.1 fun methods_4_ => lt s34_.2.2.2.2 fun rows_3_ => .nx ((book_3_, box_here_2_, closed_4_, methods_4_, rows_3_)))) fun s44_ => lt s44_.1 fun book_4_ => lt s44_.2.1 fun box_here_3_ => lt s44_.2.2.1 fun closed_5_ => lt s44_.2.2.2.1 fun methods_5_ => lt s44_.2.2.2.2 fun rows_4_ => lt ((rows_4_, (1 : Int), (sortE qRow methods_5_))) fun generic_so_ => .nx ((book_4_, closed_5_, generic_so_, tops_, box_here_3_))) (fun s45_ => lt s45_.1 fun book_5_ => lt s45_.2.1 fun closed_6_ => lt s45_.2.2.1 fun generic_so_1_ => lt s45_.2.2.2.1 fun tops_1_ => lt s45_.2.2.2.2 fun box_here_4_ => (∀ kv ∈ book_5_, kv.1.length ≤ 1000) ∧ ((book_5_.map (·.1)).length ≤ sizeLine) ∧ (∀ x58_ ∈ (book_5_.map (·.1)), ((!isIn x58_ closed_6_) = true → (kHas book_5_ x58_ = true))) ∧ ((((book_5_.map (·.1)).filter fun x58_ => (!isIn x58_ closed_6_)).map fun x58_ => [(kAt book_5_ x58_)]).length ≤ 1000 ∧ ∀ x ∈ (((book_5_.map (·.1)).filter fun x58_ => (!isIn x58_ closed_6_)).map fun x58_ => [(kAt book_5_ x58_)]), x ≠ []) ∧ lt ((sortE (qT qS) (((book_5_.map (·.1)).filter fun x58_ => (!isIn x58_ closed_6_)).map fun x58_ => [(kAt book_5_ x58_)]))) fun due_ => (P_torn generic_so_1_) ∧ (P_greatest_torn generic_so_1_) ∧ ([(F_torn generic_so_1_), (F_greatest_torn generic_so_1_)] = [due_, due_] ∧ szD 9 ((qL (qL (qT qS))) [(F_torn generic_so_1_), (F_greatest_torn generic_so_1_)]) = true) ∧ (P_Lpairs tops_1_) ∧ lpP (σ := Unit) (ρ := (Bool × Bx)) (F_Lpairs tops_1_) () (fun s59_ x71_ => lt (((tS "m") ++ (atD x71_ (0 : Int)))) fun label_so_ => lt (((tS "m") ++ (atD x71_ (1 : Int)))) fun its_ => lt ((if ((kHas book_5_ x71_) && (!isIn x71_ closed_6_)) = true then (some [(kAt book_5_ x71_)]) else none)) fun spot_ => lt ((if (isIn x71_ closed_6_) = true then [((tS "w") ++ (signAt (kAt book_5_ x71_) (1 : Int)))] else ([] : (List Tx)))) fun parts_ => lt (((F_meet generic_so_1_ label_so_ its_), (F_cover generic_so_1_ its_ label_so_))) fun told_ => if (spot_.isSome && (!true)) = true then (.rt ((false, box_here_4_))) else (.nx (()))) (fun s59_ x71_ => ((atI x71_ (0 : Int)).isSome = true) ∧ ((tS "m").1.length + (atD x71_ (0 : Int)).1.length ≤ sizeLine) ∧ ((atI x71_ (1 : Int)).isSome = true) ∧ ((tS "m").1.length + (atD x71_ (1 : Int)).1.length ≤ sizeLine) ∧ lt (((tS "m") ++ (atD x71_ (0 : Int)))) fun label_so_ => lt (((tS "m") ++ (atD x71_ (1 : Int)))) fun its_ => (((kHas book_5_ x71_) && (!isIn x71_ closed_6_)) = true → (kHas book_5_ x71_ = true)) ∧ lt ((if ((kHas book_5_ x71_) && (!isIn x71_ closed_6_)) = true then (some [(kAt book_5_ x71_)]) else none)) fun spot_ => ((isIn x71_ closed_6_) = true → (kHas book_5_ x71_ = true) ∧ ((kAt book_5_ x71_).1.length ≤ sizeLine ∧ (atI (signs (kAt book_5_ x71_)) (1 : Int)).isSome = true) ∧ ((tS "w").1.length + (signAt (kAt book_5_ x71_) (1 : Int)).1.length ≤ sizeLine)) ∧ lt ((if (isIn x71_ closed_6_) = true then [((tS "w") ++ (signAt (kAt book_5_ x71_) (1 : Int)))] else ([] : (List Tx)))) fun parts_ => (P_meet generic_so_1_ label_so_ its_) ∧ (P_cover generic_so_1_ its_ label_so_) ∧ lt (((F_meet generic_so_1_ label_so_ its_), (F_cover generic_so_1_ its_ label_so_))) fun told_ => (told_ = (spot_, (if spot_.isNone = true then (some parts_) else none)) ∧ szD 9 ((qQ (qO (qT qS)) (qO (qL qS))) told_) = true) ∧ (spot_.isSome = true → (P_nearest generic_so_1_ (spot_.getD default)) ∧ ((F_nearest generic_so_1_ (spot_.getD default)) = [label_so_, its_] ∧ szD 9 ((qL qS) (F_nearest generic_so_1_ (spot_.getD default))) = true))))
@[irreducible] def F_law (script_ : (List Int)) : Bool :=
  lt ((F_Lcells script_ (3 : Int))) fun cells_here_ => (((rng 0 (cells_here_.length : Int)).map fun x1_ => (F_Lright (F_Lbox cells_here_ x1_)).1).all id)
@[irreducible] def P_law (script_ : (List Int)) : Prop :=
  (P_Lcells script_ (3 : Int)) ∧ lt ((F_Lcells script_ (3 : Int))) fun cells_here_ => (smI (cells_here_.length : Int)) ∧ ((rng 0 (cells_here_.length : Int)).length ≤ sizeLine) ∧ (∀ x1_ ∈ (rng 0 (cells_here_.length : Int)), (P_Lbox cells_here_ x1_) ∧ (P_Lright (F_Lbox cells_here_ x1_)))
end DX

namespace DX
open PySem PySem.Spec L2
theorem same_sc (n : Nat) {d : D} {C : Store} (h : d = .non ∨ (∃ b, d = .bl b) ∨ (∃ i, d = .int i) ∨ ∃ x, d = .str x ∧ PyData.strOk x = true) : M_Lsame (n + 1) [.dat d, .dat d] C = some (.dat (.bl true), C) := by
  have q := eq_sc h
  have qb : ∀ b : Bool, dEq (.bl b) (.bl b) = some (.bl true) := fun b => eq_sc (.inr (.inl ⟨b, rfl⟩))
  rcases h with rfl | ⟨b, rfl⟩ | ⟨i, rfl⟩ | ⟨x, rfl, hx⟩ <;>
    simp [M_Lsame, runE, m_Lsame, startE, eIsi2, eIsi, isTy, truD, gd, fin, List.replicate_succ, eAndV, eNotV, dIsN, isN, q, qb]
theorem same_ok : ∀ (n : Nat) (d : D) (C : Store), szD n d = true → okD n d = true → M_Lsame (n + 1) [.dat d, .dat d] C = some (.dat (.bl true), C) := by
  intro n
  induction n with
  | zero =>
    intro d C h h'
    cases d with
    | non => exact same_sc _ (.inl rfl)
    | bl b => exact same_sc _ (.inr (.inl ⟨b, rfl⟩))
    | int i => exact same_sc _ (.inr (.inr (.inl ⟨i, rfl⟩)))
    | str x => exact same_sc _ (.inr (.inr (.inr ⟨x, rfl, h'⟩)))
    | _ => simp [szD] at h
  | succ n ih =>
    intro d C h h'
    have seq : ∀ xs : List D, (xs.length ≤ 1000 ∧ ∀ d ∈ xs, szD n d = true ∧ okD n d = true) → (d = .lst xs ∨ d = .tup xs) → M_Lsame (n + 2) [.dat d, .dat d] C = some (.dat (.bl true), C) := fun xs hx hd => by
      let ρ : Env := [some (.dat d), some (.dat d), none, none]
      have c1 : compL [] (bSeq 2 (bCons (bName 2) (bCons (bName 3) bNil))) tYes' (eCall 2 (M_Lsame (n + 1)) (aCons (eVar 2) (aCons (eVar 3) aNil))) (wipeE ρ [2, 3]) (xs.map fun x => .tup [x, x]) C = some ((xs.map fun x => D.tup [x, x]).map (fun _ => .bl true), C) := by
        refine comp_map rfl fun z hz => ?_
        obtain ⟨y, hy, rfl⟩ := List.mem_map.mp hz
        have q := ih y C (hx.2 y hy).1 (hx.2 y hy).2
        refine ⟨_, rfl, ?_⟩
        simp [ρ, wipeE, gd, q]
      have z1 : zipD xs xs = xs.map fun x => .tup [x, x] := by
        unfold zipD
        have go : ∀ l : List D, l.zipWith (fun x y => D.tup [x, y]) l = l.map fun x => .tup [x, x] := fun l => by
          induction l with
          | nil => rfl
          | cons x r ih => rw [List.zipWith_cons_cons, List.map_cons, ih]
        exact go xs
      have i1 : iZp (aCons (eVar 0) (aCons (eVar 1) aNil)) ρ C = some (⟨xs.map fun x => .tup [x, x], []⟩, C) := by
        rw [← z1]
        rcases hd with rfl | rfl <;> rfl
      have e1 : ((xs.map fun x => D.tup [x, x]).map fun _ => D.bl true) = List.replicate xs.length (.bl true) := by
        rw [List.map_map]
        exact List.map_const'
      have n1 : nLc (iZp (aCons (eVar 0) (aCons (eVar 1) aNil))) (bSeq 2 (bCons (bName 2) (bCons (bName 3) bNil))) tYes' (eCall 2 (M_Lsame (n + 1)) (aCons (eVar 2) (aCons (eVar 3) aNil))) [2, 3] ρ C = some (.lst (List.replicate xs.length (.bl true)), C) := by
        rw [nLc_eq, i1, bnd_s, gd_t (by rw [List.length_map]; exact small_line hx.1), c1, bnd_s, e1]
      have qb : ∀ b : Bool, dNe (.bl b) (.bl b) = some (.bl false) := fun b => by
        unfold dNe
        rw [gd_t ⟨shp_of (n := 1) rfl (by omega), shp_of (n := 1) rfl (by omega)⟩]
        simp [eqvD, toPy, PyData.eqv]
      have qi : dEq (.int (xs.length : Int)) (.int (xs.length : Int)) = some (.bl true) := eq_sc (.inr (.inr (.inl ⟨_, rfl⟩)))
      have all := all_true xs.length
      have fin2 : eB dAll (aCons (eFr (nLc (iZp (aCons (eVar 0) (aCons (eVar 1) aNil))) (bSeq 2 (bCons (bName 2) (bCons (bName 3) bNil))) tYes' (eCall 2 (M_Lsame (n + 1)) (aCons (eVar 2) (aCons (eVar 3) aNil))) [2, 3])) aNil) ρ C = some (.dat (.bl true), C) := by
        rw [e_b, e_cons, e_fr, n1, bnd_s, gd_t (show nolk (D.lst _) = true from rfl), bnd_s, e_nil, bnd_s, bnd_s]
        show bn1 (dAll [.lst _]) _ = _
        rw [all]
        rfl
      show runE 4 2 (m_Lsame (M_Lsame (n + 1))) [.dat d, .dat d] C = _
      rw [runE_eq (by rfl)]
      unfold m_Lsame
      have e0 : startE 4 [Sv.dat d, Sv.dat d] = ρ := rfl
      rw [e0, s_seq, s_if]
      have t1 : tTru (eIsi2 Ty.list Ty.tuple (eVar 1)) ρ C = some (true, C) := by
        rcases hd with rfl | rfl <;> simp [ρ, eIsi2, isTy, truD]
      have t2 : tOr' (tB' (eBin dNe (eIsi Ty.list (eVar 0)) (eIsi Ty.list (eVar 1)))) (tB' (eBin dNe (eIsi Ty.tuple (eVar 0)) (eIsi Ty.tuple (eVar 1)))) ρ C = some (false, C) := by
        rcases hd with rfl | rfl <;> simp [ρ, eIsi, isTy, qb]
      have l1 : eBin dEq (eB dLen (aCons (eVar 0) aNil)) (eB dLen (aCons (eVar 1) aNil)) ρ C = some (.dat (.bl true), C) := by
        rcases hd with rfl | rfl <;> simp [ρ, sees, dLen, lenD, qi]
      rw [t1, bnd_s, if_pos rfl, s_seq, s_if, t2, bnd_s, if_neg Bool.false_ne_true, s_nil, bnd_s]
      dsimp only
      have r1 : eAndV (eBin dEq (eB dLen (aCons (eVar 0) aNil)) (eB dLen (aCons (eVar 1) aNil))) (eB dAll (aCons (eFr (nLc (iZp (aCons (eVar 0) (aCons (eVar 1) aNil))) (bSeq 2 (bCons (bName 2) (bCons (bName 3) bNil))) tYes' (eCall 2 (M_Lsame (n + 1)) (aCons (eVar 2) (aCons (eVar 3) aNil))) [2, 3])) aNil)) ρ C = some (.dat (.bl true), C) := by
        unfold eAndV
        rw [l1, bnd_s]
        exact fin2
      rw [s_ret, r1, bnd_s, bnd_s]
      simp [fin]
    cases d with
    | non => exact same_sc _ (.inl rfl)
    | bl b => exact same_sc _ (.inr (.inl ⟨b, rfl⟩))
    | int i => exact same_sc _ (.inr (.inr (.inl ⟨i, rfl⟩)))
    | str x => exact same_sc _ (.inr (.inr (.inr ⟨x, rfl, h'⟩)))
    | tup xs =>
      have h1 : (decide (xs.length ≤ 1000) && szDs n xs) = true := by unfold szD at h; exact h
      have h2 : okDs n xs = true := by unfold okD at h'; exact h'
      rw [Bool.and_eq_true, szDs_all] at h1
      rw [okDs_all] at h2
      exact seq xs ⟨of_decide_eq_true h1.1, fun d hd => ⟨h1.2 d hd, h2 d hd⟩⟩ (.inr rfl)
    | lst xs =>
      have h1 : (decide (xs.length ≤ 1000) && szDs n xs) = true := by unfold szD at h; exact h
      have h2 : okDs n xs = true := by unfold okD at h'; exact h'
      rw [Bool.and_eq_true, szDs_all] at h1
      rw [okDs_all] at h2
      exact seq xs ⟨of_decide_eq_true h1.1, fun d hd => ⟨h1.2 d hd, h2 d hd⟩⟩ (.inl rfl)
    | _ => simp [szD] at h

theorem ok_Lsame {C0 : Store} {α : Type} [DecidableEq α] {e : α → D} {n : Nat} [he : Nice e n] (a b : α) (h : a = b ∧ szD 9 (e a) = true) (hn : n ≤ 9 := by decide) : M_Lsame 10 [.dat (e a), .dat (e b)] C0 = some (.dat (qB true), C0) := by
  obtain ⟨rfl, h⟩ := h
  exact same_ok 9 _ _ h (okD_mono hn (he.ok a))
set_option maxHeartbeats 4000000 in
theorem ok_Lcells {C0 : Store} (script_ : (List Int)) (most_ : Int) (hp : P_Lcells script_ most_) :
    M_Lcells [.dat (qScr script_), .dat (qI most_)] C0 = some (.dat ((qL qI) (F_Lcells script_ most_)), C0) := by
  unfold P_Lcells at hp
  refine def_E (e := (qL qI)) (st := (fun _ => C0)) (r := F_Lcells script_ most_) rfl ?_
  unfold F_Lcells
  change RunS (sSeq m_Lcells sNil) [some (.dat (qScr script_)), some (.dat (qI most_)), none, none, none, none] C0 _
  unfold m_Lcells
  refine rs_gen (CS.start) ?_
  intro C cs
  refine rs_assoc ?_
  refine rs_lt ?_
  intro cells_here_
  refine rs_newC (d := (qL qI) cells_here_) cs (orT_n (e := qI) (xs := (cutD script_ none (some most_))) (ys := [(0 : Int)]) (nb_x (ec1 (EvX.ed (sl_x (v_x rfl) on (os (v_x rfl)) (r_slScr script_ _ _)))) (r_listL (e := qI) (cutD script_ none (some most_)))) (fun _ => (lst_n (ac c_x an) (Nat.le_of_ble_eq_true rfl)))) ?_
  intro n1_ C cs
  refine rs_env [some (.dat (qScr script_)), some (.dat (qI most_)), some (.cel n1_), none, none, none] rfl ?_
  refine rs_assoc ?_
  have hP := hp
  refine rs_for (fun (s : (List Int)) ρ C => ∃ (j0 : Option Sv) (j1 : Option Sv) (j2 : Option Sv), ρ = [some (.dat (qScr script_)), some (.dat (qI most_)), some (.cel n1_), j0, j1, j2] ∧ CS C0 C [] [(n1_, (qL qI) s)]) (p := fun s2_ x6_ => lt s2_ fun cells_here_1_ => (most_ ≠ 0) ∧ lt ((x6_.1.fmod most_)) fun at_so_ => ((atI cells_here_1_ at_so_).isSome = true) ∧ (CMul x6_.2 (x6_.1 + (2 : Int))) ∧ ((ixN cells_here_1_.length at_so_).isSome = true)) (q := fun s7_ => True) (en_x (e := qI) (xs := (cutD script_ (some most_) (some (63 : Int)))) (sl_x (v_x rfl) (os (v_x rfl)) (os c_x) (r_slScr script_ _ _))) ⟨_, _, _, rfl, cs⟩ ?_ hP ?_ thP_true ?_
  · rintro s2_ ρ C ⟨n3_, n4_, n5_, rfl, cs⟩
    exact rfl
  · rintro s2_ x6_ ρ C hx6_ ⟨n3_, n4_, n5_, rfl, cs⟩ hp
    refine ⟨[some (.dat (qScr script_)), some (.dat (qI most_)), some (.cel n1_), some (.dat (qI x6_.1)), some (.dat (qI x6_.2)), n5_], rfl, ?_⟩
    refine rs_last ?_
    refine rs_lt ?_
    intro cells_here_1_
    refine rs_env [some (.dat (qScr script_)), some (.dat (qI most_)), some (.cel n1_), some (.dat (qI x6_.1)), some (.dat (qI x6_.2)), n5_] rfl ?_
    refine rs_assoc ?_
    obtain ⟨g1, hp⟩ := hp
    refine rs_lt ?_
    intro at_so_
    refine rs_set (d := (qI at_so_)) (bin_x (b_x (ec1 (EvX.ed (v_x rfl))) (r_intI x6_.1)) (EvX.ed (v_x rfl)) (r_modI (a := x6_.1) (b := most_) g1)) ?_
    refine rs_env [some (.dat (qScr script_)), some (.dat (qI most_)), some (.cel n1_), some (.dat (qI x6_.1)), some (.dat (qI x6_.2)), some (.dat (qI at_so_))] rfl ?_
    obtain ⟨g2, hp⟩ := hp
    obtain ⟨g3, hp⟩ := hp
    have g4 := hp
    refine rs_lt ?_
    intro cells_here_2_
    refine rs_putL (e := qI) (xs := cells_here_1_) (j := at_so_) (v := ((atD cells_here_1_ at_so_) + (x6_.2 * (x6_.1 + (2 : Int))))) (bin_x (bin_p (v_c rfl (cs.getL 0 rfl)) (EvX.ed (v_x rfl)) (r_ixL (e := qI) (xs := cells_here_1_) (i := at_so_) g2)) (EvX.ed (bin_x (v_x rfl) (EvX.ed (bin_x (v_x rfl) (EvX.ed c_x) (r_addI x6_.1 (2 : Int)))) (r_mulI (a := x6_.2) (b := (x6_.1 + (2 : Int))) g3))) (r_addI (atD cells_here_1_ at_so_) (x6_.2 * (x6_.1 + (2 : Int))))) rfl (cs.getL 0 rfl) (EvX.ed (v_x rfl)) g4 ?_
    refine rs_gen (CS.putL cs 0 ((qL qI) cells_here_2_) rfl) ?_
    intro C cs
    exact rs_end ⟨_, _, _, rfl, cs⟩
  · rintro s7_ ρ C ⟨n3_, n4_, n5_, rfl, cs⟩ hp
    refine rs_lt ?_
    intro cells_here_3_
    exact rs_retc (v_s rfl) (cs.geL 0 rfl) (cs.getL 0 rfl) cs.exit0

set_option maxHeartbeats 4000000 in
theorem ok_Lbox {C0 : Store} (script_ : (List Int)) (k_ : Int) (hp : P_Lbox script_ k_) :
    M_Lbox [.dat ((qL qI) script_), .dat (qI k_)] C0 = some ((qL qI) (F_Lbox script_ k_), C0) := by
  unfold P_Lbox at hp
  refine def_N (e := (qL qI)) (st := (fun _ => C0)) (r := F_Lbox script_ k_) rfl ?_
  unfold F_Lbox
  change RunS (sSeq m_Lbox sNil) [some (.dat ((qL qI) script_)), some (.dat (qI k_)), none] C0 _
  unfold m_Lbox
  refine rs_gen (CS.start) ?_
  intro C cs
  refine rs_assoc ?_
  obtain ⟨g2, hp⟩ := hp
  refine rs_lt ?_
  intro cell_
  refine rs_set (d := (qI cell_)) (if_x (e := qI) (x := (atD script_ k_)) (y := (0 : Int)) (tb_t (b := decide (k_ < (script_.length : Int))) (bin_x (v_x rfl) (EvX.ed (b_x (ec1 (EvX.ed (v_x rfl))) (r_lenL (e := qI) script_))) (r_ltI k_ (script_.length : Int)))) (fun hc => (bin_x (v_x rfl) (EvX.ed (v_x rfl)) (r_ixL (e := qI) (xs := script_) (i := k_) (g2 hc)))) (fun hc => c_x)) ?_
  refine rs_env [some (.dat ((qL qI) script_)), some (.dat (qI k_)), some (.dat (qI cell_))] rfl ?_
  obtain ⟨g3, hp⟩ := hp
  obtain ⟨g4, hp⟩ := hp
  have g5 := hp
  exact rs_retNew (lst_n (ac (bin_x (b_x (ec1 (EvX.ed (v_x rfl))) (r_absI cell_)) (EvX.ed (b_x (ec1 (EvX.ed (bin_x (b_x (ec1 (EvX.ed (v_x rfl))) (r_absI cell_)) (EvX.ed (bin_x c_x (EvX.ed c_x) (r_powI (a := (10 : Int)) (b := (18 : Int)) g3))) (r_geI (if cell_ < 0 then -cell_ else cell_) ((10 : Int) ^ (18 : Int).toNat))))) (r_intB (decide (((10 : Int) ^ (18 : Int).toNat) ≤ (if cell_ < 0 then -cell_ else cell_)))))) (r_mulI (a := (if cell_ < 0 then -cell_ else cell_)) (b := (if decide (((10 : Int) ^ (18 : Int).toNat) ≤ (if cell_ < 0 then -cell_ else cell_)) = true then 1 else 0)) g4)) (ac (bin_x (bin_x (bin_x (b_x (ec1 (EvX.ed (v_x rfl))) (r_intI cell_)) (EvX.ed c_x) (r_modI (a := cell_) (b := (2305843009213693951 : Int)) (by decide))) (EvX.ed (bin_x c_x (EvX.ed (v_x rfl)) (r_mulI (a := (39373 : Int)) (b := k_) g5))) (r_addI (cell_.fmod (2305843009213693951 : Int)) ((39373 : Int) * k_))) (EvX.ed c_x) (r_addI ((cell_.fmod (2305843009213693951 : Int)) + ((39373 : Int) * k_)) (103 : Int))) (ac c_x an))) (Nat.le_of_ble_eq_true rfl)) cs.len cs.exit0

set_option maxHeartbeats 4000000 in
theorem ok_Ltake {C0 : Store} {b0 : Nat} (box_here_ : Bx) (below_ : Int) (hc0 : C0[b0]? = some (qBx box_here_)) (hp : P_Ltake box_here_ below_) :
    M_Ltake [.cel b0, .dat (qI below_)] C0 = some (.dat (qI (F_Ltake box_here_ below_).1), C0.set b0 (qBx (F_Ltake box_here_ below_).2)) := by
  unfold P_Ltake at hp
  refine def_E (e := (fun (r : Int × Bx) => qI r.1)) (st := (fun r => C0.set b0 (qBx r.2))) (r := F_Ltake box_here_ below_) rfl ?_
  unfold F_Ltake
  change RunS (sSeq m_Ltake sNil) [some (.cel b0), some (.dat (qI below_)), none, none, none, none] C0 _
  unfold m_Ltake
  refine rs_gen (CS.start1 hc0) ?_
  intro C cs
  refine rs_assoc ?_
  obtain ⟨g1, hp⟩ := hp
  refine rs_if (b := decide ((0 : Int) < (atD box_here_ (0 : Int)))) (tb_t (b := decide ((0 : Int) < (atD box_here_ (0 : Int)))) (bin_x (bin_p (v_c rfl (cs.getP 0 rfl)) (EvX.ed c_x) (r_ixL (e := qI) (xs := box_here_) (i := (0 : Int)) g1)) (EvX.ed c_x) (r_gtI (atD box_here_ (0 : Int)) (0 : Int)))) (fun hc => ?_) (fun hc => ?_)
  ·
    replace hp := ite_t hc hp
    refine rs_assoc ?_
    obtain ⟨g2, hp⟩ := hp
    obtain ⟨g3, hp⟩ := hp
    refine rs_lt ?_
    intro drawn_
    refine rs_set (d := (qI drawn_)) (bin_x (b_x (ec1 (EvX.ed (bin_p (v_c rfl (cs.getP 0 rfl)) (EvX.ed c_x) (r_ixL (e := qI) (xs := box_here_) (i := (0 : Int)) g2)))) (r_intI (atD box_here_ (0 : Int)))) (EvX.ed (v_x rfl)) (r_modI (a := (atD box_here_ (0 : Int))) (b := below_) g3)) ?_
    refine rs_env [some (.cel b0), some (.dat (qI below_)), none, none, none, some (.dat (qI drawn_))] rfl ?_
    refine rs_assoc ?_
    obtain ⟨g4, hp⟩ := hp
    obtain ⟨g5, hp⟩ := hp
    have g6 := hp
    refine rs_lt ?_
    intro box_here_1_
    refine rs_putL (e := qI) (xs := box_here_) (j := (0 : Int)) (v := ((atD box_here_ (0 : Int)).fdiv below_)) (bin_x (bin_p (v_c rfl (cs.getP 0 rfl)) (EvX.ed c_x) (r_ixL (e := qI) (xs := box_here_) (i := (0 : Int)) g4)) (EvX.ed (v_x rfl)) (r_divI (a := (atD box_here_ (0 : Int))) (b := below_) g5)) rfl (cs.getP 0 rfl) (EvX.ed c_x) g6 ?_
    refine rs_gen (CS.putP cs 0 (qBx box_here_1_) rfl) ?_
    intro C cs
    exact rs_ret (v_x rfl) cs.exit1
  ·
    replace hp := ite_f hc hp
    refine rs_nil ?_
    refine rs_assoc ?_
    obtain ⟨g7, hp⟩ := hp
    obtain ⟨g8, hp⟩ := hp
    refine rs_lt ?_
    intro box_here_2_
    refine rs_putL (e := qI) (xs := box_here_) (j := (2 : Int)) (v := ((atD box_here_ (2 : Int)) + (1 : Int))) (bin_x (bin_p (v_c rfl (cs.getP 0 rfl)) (EvX.ed c_x) (r_ixL (e := qI) (xs := box_here_) (i := (2 : Int)) g7)) (EvX.ed c_x) (r_addI (atD box_here_ (2 : Int)) (1 : Int))) rfl (cs.getP 0 rfl) (EvX.ed c_x) g8 ?_
    refine rs_gen (CS.putP cs 0 (qBx box_here_2_) rfl) ?_
    intro C cs
    refine rs_assoc ?_
    obtain ⟨g9, hp⟩ := hp
    obtain ⟨g10, hp⟩ := hp
    obtain ⟨g11, hp⟩ := hp
    obtain ⟨g12, hp⟩ := hp
    obtain ⟨g13, hp⟩ := hp
    refine rs_lt ?_
    intro once_
    refine rs_set (d := (qI once_)) (bin_x (b_x (ec1 (EvX.ed (bin_x (bin_x (bin_p (v_c rfl (cs.getP 0 rfl)) (EvX.ed c_x) (r_ixL (e := qI) (xs := box_here_2_) (i := (1 : Int)) g9)) (EvX.ed (bin_x c_x (EvX.ed (bin_p (v_c rfl (cs.getP 0 rfl)) (EvX.ed c_x) (r_ixL (e := qI) (xs := box_here_2_) (i := (2 : Int)) g10))) (r_mulI (a := (48271 : Int)) (b := (atD box_here_2_ (2 : Int))) g11))) (r_addI (atD box_here_2_ (1 : Int)) ((48271 : Int) * (atD box_here_2_ (2 : Int))))) (EvX.ed (bin_x c_x (EvX.ed (bin_p (v_c rfl (cs.getP 0 rfl)) (EvX.ed c_x) (r_ixL (e := qI) (xs := box_here_2_) (i := (2 : Int)) g12))) (r_addI (39373 : Int) (atD box_here_2_ (2 : Int))))) (r_mulI (a := ((atD box_here_2_ (1 : Int)) + ((48271 : Int) * (atD box_here_2_ (2 : Int))))) (b := ((39373 : Int) + (atD box_here_2_ (2 : Int)))) g13)))) (r_intI (((atD box_here_2_ (1 : Int)) + ((48271 : Int) * (atD box_here_2_ (2 : Int)))) * ((39373 : Int) + (atD box_here_2_ (2 : Int)))))) (EvX.ed c_x) (r_modI (a := (((atD box_here_2_ (1 : Int)) + ((48271 : Int) * (atD box_here_2_ (2 : Int)))) * ((39373 : Int) + (atD box_here_2_ (2 : Int))))) (b := (2147483647 : Int)) (by decide))) ?_
    refine rs_env [some (.cel b0), some (.dat (qI below_)), some (.dat (qI once_)), none, none, none] rfl ?_
    refine rs_assoc ?_
    refine rs_lt ?_
    intro far_
    refine rs_set (d := (qI far_)) (bin_x (bin_x (b_x (ec1 (EvX.ed (v_x rfl))) (r_intI once_)) (EvX.ed c_x) (r_modI (a := once_) (b := (40009 : Int)) (by decide))) (EvX.ed c_x) (r_addI (once_.fmod (40009 : Int)) (7 : Int))) ?_
    refine rs_env [some (.cel b0), some (.dat (qI below_)), some (.dat (qI once_)), some (.dat (qI far_)), none, none] rfl ?_
    refine rs_assoc ?_
    obtain ⟨g14, hp⟩ := hp
    obtain ⟨g15, hp⟩ := hp
    obtain ⟨g16, hp⟩ := hp
    obtain ⟨g17, hp⟩ := hp
    refine rs_lt ?_
    intro twice_
    refine rs_set (d := (qI twice_)) (bin_x (b_x (ec1 (EvX.ed (bin_x (bin_x (bin_x (v_x rfl) (EvX.ed (bin_p (v_c rfl (cs.getP 0 rfl)) (EvX.ed c_x) (r_ixL (e := qI) (xs := box_here_2_) (i := (2 : Int)) g14))) (r_addI once_ (atD box_here_2_ (2 : Int)))) (EvX.ed (bin_x (bin_p (v_c rfl (cs.getP 0 rfl)) (EvX.ed c_x) (r_ixL (e := qI) (xs := box_here_2_) (i := (1 : Int)) g15)) (EvX.ed c_x) (r_divI (a := (atD box_here_2_ (1 : Int))) (b := (1000003 : Int)) g16))) (r_addI (once_ + (atD box_here_2_ (2 : Int))) ((atD box_here_2_ (1 : Int)).fdiv (1000003 : Int)))) (EvX.ed (v_x rfl)) (r_mulI (a := ((once_ + (atD box_here_2_ (2 : Int))) + ((atD box_here_2_ (1 : Int)).fdiv (1000003 : Int)))) (b := far_) g17)))) (r_intI (((once_ + (atD box_here_2_ (2 : Int))) + ((atD box_here_2_ (1 : Int)).fdiv (1000003 : Int))) * far_))) (EvX.ed c_x) (r_modI (a := (((once_ + (atD box_here_2_ (2 : Int))) + ((atD box_here_2_ (1 : Int)).fdiv (1000003 : Int))) * far_)) (b := (2147483629 : Int)) (by decide))) ?_
    refine rs_env [some (.cel b0), some (.dat (qI below_)), some (.dat (qI once_)), some (.dat (qI far_)), some (.dat (qI twice_)), none] rfl ?_
    obtain ⟨g18, hp⟩ := hp
    obtain ⟨g19, hp⟩ := hp
    have g20 := hp
    exact rs_ret (bin_x (b_x (ec1 (EvX.ed (bin_x (bin_x (b_x (ec1 (EvX.ed (bin_x (bin_x (v_x rfl) (EvX.ed c_x) (r_mulI (a := twice_) (b := (48271 : Int)) g18)) (EvX.ed (v_x rfl)) (r_addI (twice_ * (48271 : Int)) once_)))) (r_intI ((twice_ * (48271 : Int)) + once_))) (EvX.ed c_x) (r_modI (a := ((twice_ * (48271 : Int)) + once_)) (b := (2147483587 : Int)) (by decide))) (EvX.ed c_x) (r_divI (a := (((twice_ * (48271 : Int)) + once_).fmod (2147483587 : Int))) (b := (64 : Int)) g19)))) (r_intI ((((twice_ * (48271 : Int)) + once_).fmod (2147483587 : Int)).fdiv (64 : Int)))) (EvX.ed (v_x rfl)) (r_modI (a := ((((twice_ * (48271 : Int)) + once_).fmod (2147483587 : Int)).fdiv (64 : Int))) (b := below_) g20)) cs.exit1

set_option maxHeartbeats 4000000 in
theorem ok_Lpairs {C0 : Store} (some_ : (List Tx)) (hp : P_Lpairs some_) :
    M_Lpairs [.dat ((qL qS) some_)] C0 = some (.dat ((qL (qT qS)) (F_Lpairs some_)), C0) := by
  unfold P_Lpairs at hp
  refine def_E (e := (qL (qT qS))) (st := (fun _ => C0)) (r := F_Lpairs some_) rfl ?_
  unfold F_Lpairs
  change RunS (sSeq m_Lpairs sNil) [some (.dat ((qL qS) some_)), none, none, none] C0 _
  unfold m_Lpairs
  refine rs_gen (CS.start) ?_
  intro C cs
  refine rs_assoc ?_
  refine rs_lt ?_
  intro found_
  refine rs_set (d := ((qL (qT qS)) found_)) (fr_x (lst_n an (Nat.le_of_ble_eq_true rfl))) ?_
  refine rs_env [some (.dat ((qL qS) some_)), some (.dat ((qL (qT qS)) found_)), none, none] rfl ?_
  refine rs_assoc ?_
  obtain ⟨g1, hp⟩ := hp
  have hP := hp
  refine rs_for (fun (s : (List (List Tx))) ρ C => ∃ (j0 : Option Sv) (j1 : Option Sv), ρ = [some (.dat ((qL qS) some_)), some (.dat ((qL (qT qS)) s)), j0, j1] ∧ CS C0 C [] []) (p := fun s1_ x4_ => lt s1_ fun found_1_ => ((cutD some_ (some (x4_ + (1 : Int))) none).length ≤ sizeLine) ∧ (∀ x5_ ∈ (cutD some_ (some (x4_ + (1 : Int))) none), ((atI some_ x4_).isSome = true)) ∧ (found_1_.length + ((cutD some_ (some (x4_ + (1 : Int))) none).map fun x5_ => [(atD some_ x4_), x5_]).length ≤ sizeLine)) (q := fun s6_ => True) (rg1_x (j := (some_.length : Int)) (ac (b_x (ec1 (EvX.ed (v_x rfl))) (r_lenL (e := qS) some_)) an) g1) ⟨_, _, rfl, cs⟩ ?_ hP ?_ thP_true ?_
  · rintro s1_ ρ C ⟨n2_, n3_, rfl, cs⟩
    exact rfl
  · rintro s1_ x4_ ρ C hx4_ ⟨n2_, n3_, rfl, cs⟩ hp
    refine ⟨[some (.dat ((qL qS) some_)), some (.dat ((qL (qT qS)) s1_)), some (.dat (qI x4_)), n3_], rfl, ?_⟩
    refine rs_last ?_
    refine rs_lt ?_
    intro found_1_
    refine rs_env [some (.dat ((qL qS) some_)), some (.dat ((qL (qT qS)) found_1_)), some (.dat (qI x4_)), n3_] rfl ?_
    obtain ⟨g3, hp⟩ := hp
    obtain ⟨g4, hp⟩ := hp
    have g5 := hp
    refine rs_lt ?_
    intro found_2_
    refine rs_set (d := ((qL (qT qS)) found_2_)) (bin_x (v_x rfl) (EvX.ed (fr_x (lcm_n (e := qS) (e' := (qT qS)) (xs := (cutD some_ (some (x4_ + (1 : Int))) none)) (w := fun x5_ => [(atD some_ x4_), x5_]) (sq_x (xs := (cutD some_ (some (x4_ + (1 : Int))) none).map qS) (sl_x (v_x rfl) (os (bin_x (v_x rfl) (EvX.ed c_x) (r_addI x4_ (1 : Int)))) on (r_slL (e := qS) some_ _ _)) rfl) g3 rfl (fun x5_ hx5_ => ⟨[some (.dat ((qL qS) some_)), some (.dat ((qL (qT qS)) found_1_)), some (.dat (qI x4_)), some (.dat (qS x5_))], rfl, (tup_x (ac (bin_x (v_x rfl) (EvX.ed (v_x rfl)) (r_ixL (e := qS) (xs := some_) (i := x4_) (g4 x5_ hx5_))) (ac (v_x rfl) an)) (Nat.le_of_ble_eq_true rfl))⟩)))) (r_addL (e := (qT qS)) (xs := found_1_) (ys := ((cutD some_ (some (x4_ + (1 : Int))) none).map fun x5_ => [(atD some_ x4_), x5_])) g5)) ?_
    refine rs_env [some (.dat ((qL qS) some_)), some (.dat ((qL (qT qS)) found_2_)), some (.dat (qI x4_)), n3_] rfl ?_
    exact rs_end ⟨_, _, rfl, cs⟩
  · rintro s6_ ρ C ⟨n2_, n3_, rfl, cs⟩ hp
    refine rs_lt ?_
    intro found_3_
    exact rs_ret (v_x rfl) cs.exit0

set_option maxHeartbeats 4000000 in
theorem ok_uppers {C0 : Store} (kinds_ : (List (Tx × List Tx × Bool))) (hp : P_uppers kinds_) :
    M_uppers [.dat ((qT (qP3 qS (qT qS) qB)) kinds_)] C0 = some (.dat ((qDK (qDK qB)) (F_uppers kinds_)), C0) := by
  unfold P_uppers at hp
  refine def_E (e := (qDK (qDK qB))) (st := (fun _ => C0)) (r := F_uppers kinds_) rfl ?_
  unfold F_uppers
  change RunS (sSeq m_uppers sNil) [some (.dat ((qT (qP3 qS (qT qS) qB)) kinds_)), none, none, none, none, none, none] C0 _
  unfold m_uppers
  refine rs_gen (CS.start) ?_
  intro C cs
  refine rs_assoc ?_
  refine rs_lt ?_
  intro above_
  refine rs_newC (d := (qDK (qDK qB)) above_) cs ndK ?_
  intro n1_ C cs
  refine rs_env [some (.dat ((qT (qP3 qS (qT qS) qB)) kinds_)), some (.cel n1_), none, none, none, none, none] rfl ?_
  refine rs_assoc ?_
  have hP := hp
  refine rs_for (fun (s : (List (Tx × (List (Tx × Bool))))) ρ C => ∃ (j0 : Option Sv) (j1 : Option Sv) (j2 : Option Sv) (j3 : Option Sv) (j4 : Option Sv), ρ = [some (.dat ((qT (qP3 qS (qT qS) qB)) kinds_)), some (.cel n1_), j0, j1, j2, j3, j4] ∧ CS C0 C [] [(n1_, (qDK (qDK qB)) s)]) (p := fun s2_ x8_ => lt s2_ fun above_1_ => (lt ([(x8_.1, true)]) fun mine_ => lpP (σ := (List (Tx × Bool))) (ρ := (Sp ((List (Tx × Bool))) (Sp ((List (Tx × (List (Tx × Bool))))) ((List (Tx × (List (Tx × Bool)))))))) x8_.2.1 mine_ (fun s11_ x13_ => lt s11_ fun mine_1_ => lt ((kMerge mine_1_ (kAt above_1_ x13_))) fun mine_2_ => .nx mine_2_) (fun s11_ x13_ => lt s11_ fun mine_1_ => (kHas above_1_ x13_ = true) ∧ (mine_1_.length + (kAt above_1_ x13_).length ≤ sizeLine))) ∧ thP (σ := (List (Tx × Bool))) (ρ := (Sp ((List (Tx × (List (Tx × Bool))))) ((List (Tx × (List (Tx × Bool))))))) (lt ([(x8_.1, true)]) fun mine_ => th (lp (σ := (List (Tx × Bool))) (ρ := (Sp ((List (Tx × Bool))) (Sp ((List (Tx × (List (Tx × Bool))))) ((List (Tx × (List (Tx × Bool)))))))) x8_.2.1 mine_ (fun s11_ x13_ => lt s11_ fun mine_1_ => lt ((kMerge mine_1_ (kAt above_1_ x13_))) fun mine_2_ => .nx mine_2_)) fun s14_ => lt s14_ fun mine_3_ => .nx mine_3_) (fun s15_ => lt s15_ fun mine_4_ => (above_1_.length < sizeLine))) (q := fun s19_ => True) (sq_x (xs := kinds_.map (qP3 qS (qT qS) qB)) (v_x rfl) rfl) ⟨_, _, _, _, _, rfl, cs⟩ ?_ hP ?_ thP_true ?_
  · rintro s2_ ρ C ⟨n3_, n4_, n5_, n6_, n7_, rfl, cs⟩
    exact rfl
  · rintro s2_ x8_ ρ C hx8_ ⟨n3_, n4_, n5_, n6_, n7_, rfl, cs⟩ hp
    refine ⟨[some (.dat ((qT (qP3 qS (qT qS) qB)) kinds_)), some (.cel n1_), some (.dat (qS x8_.1)), some (.dat ((qT qS) x8_.2.1)), some (.dat (qB x8_.2.2)), n6_, n7_], rfl, ?_⟩
    refine rs_last ?_
    refine rs_lt ?_
    intro above_1_
    refine rs_env [some (.dat ((qT (qP3 qS (qT qS) qB)) kinds_)), some (.cel n1_), some (.dat (qS x8_.1)), some (.dat ((qT qS) x8_.2.1)), some (.dat (qB x8_.2.2)), n6_, n7_] rfl ?_
    refine rs_assoc ?_
    obtain ⟨hp, hQ⟩ := hp
    refine rs_frz (fun (K9_ : Store) => (fun (s : (List (Tx × Bool))) ρ C => ∃ (j0 : Option Sv) (a0 : Nat), ρ = [some (.dat ((qT (qP3 qS (qT qS) qB)) kinds_)), some (.cel n1_), some (.dat (qS x8_.1)), some (.dat ((qT qS) x8_.2.1)), some (.dat (qB x8_.2.2)), some (.cel a0), j0] ∧ CS K9_ C [(n1_, (qDK (qDK qB)) above_1_)] [(a0, (qDK qB) s)])) (fun (s : (List (Tx × Bool))) ρ C => ∃ (j0 : Option Sv), ρ = [some (.dat ((qT (qP3 qS (qT qS) qB)) kinds_)), some (.cel n1_), some (.dat (qS x8_.1)), some (.dat ((qT qS) x8_.2.1)), some (.dat (qB x8_.2.2)), some (.dat ((qDK qB) s)), j0] ∧ CS C0 C [] [(n1_, (qDK (qDK qB)) above_1_)]) (q := fun s15_ => lt s15_ fun mine_4_ => (above_1_.length < sizeLine)) cs (fun K9_ cs0 cs => ?_) ?_ hQ ?_
    ·
      refine rs_last ?_
      refine rs_gen cs ?_
      intro C cs
      refine rs_assoc ?_
      refine rs_lt ?_
      intro mine_
      refine rs_newC (d := (qDK qB) mine_) cs (ndspS (e := qB) (v_x rfl) c_x) ?_
      intro n10_ C cs
      refine rs_env [some (.dat ((qT (qP3 qS (qT qS) qB)) kinds_)), some (.cel n1_), some (.dat (qS x8_.1)), some (.dat ((qT qS) x8_.2.1)), some (.dat (qB x8_.2.2)), some (.cel n10_), n7_] rfl ?_
      have hP := hp
      refine rs_for (fun (s : (List (Tx × Bool))) ρ C => ∃ (j0 : Option Sv), ρ = [some (.dat ((qT (qP3 qS (qT qS) qB)) kinds_)), some (.cel n1_), some (.dat (qS x8_.1)), some (.dat ((qT qS) x8_.2.1)), some (.dat (qB x8_.2.2)), some (.cel n10_), j0] ∧ CS K9_ C [(n1_, (qDK (qDK qB)) above_1_)] [(n10_, (qDK qB) s)]) (p := fun s11_ x13_ => lt s11_ fun mine_1_ => (kHas above_1_ x13_ = true) ∧ (mine_1_.length + (kAt above_1_ x13_).length ≤ sizeLine)) (q := fun s14_ => True) (sq_x (xs := x8_.2.1.map qS) (v_x rfl) rfl) ⟨_, rfl, cs⟩ ?_ hP ?_ thP_true ?_
      · rintro s11_ ρ C ⟨n12_, rfl, cs⟩
        exact rfl
      · rintro s11_ x13_ ρ C hx13_ ⟨n12_, rfl, cs⟩ hp
        refine ⟨[some (.dat ((qT (qP3 qS (qT qS) qB)) kinds_)), some (.cel n1_), some (.dat (qS x8_.1)), some (.dat ((qT qS) x8_.2.1)), some (.dat (qB x8_.2.2)), some (.cel n10_), some (.dat (qS x13_))], rfl, ?_⟩
        refine rs_last ?_
        refine rs_lt ?_
        intro mine_1_
        refine rs_env [some (.dat ((qT (qP3 qS (qT qS) qB)) kinds_)), some (.cel n1_), some (.dat (qS x8_.1)), some (.dat ((qT qS) x8_.2.1)), some (.dat (qB x8_.2.2)), some (.cel n10_), some (.dat (qS x13_))] rfl ?_
        obtain ⟨g1, hp⟩ := hp
        have g2 := hp
        refine rs_lt ?_
        intro mine_2_
        refine rs_upd (e := qB) (xs := mine_1_) (ys := (kAt above_1_ x13_)) rfl (cs.getL 0 rfl) (bin_p (v_c rfl (cs.getP 0 rfl)) (EvX.ed (v_x rfl)) (r_ixDK (f := (qDK qB)) (d := above_1_) (k := x13_) g1)) g2 ?_
        refine rs_gen (CS.putL cs 0 ((qDK qB) mine_2_) rfl) ?_
        intro C cs
        exact rs_end ⟨_, rfl, cs⟩
      · rintro s14_ ρ C ⟨n12_, rfl, cs⟩ hp
        refine rs_lt ?_
        intro mine_3_
        exact rs_endj ⟨_, _, rfl, cs⟩
    · rintro K9_ cs0 s ρ C ⟨n18_, n17_, rfl, cs⟩
      exact ⟨_, (consEq rfl (consEq (frz_old (cs.ltP 0 rfl)) (consEq rfl (consEq rfl (consEq rfl (consEq (frz_new (cs.geL 0 rfl) (cs.getL 0 rfl) rfl) (consEq rfl rfl))))))), CS.unbase cs0 cs rfl ⟨rfl, rfl⟩⟩
    · rintro s15_ ρ C ⟨n16_, rfl, cs⟩ hp
      refine rs_lt ?_
      intro mine_4_
      have g3 := hp
      refine rs_lt ?_
      intro above_2_
      refine rs_putK (e := (qDK qB)) (xs := above_1_) (k := x8_.1) (v := mine_4_) (v_x rfl) rfl (cs.getL 0 rfl) (EvX.ed (v_x rfl)) g3 ?_
      refine rs_gen (CS.putL cs 0 ((qDK (qDK qB)) above_2_) rfl) ?_
      intro C cs
      exact rs_end ⟨_, _, _, _, _, rfl, cs⟩
  · rintro s19_ ρ C ⟨n3_, n4_, n5_, n6_, n7_, rfl, cs⟩ hp
    refine rs_lt ?_
    intro above_3_
    exact rs_retc (v_s rfl) (cs.geL 0 rfl) (cs.getL 0 rfl) cs.exit0

set_option maxHeartbeats 4000000 in
theorem ok_is_shape_below {C0 : Store} (above_ : (List (Tx × (List (Tx × Bool))))) (one_ : (List Tx)) (other_ : (List Tx)) (hp : P_is_shape_below above_ one_ other_) :
    M_is_shape_below [.dat ((qDK (qDK qB)) above_), .dat ((qT qS) one_), .dat ((qT qS) other_)] C0 = some (.dat (qB (F_is_shape_below above_ one_ other_)), C0) := by
  unfold P_is_shape_below at hp
  refine def_E (e := qB) (st := (fun _ => C0)) (r := F_is_shape_below above_ one_ other_) rfl ?_
  unfold F_is_shape_below
  change RunS (sSeq m_is_shape_below sNil) [some (.dat ((qDK (qDK qB)) above_)), some (.dat ((qT qS) one_)), some (.dat ((qT qS) other_)), none, none] C0 _
  unfold m_is_shape_below
  refine rs_gen (CS.start) ?_
  intro C cs
  obtain ⟨g2, hp⟩ := hp
  have g3 := hp
  exact rs_ret (b_x (ec1 (EvX.ed (fr_x (lcm_n (e := (qP qS qS)) (e' := qB) (xs := (one_.zip other_)) (w := fun x1_ => (kHas (kAt above_ x1_.1) x1_.2)) (zpT_x (e := qS) (e' := qS) (xs := one_) (ys := other_) (v_x rfl) (v_x rfl)) g2 rfl (fun x1_ hx1_ => ⟨[some (.dat ((qDK (qDK qB)) above_)), some (.dat ((qT qS) one_)), some (.dat ((qT qS) other_)), some (.dat (qS x1_.1)), some (.dat (qS x1_.2))], rfl, (bin_x (v_x rfl) (EvX.ed (bin_x (v_x rfl) (EvX.ed (v_x rfl)) (r_ixDK (f := (qDK qB)) (d := above_) (k := x1_.1) (g3 x1_ hx1_)))) (r_inDK (f := qB) x1_.2 (kAt above_ x1_.1)))⟩))))) (r_all ((one_.zip other_).map fun x1_ => (kHas (kAt above_ x1_.1) x1_.2)))) cs.exit0

set_option maxHeartbeats 4000000 in
theorem ok_Table__nearer_than {C0 : Store} {b0 : Nat} (self_ : ((List (Tx × List Tx × Bool)) × (List (Tx × (List (Tx × Bool)))) × (List (Tx × List Tx)))) (shape_ : (List Tx)) (hc0 : C0[b0]? = some ((fun (p : (List (Tx × List Tx × Bool)) × (List (Tx × (List (Tx × Bool)))) × (List (Tx × List Tx))) => D.ins "Table" [("kinds", (qT (qP3 qS (qT qS) qB)) p.1), ("above", (qDK (qDK qB)) p.2.1), ("methods", (qL (qP qS (qT qS))) p.2.2)]) self_)) (hp : P_Table__nearer_than self_ shape_) :
    M_Table__nearer_than [.cel b0, .dat ((qT qS) shape_)] C0 = some (.dat ((qL qS) (F_Table__nearer_than self_ shape_)), C0) := by
  unfold P_Table__nearer_than at hp
  refine def_E (e := (qL qS)) (st := (fun _ => C0)) (r := F_Table__nearer_than self_ shape_) rfl ?_
  unfold F_Table__nearer_than
  change RunS (sSeq m_Table__nearer_than sNil) [some (.cel b0), some (.dat ((qT qS) shape_)), none, none] C0 _
  unfold m_Table__nearer_than
  refine rs_gen (CS.start1 hc0) ?_
  intro C cs
  obtain ⟨g3, hp⟩ := hp
  have g4 := hp
  exact rs_ret (fr_x (lc_n (e := (qP qS (qT qS))) (e' := qS) (xs := self_.2.2) (p := fun x1_ => ((!decide (x1_.2 = shape_)) && (F_is_shape_below self_.2.1 x1_.2 shape_))) (w := fun x1_ => x1_.1) (sq_x (xs := self_.2.2.map (qP qS (qT qS))) (fld_x (v_c rfl (cs.getP 0 rfl)) (lk1 (by decide +kernel) (lk1 (by decide +kernel) lk0))) rfl) g3 rfl (fun x1_ hx1_ => ⟨[some (.cel b0), some (.dat ((qT qS) shape_)), some (.dat (qS x1_.1)), some (.dat ((qT qS) x1_.2))], rfl, (and_t (b := (!decide (x1_.2 = shape_))) (c := (F_is_shape_below self_.2.1 x1_.2 shape_)) (tb_t (b := (!decide (x1_.2 = shape_))) (bin_x (v_x rfl) (EvX.ed (v_x rfl)) (r_ne (e := (qT qS)) x1_.2 shape_))) (fun hc => (tt_t (b := (F_is_shape_below self_.2.1 x1_.2 shape_)) (EvX.ed (call_x (sc_x (d := (qDK (qDK qB)) self_.2.1) (fld_x (v_c rfl (cs.getP 0 rfl)) (lk1 (by decide +kernel) lk0)) (sc_x (d := (qT qS) x1_.2) (v_x rfl) (sc_x (d := (qT qS) shape_) (v_x rfl) sn))) rfl (ok_is_shape_below self_.2.1 x1_.2 shape_ ((g4 x1_ hx1_) hc)))) (t_B _)))), fun hc => (v_x rfl)⟩))) (cs.exit1r hc0)

set_option maxHeartbeats 4000000 in
theorem ok_Table___init__ {C0 : Store} {b0 : Nat} (generic_ : ((List (Tx × List Tx × Bool)) × Int × (List (Tx × List Tx)))) (hc0 : C0[b0]? = some ((fun (p : Unit) => D.ins "Table" []) ())) (hp : P_Table___init__ generic_) :
    M_Table___init__ [.cel b0, .dat ((qP3 (qT (qP3 qS (qT qS) qB)) qI (qT (qP qS (qT qS)))) generic_)] C0 = some (.dat .non, C0.set b0 ((fun (p : (List (Tx × List Tx × Bool)) × (List (Tx × (List (Tx × Bool)))) × (List (Tx × List Tx)) × (List (Tx × List Tx))) => D.ins "Table" [("kinds", (qT (qP3 qS (qT qS) qB)) p.1), ("above", (qDK (qDK qB)) p.2.1), ("methods", (qL (qP qS (qT qS))) p.2.2.1), ("nearer", (qDK (qL qS)) p.2.2.2)]) (F_Table___init__ generic_))) := by
  unfold P_Table___init__ at hp
  refine def_I (st := (fun r => C0.set b0 ((fun (p : (List (Tx × List Tx × Bool)) × (List (Tx × (List (Tx × Bool)))) × (List (Tx × List Tx)) × (List (Tx × List Tx))) => D.ins "Table" [("kinds", (qT (qP3 qS (qT qS) qB)) p.1), ("above", (qDK (qDK qB)) p.2.1), ("methods", (qL (qP qS (qT qS))) p.2.2.1), ("nearer", (qDK (qL qS)) p.2.2.2)]) r))) (r := F_Table___init__ generic_) rfl ?_
  unfold F_Table___init__
  change RunS (sSeq m_Table___init__ sNil) [some (.cel b0), some (.dat ((qP3 (qT (qP3 qS (qT qS) qB)) qI (qT (qP qS (qT qS)))) generic_)), none, none, none, none, none] C0 _
  unfold m_Table___init__
  refine rs_gen (CS.start1 hc0) ?_
  intro C cs
  refine rs_assoc ?_
  refine rs_unp (d := (qP3 (qT (qP3 qS (qT qS) qB)) qI (qT (qP qS (qT qS)))) generic_) (ρ1 := [some (.cel b0), some (.dat ((qP3 (qT (qP3 qS (qT qS) qB)) qI (qT (qP qS (qT qS)))) generic_)), some (.dat ((qT (qP3 qS (qT qS) qB)) generic_.1)), some (.dat (qI generic_.2.1)), some (.dat ((qT (qP qS (qT qS))) generic_.2.2)), none, none]) (v_x rfl) rfl ?_
  refine rs_assoc ?_
  refine rs_lt ?_
  intro self_1_
  refine rs_fld (z := (qT (qP3 qS (qT qS) qB)) generic_.1) [] (v_x rfl) rfl (cs.getP 0 rfl) rfl (by decide +kernel) ?_
  refine rs_gen (CS.putP cs 0 ((fun (p : (List (Tx × List Tx × Bool))) => D.ins "Table" [("kinds", (qT (qP3 qS (qT qS) qB)) p)]) self_1_) rfl) ?_
  intro C cs
  refine rs_assoc ?_
  obtain ⟨g1, hp⟩ := hp
  refine rs_lt ?_
  intro self_2_
  refine rs_fld (z := (qDK (qDK qB)) (F_uppers generic_.1)) ["kinds"] (call_x (sc_x (d := (qT (qP3 qS (qT qS) qB)) generic_.1) (v_x rfl) sn) rfl (ok_uppers generic_.1 g1)) rfl (cs.getP 0 rfl) rfl (by decide +kernel) ?_
  refine rs_gen (CS.putP cs 0 ((fun (p : (List (Tx × List Tx × Bool)) × (List (Tx × (List (Tx × Bool))))) => D.ins "Table" [("kinds", (qT (qP3 qS (qT qS) qB)) p.1), ("above", (qDK (qDK qB)) p.2)]) self_2_) rfl) ?_
  intro C cs
  refine rs_assoc ?_
  obtain ⟨g2, hp⟩ := hp
  refine rs_lt ?_
  intro self_3_
  refine rs_fld (z := (qL (qP qS (qT qS))) (generic_.2.2.map fun x1_ => (x1_.1, x1_.2))) ["kinds", "above"] (fr_x (lcm_n (e := (qP qS (qT qS))) (e' := (qP qS (qT qS))) (xs := generic_.2.2) (w := fun x1_ => (x1_.1, x1_.2)) (sq_x (xs := generic_.2.2.map (qP qS (qT qS))) (v_x rfl) rfl) g2 rfl (fun x1_ hx1_ => ⟨[some (.cel b0), some (.dat ((qP3 (qT (qP3 qS (qT qS) qB)) qI (qT (qP qS (qT qS)))) generic_)), some (.dat ((qT (qP3 qS (qT qS) qB)) generic_.1)), some (.dat (qI generic_.2.1)), some (.dat ((qT (qP qS (qT qS))) generic_.2.2)), some (.dat (qS x1_.1)), some (.dat ((qT qS) x1_.2))], rfl, (tup_x (ac (v_x rfl) (ac (b_x (ec1 (EvX.ed (v_x rfl))) (r_tupleT (e := qS) x1_.2)) an)) (Nat.le_of_ble_eq_true rfl))⟩))) rfl (cs.getP 0 rfl) rfl (by decide +kernel) ?_
  refine rs_gen (CS.putP cs 0 ((fun (p : (List (Tx × List Tx × Bool)) × (List (Tx × (List (Tx × Bool)))) × (List (Tx × List Tx))) => D.ins "Table" [("kinds", (qT (qP3 qS (qT qS) qB)) p.1), ("above", (qDK (qDK qB)) p.2.1), ("methods", (qL (qP qS (qT qS))) p.2.2)]) self_3_) rfl) ?_
  intro C cs
  obtain ⟨g4, hp⟩ := hp
  have g5 := hp
  refine rs_lt ?_
  intro self_4_
  refine rs_fld (z := (qDK (qL qS)) (self_3_.2.2.foldl (fun acc x2_ => kPut acc x2_.1 (F_Table__nearer_than self_3_ x2_.2)) [])) ["kinds", "above", "methods"] (fr_x (dcm_n (e := (qP qS (qT qS))) (e' := (qL qS)) (ek := qS) (fk := kS) (fun _ => rfl) (fun _ _ => kS_inj) (xs := self_3_.2.2) (k := fun x2_ => x2_.1) (w := fun x2_ => (F_Table__nearer_than self_3_ x2_.2)) (sq_x (xs := self_3_.2.2.map (qP qS (qT qS))) (fld_x (v_c rfl (cs.getP 0 rfl)) (lk1 (by decide +kernel) (lk1 (by decide +kernel) lk0))) rfl) g5 rfl (fun x2_ hx2_ => ⟨[some (.cel b0), some (.dat ((qP3 (qT (qP3 qS (qT qS) qB)) qI (qT (qP qS (qT qS)))) generic_)), some (.dat ((qT (qP3 qS (qT qS) qB)) generic_.1)), some (.dat (qI generic_.2.1)), some (.dat ((qT (qP qS (qT qS))) generic_.2.2)), some (.dat (qS x2_.1)), some (.dat ((qT qS) x2_.2))], rfl, (v_x rfl), (meth_x (v_s rfl) (see_cel (cs.getP 0 rfl) rfl) (lkn1 (by decide +kernel) (lkn1 (by decide +kernel) (lkn1 (by decide +kernel) lkn0))) (sc_x (d := (qT qS) x2_.2) (v_x rfl) sn) rfl (ok_Table__nearer_than self_3_ x2_.2 (cs.getP 0 rfl) (g4 x2_ hx2_)))⟩))) rfl (cs.getP 0 rfl) rfl (by decide +kernel) ?_
  refine rs_gen (CS.putP cs 0 ((fun (p : (List (Tx × List Tx × Bool)) × (List (Tx × (List (Tx × Bool)))) × (List (Tx × List Tx)) × (List (Tx × List Tx))) => D.ins "Table" [("kinds", (qT (qP3 qS (qT qS) qB)) p.1), ("above", (qDK (qDK qB)) p.2.1), ("methods", (qL (qP qS (qT qS))) p.2.2.1), ("nearer", (qDK (qL qS)) p.2.2.2)]) self_4_) rfl) ?_
  intro C cs
  exact rs_fallI (cs.exit1)

set_option maxHeartbeats 4000000 in
theorem ok_every_choice {C0 : Store} (columns_ : (List (List Tx))) (hp : P_every_choice columns_) :
    M_every_choice [.dat ((qL (qL qS)) columns_)] C0 = some ((qL (qT qS)) (F_every_choice columns_), C0) := by
  unfold P_every_choice at hp
  refine def_N (e := (qL (qT qS))) (st := (fun _ => C0)) (r := F_every_choice columns_) rfl ?_
  unfold F_every_choice
  change RunS (sSeq m_every_choice sNil) [some (.dat ((qL (qL qS)) columns_)), none, none, none, none] C0 _
  unfold m_every_choice
  refine rs_gen (CS.start) ?_
  intro C cs
  refine rs_assoc ?_
  refine rs_lt ?_
  intro rows_
  refine rs_newC (d := (qL (qT qS)) rows_) cs (lst_n (ac (tup_x an (Nat.le_of_ble_eq_true rfl)) an) (Nat.le_of_ble_eq_true rfl)) ?_
  intro n1_ C cs
  refine rs_env [some (.dat ((qL (qL qS)) columns_)), some (.cel n1_), none, none, none] rfl ?_
  refine rs_assoc ?_
  have hP := hp
  refine rs_for (fun (s : (List (List Tx))) ρ C => ∃ (j0 : Option Sv) (j1 : Option Sv) (j2 : Option Sv) (a0 : Nat), ρ = [some (.dat ((qL (qL qS)) columns_)), some (.cel a0), j0, j1, j2] ∧ CS C0 C [] [(a0, (qL (qT qS)) s)]) (p := fun s2_ x7_ => lt s2_ fun rows_1_ => (∀ x8_ ∈ rows_1_, (∀ x9_ ∈ x7_, (x8_.length + [x9_].length ≤ sizeLine))) ∧ (((rows_1_.filter (fun x8_ => true)).flatMap fun x8_ => (x7_.filter fun x9_ => true).map fun x9_ => (x8_ ++ [x9_])).length ≤ sizeLine)) (q := fun s11_ => True) (sq_x (xs := columns_.map (qL qS)) (v_x rfl) rfl) ⟨_, _, _, _, rfl, cs⟩ ?_ hP ?_ thP_true ?_
  · rintro s2_ ρ C ⟨n4_, n5_, n6_, n3_, rfl, cs⟩
    exact rfl
  · rintro s2_ x7_ ρ C hx7_ ⟨n4_, n5_, n6_, n3_, rfl, cs⟩ hp
    refine ⟨[some (.dat ((qL (qL qS)) columns_)), some (.cel n3_), some (.dat ((qL qS) x7_)), n5_, n6_], rfl, ?_⟩
    refine rs_last ?_
    refine rs_lt ?_
    intro rows_1_
    refine rs_env [some (.dat ((qL (qL qS)) columns_)), some (.cel n3_), some (.dat ((qL qS) x7_)), n5_, n6_] rfl ?_
    obtain ⟨g3, hp⟩ := hp
    have g4 := hp
    refine rs_lt ?_
    intro rows_2_
    refine rs_newC (d := (qL (qT qS)) rows_2_) cs (lc2_n (e := (qT qS)) (e1 := qS) (e' := (qT qS)) (xs := rows_1_) (p := fun x8_ => true) (ys := fun x8_ => x7_) (q := fun x8_ x9_ => true) (w := fun x8_ x9_ => (x8_ ++ [x9_])) (sq_c rfl (cs.getL 0 rfl) rfl) (stays1 (cs.getL 0 rfl)) g4 (fun x8_ hx8_ => ⟨[some (.dat ((qL (qL qS)) columns_)), some (.cel n3_), some (.dat ((qL qS) x7_)), some (.dat ((qT qS) x8_)), none], rfl, yes_t, fun hc => ⟨_, (sq_x (xs := x7_.map qS) (v_x rfl) rfl), rfl, fun x9_ hx9_ => ⟨[some (.dat ((qL (qL qS)) columns_)), some (.cel n3_), some (.dat ((qL qS) x7_)), some (.dat ((qT qS) x8_)), some (.dat (qS x9_))], rfl, yes_t, fun hc1 => (bin_x (v_x rfl) (EvX.ed (tup_x (ac (v_x rfl) an) (Nat.le_of_ble_eq_true rfl))) (r_addT (e := qS) (xs := x8_) (ys := [x9_]) ((g3 x8_ hx8_) x9_ hx9_)))⟩⟩⟩)) ?_
    intro n10_ C cs
    refine rs_env [some (.dat ((qL (qL qS)) columns_)), some (.cel n10_), some (.dat ((qL qS) x7_)), n5_, n6_] rfl ?_
    exact rs_end ⟨_, _, _, _, rfl, (cs.sel [1] rfl)⟩
  · rintro s11_ ρ C ⟨n4_, n5_, n6_, n3_, rfl, cs⟩ hp
    refine rs_lt ?_
    intro rows_3_
    exact rs_retcN (v_s rfl) (cs.geL 0 rfl) (cs.getL 0 rfl) cs.exit0

set_option maxHeartbeats 4000000 in
theorem ok_shapes {C0 : Store} (generic_ : ((List (Tx × List Tx × Bool)) × Int × (List (Tx × List Tx)))) (hp : P_shapes generic_) :
    M_shapes [.dat ((qP3 (qT (qP3 qS (qT qS) qB)) qI (qT (qP qS (qT qS)))) generic_)] C0 = some ((qL (qT qS)) (F_shapes generic_), C0) := by
  unfold P_shapes at hp
  refine def_N (e := (qL (qT qS))) (st := (fun _ => C0)) (r := F_shapes generic_) rfl ?_
  unfold F_shapes
  change RunS (sSeq m_shapes sNil) [some (.dat ((qP3 (qT (qP3 qS (qT qS) qB)) qI (qT (qP qS (qT qS)))) generic_)), none, none, none, none, none] C0 _
  unfold m_shapes
  refine rs_gen (CS.start) ?_
  intro C cs
  refine rs_assoc ?_
  refine rs_unp (d := (qP3 (qT (qP3 qS (qT qS) qB)) qI (qT (qP qS (qT qS)))) generic_) (ρ1 := [some (.dat ((qP3 (qT (qP3 qS (qT qS) qB)) qI (qT (qP qS (qT qS)))) generic_)), none, some (.dat ((qT (qP3 qS (qT qS) qB)) generic_.1)), some (.dat (qI generic_.2.1)), some (.dat ((qT (qP qS (qT qS))) generic_.2.2)), none]) (v_x rfl) rfl ?_
  refine rs_assoc ?_
  obtain ⟨g1, hp⟩ := hp
  obtain ⟨g2, hp⟩ := hp
  refine rs_lt ?_
  intro names_
  refine rs_set (d := ((qL qS) names_)) (fr_x (nb_x (ec1 (EvX.ed (fr_x (lcm_n (e := (qP3 qS (qT qS) qB)) (e' := qS) (xs := generic_.1) (w := fun x1_ => x1_.1) (sq_x (xs := generic_.1.map (qP3 qS (qT qS) qB)) (v_x rfl) rfl) g1 rfl (fun x1_ hx1_ => ⟨[some (.dat ((qP3 (qT (qP3 qS (qT qS) qB)) qI (qT (qP qS (qT qS)))) generic_)), none, some (.dat ((qT (qP3 qS (qT qS) qB)) generic_.1)), some (.dat (qI generic_.2.1)), some (.dat ((qT (qP qS (qT qS))) generic_.2.2)), some (.dat ((qP3 qS (qT qS) qB) x1_))], rfl, (bin_x (v_x rfl) (EvX.ed c_x) rfl)⟩))))) (r_sort2 g2))) ?_
  refine rs_env [some (.dat ((qP3 (qT (qP3 qS (qT qS) qB)) qI (qT (qP qS (qT qS)))) generic_)), some (.dat ((qL qS) names_)), some (.dat ((qT (qP3 qS (qT qS) qB)) generic_.1)), some (.dat (qI generic_.2.1)), some (.dat ((qT (qP qS (qT qS))) generic_.2.2)), none] rfl ?_
  obtain ⟨g3, hp⟩ := hp
  have g4 := hp
  exact rs_retNew (ncall_x (sc_x (d := (qL (qL qS)) (List.replicate generic_.2.1.toNat [names_]).flatten) (bin_x (fr_x (lst_n (ac (v_x rfl) an) (Nat.le_of_ble_eq_true rfl))) (EvX.ed (v_x rfl)) (r_repL (e := (qL qS)) (xs := [names_]) (k := generic_.2.1) g3)) sn) rfl (ok_every_choice (List.replicate generic_.2.1.toNat [names_]).flatten g4)) cs.len cs.exit0

set_option maxHeartbeats 4000000 in
theorem ok_Table_fitting {C0 : Store} (self_ : ((List (Tx × List Tx × Bool)) × (List (Tx × (List (Tx × Bool)))) × (List (Tx × List Tx)) × (List (Tx × List Tx)))) (call_ : (List Tx)) (hp : P_Table_fitting self_ call_) :
    M_Table_fitting [.dat ((fun (p : (List (Tx × List Tx × Bool)) × (List (Tx × (List (Tx × Bool)))) × (List (Tx × List Tx)) × (List (Tx × List Tx))) => D.ins "Table" [("kinds", (qT (qP3 qS (qT qS) qB)) p.1), ("above", (qDK (qDK qB)) p.2.1), ("methods", (qL (qP qS (qT qS))) p.2.2.1), ("nearer", (qDK (qL qS)) p.2.2.2)]) self_), .dat ((qT qS) call_)] C0 = some (.dat ((qL qS) (F_Table_fitting self_ call_)), C0) := by
  unfold P_Table_fitting at hp
  refine def_E (e := (qL qS)) (st := (fun _ => C0)) (r := F_Table_fitting self_ call_) rfl ?_
  unfold F_Table_fitting
  change RunS (sSeq m_Table_fitting sNil) [some (.dat ((fun (p : (List (Tx × List Tx × Bool)) × (List (Tx × (List (Tx × Bool)))) × (List (Tx × List Tx)) × (List (Tx × List Tx))) => D.ins "Table" [("kinds", (qT (qP3 qS (qT qS) qB)) p.1), ("above", (qDK (qDK qB)) p.2.1), ("methods", (qL (qP qS (qT qS))) p.2.2.1), ("nearer", (qDK (qL qS)) p.2.2.2)]) self_)), some (.dat ((qT qS) call_)), none, none] C0 _
  unfold m_Table_fitting
  refine rs_gen (CS.start) ?_
  intro C cs
  obtain ⟨g2, hp⟩ := hp
  have g3 := hp
  exact rs_ret (fr_x (lc_n (e := (qP qS (qT qS))) (e' := qS) (xs := self_.2.2.1) (p := fun x1_ => (F_is_shape_below self_.2.1 call_ x1_.2)) (w := fun x1_ => x1_.1) (sq_x (xs := self_.2.2.1.map (qP qS (qT qS))) (fld_x (EvX.ed (v_x rfl)) (lk1 (by decide +kernel) (lk1 (by decide +kernel) lk0))) rfl) g2 rfl (fun x1_ hx1_ => ⟨[some (.dat ((fun (p : (List (Tx × List Tx × Bool)) × (List (Tx × (List (Tx × Bool)))) × (List (Tx × List Tx)) × (List (Tx × List Tx))) => D.ins "Table" [("kinds", (qT (qP3 qS (qT qS) qB)) p.1), ("above", (qDK (qDK qB)) p.2.1), ("methods", (qL (qP qS (qT qS))) p.2.2.1), ("nearer", (qDK (qL qS)) p.2.2.2)]) self_)), some (.dat ((qT qS) call_)), some (.dat (qS x1_.1)), some (.dat ((qT qS) x1_.2))], rfl, (tt_t (b := (F_is_shape_below self_.2.1 call_ x1_.2)) (EvX.ed (call_x (sc_x (d := (qDK (qDK qB)) self_.2.1) (fld_x (EvX.ed (v_x rfl)) (lk1 (by decide +kernel) lk0)) (sc_x (d := (qT qS) call_) (v_x rfl) (sc_x (d := (qT qS) x1_.2) (v_x rfl) sn))) rfl (ok_is_shape_below self_.2.1 call_ x1_.2 (g3 x1_ hx1_)))) (t_B _)), fun hc => (v_x rfl)⟩))) cs.exit0

set_option maxHeartbeats 4000000 in
theorem ok_Table_nearest {C0 : Store} (self_ : ((List (Tx × List Tx × Bool)) × (List (Tx × (List (Tx × Bool)))) × (List (Tx × List Tx)) × (List (Tx × List Tx)))) (call_ : (List Tx)) (hp : P_Table_nearest self_ call_) :
    M_Table_nearest [.dat ((fun (p : (List (Tx × List Tx × Bool)) × (List (Tx × (List (Tx × Bool)))) × (List (Tx × List Tx)) × (List (Tx × List Tx))) => D.ins "Table" [("kinds", (qT (qP3 qS (qT qS) qB)) p.1), ("above", (qDK (qDK qB)) p.2.1), ("methods", (qL (qP qS (qT qS))) p.2.2.1), ("nearer", (qDK (qL qS)) p.2.2.2)]) self_), .dat ((qT qS) call_)] C0 = some (.dat ((qL qS) (F_Table_nearest self_ call_)), C0) := by
  unfold P_Table_nearest at hp
  refine def_E (e := (qL qS)) (st := (fun _ => C0)) (r := F_Table_nearest self_ call_) rfl ?_
  unfold F_Table_nearest
  change RunS (sSeq m_Table_nearest sNil) [some (.dat ((fun (p : (List (Tx × List Tx × Bool)) × (List (Tx × (List (Tx × Bool)))) × (List (Tx × List Tx)) × (List (Tx × List Tx))) => D.ins "Table" [("kinds", (qT (qP3 qS (qT qS) qB)) p.1), ("above", (qDK (qDK qB)) p.2.1), ("methods", (qL (qP qS (qT qS))) p.2.2.1), ("nearer", (qDK (qL qS)) p.2.2.2)]) self_)), some (.dat ((qT qS) call_)), none, none, none] C0 _
  unfold m_Table_nearest
  refine rs_gen (CS.start) ?_
  intro C cs
  refine rs_assoc ?_
  obtain ⟨g1, hp⟩ := hp
  refine rs_lt ?_
  intro fits_
  refine rs_set (d := ((qL qS) fits_)) (meth_x (v_x rfl) rfl (lkn1 (by decide +kernel) (lkn1 (by decide +kernel) (lkn1 (by decide +kernel) (lkn1 (by decide +kernel) lkn0)))) (sc_x (d := (qT qS) call_) (v_x rfl) sn) rfl (ok_Table_fitting self_ call_ g1)) ?_
  refine rs_env [some (.dat ((fun (p : (List (Tx × List Tx × Bool)) × (List (Tx × (List (Tx × Bool)))) × (List (Tx × List Tx)) × (List (Tx × List Tx))) => D.ins "Table" [("kinds", (qT (qP3 qS (qT qS) qB)) p.1), ("above", (qDK (qDK qB)) p.2.1), ("methods", (qL (qP qS (qT qS))) p.2.2.1), ("nearer", (qDK (qL qS)) p.2.2.2)]) self_)), some (.dat ((qT qS) call_)), some (.dat ((qL qS) fits_)), none, none] rfl ?_
  obtain ⟨g4, hp⟩ := hp
  have g5 := hp
  exact rs_ret (fr_x (lcf_n (e := qS) (xs := fits_) (p := fun x1_ => (!(((kAt self_.2.2.2 x1_).map fun x2_ => (isIn x2_ fits_)).any id))) (sq_x (xs := fits_.map qS) (v_x rfl) rfl) g4 rfl (fun x1_ hx1_ => ⟨[some (.dat ((fun (p : (List (Tx × List Tx × Bool)) × (List (Tx × (List (Tx × Bool)))) × (List (Tx × List Tx)) × (List (Tx × List Tx))) => D.ins "Table" [("kinds", (qT (qP3 qS (qT qS) qB)) p.1), ("above", (qDK (qDK qB)) p.2.1), ("methods", (qL (qP qS (qT qS))) p.2.2.1), ("nearer", (qDK (qL qS)) p.2.2.2)]) self_)), some (.dat ((qT qS) call_)), some (.dat ((qL qS) fits_)), some (.dat (qS x1_)), none], rfl, (not_t (b := (((kAt self_.2.2.2 x1_).map fun x2_ => (isIn x2_ fits_)).any id)) (tt_t (b := (((kAt self_.2.2.2 x1_).map fun x2_ => (isIn x2_ fits_)).any id)) (EvX.ed (b_x (ec1 (EvX.ed (fr_x (lcm_n (e := qS) (e' := qB) (xs := (kAt self_.2.2.2 x1_)) (w := fun x2_ => (isIn x2_ fits_)) (sq_x (xs := (kAt self_.2.2.2 x1_).map qS) (bin_x (fld_x (EvX.ed (v_x rfl)) (lk1 (by decide +kernel) (lk1 (by decide +kernel) (lk1 (by decide +kernel) lk0)))) (EvX.ed (v_x rfl)) (r_ixDK (f := (qL qS)) (d := self_.2.2.2) (k := x1_) (g5 x1_ hx1_).1)) rfl) (g5 x1_ hx1_).2 rfl (fun x2_ hx2_ => ⟨[some (.dat ((fun (p : (List (Tx × List Tx × Bool)) × (List (Tx × (List (Tx × Bool)))) × (List (Tx × List Tx)) × (List (Tx × List Tx))) => D.ins "Table" [("kinds", (qT (qP3 qS (qT qS) qB)) p.1), ("above", (qDK (qDK qB)) p.2.1), ("methods", (qL (qP qS (qT qS))) p.2.2.1), ("nearer", (qDK (qL qS)) p.2.2.2)]) self_)), some (.dat ((qT qS) call_)), some (.dat ((qL qS) fits_)), some (.dat (qS x1_)), some (.dat (qS x2_))], rfl, (bin_x (v_x rfl) (EvX.ed (v_x rfl)) (r_inL (e := qS) x2_ fits_))⟩))))) (r_any ((kAt self_.2.2.2 x1_).map fun x2_ => (isIn x2_ fits_))))) (t_B _))), fun hc => (v_x rfl)⟩))) cs.exit0

set_option maxHeartbeats 4000000 in
theorem ok__torn_calls {C0 : Store} (table_ : ((List (Tx × List Tx × Bool)) × (List (Tx × (List (Tx × Bool)))) × (List (Tx × List Tx)) × (List (Tx × List Tx)))) (generic_ : ((List (Tx × List Tx × Bool)) × Int × (List (Tx × List Tx)))) (hp : P__torn_calls table_ generic_) :
    M__torn_calls [.dat ((fun (p : (List (Tx × List Tx × Bool)) × (List (Tx × (List (Tx × Bool)))) × (List (Tx × List Tx)) × (List (Tx × List Tx))) => D.ins "Table" [("kinds", (qT (qP3 qS (qT qS) qB)) p.1), ("above", (qDK (qDK qB)) p.2.1), ("methods", (qL (qP qS (qT qS))) p.2.2.1), ("nearer", (qDK (qL qS)) p.2.2.2)]) table_), .dat ((qP3 (qT (qP3 qS (qT qS) qB)) qI (qT (qP qS (qT qS)))) generic_)] C0 = some (.dat ((qL (qT qS)) (F__torn_calls table_ generic_)), C0) := by
  unfold P__torn_calls at hp
  refine def_E (e := (qL (qT qS))) (st := (fun _ => C0)) (r := F__torn_calls table_ generic_) rfl ?_
  unfold F__torn_calls
  change RunS (sSeq m__torn_calls sNil) [some (.dat ((fun (p : (List (Tx × List Tx × Bool)) × (List (Tx × (List (Tx × Bool)))) × (List (Tx × List Tx)) × (List (Tx × List Tx))) => D.ins "Table" [("kinds", (qT (qP3 qS (qT qS) qB)) p.1), ("above", (qDK (qDK qB)) p.2.1), ("methods", (qL (qP qS (qT qS))) p.2.2.1), ("nearer", (qDK (qL qS)) p.2.2.2)]) table_)), some (.dat ((qP3 (qT (qP3 qS (qT qS) qB)) qI (qT (qP qS (qT qS)))) generic_)), none] C0 _
  unfold m__torn_calls
  refine rs_gen (CS.start) ?_
  intro C cs
  obtain ⟨g1, hp⟩ := hp
  obtain ⟨g3, hp⟩ := hp
  have g4 := hp
  exact rs_ret (fr_x (lcf_n (e := (qT qS)) (xs := (F_shapes generic_)) (p := fun x1_ => decide ((1 : Int) < ((F_Table_nearest table_ x1_).length : Int))) (sq_x (xs := (F_shapes generic_).map (qT qS)) (fr_x (ncall_x (sc_x (d := (qP3 (qT (qP3 qS (qT qS) qB)) qI (qT (qP qS (qT qS)))) generic_) (v_x rfl) sn) rfl (ok_shapes generic_ g1))) rfl) g3 rfl (fun x1_ hx1_ => ⟨[some (.dat ((fun (p : (List (Tx × List Tx × Bool)) × (List (Tx × (List (Tx × Bool)))) × (List (Tx × List Tx)) × (List (Tx × List Tx))) => D.ins "Table" [("kinds", (qT (qP3 qS (qT qS) qB)) p.1), ("above", (qDK (qDK qB)) p.2.1), ("methods", (qL (qP qS (qT qS))) p.2.2.1), ("nearer", (qDK (qL qS)) p.2.2.2)]) table_)), some (.dat ((qP3 (qT (qP3 qS (qT qS) qB)) qI (qT (qP qS (qT qS)))) generic_)), some (.dat ((qT qS) x1_))], rfl, (tb_t (b := decide ((1 : Int) < ((F_Table_nearest table_ x1_).length : Int))) (bin_x (b_x (ec1 (EvX.ed (meth_x (v_x rfl) rfl (lkn1 (by decide +kernel) (lkn1 (by decide +kernel) (lkn1 (by decide +kernel) (lkn1 (by decide +kernel) lkn0)))) (sc_x (d := (qT qS) x1_) (v_x rfl) sn) rfl (ok_Table_nearest table_ x1_ (g4 x1_ hx1_))))) (r_lenL (e := qS) (F_Table_nearest table_ x1_))) (EvX.ed c_x) (r_gtI ((F_Table_nearest table_ x1_).length : Int) (1 : Int)))), fun hc => (v_x rfl)⟩))) cs.exit0

set_option maxHeartbeats 4000000 in
theorem ok_torn {C0 : Store} (generic_ : ((List (Tx × List Tx × Bool)) × Int × (List (Tx × List Tx)))) (hp : P_torn generic_) :
    M_torn [.dat ((qP3 (qT (qP3 qS (qT qS) qB)) qI (qT (qP qS (qT qS)))) generic_)] C0 = some (.dat ((qL (qT qS)) (F_torn generic_)), C0) := by
  unfold P_torn at hp
  refine def_E (e := (qL (qT qS))) (st := (fun _ => C0)) (r := F_torn generic_) rfl ?_
  unfold F_torn
  change RunS (sSeq m_torn sNil) [some (.dat ((qP3 (qT (qP3 qS (qT qS) qB)) qI (qT (qP qS (qT qS)))) generic_))] C0 _
  unfold m_torn
  refine rs_gen (CS.start) ?_
  intro C cs
  obtain ⟨g1, hp⟩ := hp
  have g2 := hp
  exact rs_ret (call_x (sc_x (d := (fun (p : (List (Tx × List Tx × Bool)) × (List (Tx × (List (Tx × Bool)))) × (List (Tx × List Tx)) × (List (Tx × List Tx))) => D.ins "Table" [("kinds", (qT (qP3 qS (qT qS) qB)) p.1), ("above", (qDK (qDK qB)) p.2.1), ("methods", (qL (qP qS (qT qS))) p.2.2.1), ("nearer", (qDK (qL qS)) p.2.2.2)]) (F_Table___init__ generic_)) (fr_x (mk_n (sc_x (d := (qP3 (qT (qP3 qS (qT qS) qB)) qI (qT (qP qS (qT qS)))) generic_) (v_x rfl) sn) rfl (ok_Table___init__ generic_ (getNew _ _) g1))) (sc_x (d := (qP3 (qT (qP3 qS (qT qS) qB)) qI (qT (qP qS (qT qS)))) generic_) (v_x rfl) sn)) rfl (ok__torn_calls (F_Table___init__ generic_) generic_ g2)) cs.exit0

set_option maxHeartbeats 4000000 in
theorem ok__is_below_another {C0 : Store} (above_ : (List (Tx × (List (Tx × Bool))))) (found_ : (List (List Tx))) (shape_ : (List Tx)) (hp : P__is_below_another above_ found_ shape_) :
    M__is_below_another [.dat ((qDK (qDK qB)) above_), .dat ((qL (qT qS)) found_), .dat ((qT qS) shape_)] C0 = some (.dat (qB (F__is_below_another above_ found_ shape_)), C0) := by
  unfold P__is_below_another at hp
  refine def_E (e := qB) (st := (fun _ => C0)) (r := F__is_below_another above_ found_ shape_) rfl ?_
  unfold F__is_below_another
  change RunS (sSeq m__is_below_another sNil) [some (.dat ((qDK (qDK qB)) above_)), some (.dat ((qL (qT qS)) found_)), some (.dat ((qT qS) shape_)), none] C0 _
  unfold m__is_below_another
  refine rs_gen (CS.start) ?_
  intro C cs
  refine rs_assoc ?_
  have hP := hp
  refine rs_for (fun (s : Unit) ρ C => ∃ (j0 : Option Sv), ρ = [some (.dat ((qDK (qDK qB)) above_)), some (.dat ((qL (qT qS)) found_)), some (.dat ((qT qS) shape_)), j0] ∧ CS C0 C [] []) (p := fun s1_ x3_ => ((!decide (x3_ = shape_)) = true → (P_is_shape_below above_ shape_ x3_))) (q := fun s4_ => True) (sq_x (xs := found_.map (qT qS)) (v_x rfl) rfl) ⟨_, rfl, cs⟩ ?_ hP ?_ thP_true ?_
  · rintro s1_ ρ C ⟨n2_, rfl, cs⟩
    exact rfl
  · rintro s1_ x3_ ρ C hx3_ ⟨n2_, rfl, cs⟩ hp
    refine ⟨[some (.dat ((qDK (qDK qB)) above_)), some (.dat ((qL (qT qS)) found_)), some (.dat ((qT qS) shape_)), some (.dat ((qT qS) x3_))], rfl, ?_⟩
    refine rs_last ?_
    refine rs_env [some (.dat ((qDK (qDK qB)) above_)), some (.dat ((qL (qT qS)) found_)), some (.dat ((qT qS) shape_)), some (.dat ((qT qS) x3_))] rfl ?_
    have g2 := hp
    refine rs_if (b := ((!decide (x3_ = shape_)) && (F_is_shape_below above_ shape_ x3_))) (and_t (b := (!decide (x3_ = shape_))) (c := (F_is_shape_below above_ shape_ x3_)) (tb_t (b := (!decide (x3_ = shape_))) (bin_x (v_x rfl) (EvX.ed (v_x rfl)) (r_ne (e := (qT qS)) x3_ shape_))) (fun hc => (tt_t (b := (F_is_shape_below above_ shape_ x3_)) (EvX.ed (call_x (sc_x (d := (qDK (qDK qB)) above_) (v_x rfl) (sc_x (d := (qT qS) shape_) (v_x rfl) (sc_x (d := (qT qS) x3_) (v_x rfl) sn))) rfl (ok_is_shape_below above_ shape_ x3_ (g2 hc)))) (t_B _)))) (fun hc => ?_) (fun hc => ?_)
    ·
      refine rs_rt ?_
      exact rs_ret c_x cs.exit0
    ·
      refine rs_nil ?_
      exact rs_end ⟨_, rfl, cs⟩
  · rintro s4_ ρ C ⟨n2_, rfl, cs⟩ hp
    exact rs_ret c_x cs.exit0

set_option maxHeartbeats 4000000 in
theorem ok_greatest_shapes {C0 : Store} (above_ : (List (Tx × (List (Tx × Bool))))) (found_ : (List (List Tx))) (hp : P_greatest_shapes above_ found_) :
    M_greatest_shapes [.dat ((qDK (qDK qB)) above_), .dat ((qL (qT qS)) found_)] C0 = some (.dat ((qL (qT qS)) (F_greatest_shapes above_ found_)), C0) := by
  unfold P_greatest_shapes at hp
  refine def_E (e := (qL (qT qS))) (st := (fun _ => C0)) (r := F_greatest_shapes above_ found_) rfl ?_
  unfold F_greatest_shapes
  change RunS (sSeq m_greatest_shapes sNil) [some (.dat ((qDK (qDK qB)) above_)), some (.dat ((qL (qT qS)) found_)), none] C0 _
  unfold m_greatest_shapes
  refine rs_gen (CS.start) ?_
  intro C cs
  obtain ⟨g2, hp⟩ := hp
  have g3 := hp
  exact rs_ret (fr_x (lcf_n (e := (qT qS)) (xs := found_) (p := fun x1_ => (!(F__is_below_another above_ found_ x1_))) (sq_x (xs := found_.map (qT qS)) (v_x rfl) rfl) g2 rfl (fun x1_ hx1_ => ⟨[some (.dat ((qDK (qDK qB)) above_)), some (.dat ((qL (qT qS)) found_)), some (.dat ((qT qS) x1_))], rfl, (not_t (b := (F__is_below_another above_ found_ x1_)) (tt_t (b := (F__is_below_another above_ found_ x1_)) (EvX.ed (call_x (sc_x (d := (qDK (qDK qB)) above_) (v_x rfl) (sc_x (d := (qL (qT qS)) found_) (v_x rfl) (sc_x (d := (qT qS) x1_) (v_x rfl) sn))) rfl (ok__is_below_another above_ found_ x1_ (g3 x1_ hx1_)))) (t_B _))), fun hc => (v_x rfl)⟩))) cs.exit0

set_option maxHeartbeats 4000000 in
theorem ok_greatest_torn {C0 : Store} (generic_ : ((List (Tx × List Tx × Bool)) × Int × (List (Tx × List Tx)))) (hp : P_greatest_torn generic_) :
    M_greatest_torn [.dat ((qP3 (qT (qP3 qS (qT qS) qB)) qI (qT (qP qS (qT qS)))) generic_)] C0 = some (.dat ((qL (qT qS)) (F_greatest_torn generic_)), C0) := by
  unfold P_greatest_torn at hp
  refine def_E (e := (qL (qT qS))) (st := (fun _ => C0)) (r := F_greatest_torn generic_) rfl ?_
  unfold F_greatest_torn
  change RunS (sSeq m_greatest_torn sNil) [some (.dat ((qP3 (qT (qP3 qS (qT qS) qB)) qI (qT (qP qS (qT qS)))) generic_)), none] C0 _
  unfold m_greatest_torn
  refine rs_gen (CS.start) ?_
  intro C cs
  refine rs_assoc ?_
  obtain ⟨g1, hp⟩ := hp
  refine rs_lt ?_
  intro table_
  refine rs_set (d := ((fun (p : (List (Tx × List Tx × Bool)) × (List (Tx × (List (Tx × Bool)))) × (List (Tx × List Tx)) × (List (Tx × List Tx))) => D.ins "Table" [("kinds", (qT (qP3 qS (qT qS) qB)) p.1), ("above", (qDK (qDK qB)) p.2.1), ("methods", (qL (qP qS (qT qS))) p.2.2.1), ("nearer", (qDK (qL qS)) p.2.2.2)]) table_)) (fr_x (mk_n (sc_x (d := (qP3 (qT (qP3 qS (qT qS) qB)) qI (qT (qP qS (qT qS)))) generic_) (v_x rfl) sn) rfl (ok_Table___init__ generic_ (getNew _ _) g1))) ?_
  refine rs_env [some (.dat ((qP3 (qT (qP3 qS (qT qS) qB)) qI (qT (qP qS (qT qS)))) generic_)), some (.dat ((fun (p : (List (Tx × List Tx × Bool)) × (List (Tx × (List (Tx × Bool)))) × (List (Tx × List Tx)) × (List (Tx × List Tx))) => D.ins "Table" [("kinds", (qT (qP3 qS (qT qS) qB)) p.1), ("above", (qDK (qDK qB)) p.2.1), ("methods", (qL (qP qS (qT qS))) p.2.2.1), ("nearer", (qDK (qL qS)) p.2.2.2)]) table_))] rfl ?_
  obtain ⟨g2, hp⟩ := hp
  have g3 := hp
  exact rs_ret (call_x (sc_x (d := (qDK (qDK qB)) table_.2.1) (fld_x (EvX.ed (v_x rfl)) (lk1 (by decide +kernel) lk0)) (sc_x (d := (qL (qT qS)) (F__torn_calls table_ generic_)) (call_x (sc_x (d := (fun (p : (List (Tx × List Tx × Bool)) × (List (Tx × (List (Tx × Bool)))) × (List (Tx × List Tx)) × (List (Tx × List Tx))) => D.ins "Table" [("kinds", (qT (qP3 qS (qT qS) qB)) p.1), ("above", (qDK (qDK qB)) p.2.1), ("methods", (qL (qP qS (qT qS))) p.2.2.1), ("nearer", (qDK (qL qS)) p.2.2.2)]) table_) (v_x rfl) (sc_x (d := (qP3 (qT (qP3 qS (qT qS) qB)) qI (qT (qP qS (qT qS)))) generic_) (v_x rfl) sn)) rfl (ok__torn_calls table_ generic_ g2)) sn)) rfl (ok_greatest_shapes table_.2.1 (F__torn_calls table_ generic_) g3)) cs.exit0

set_option maxHeartbeats 4000000 in
theorem ok_Table_shape_of {C0 : Store} (self_ : ((List (Tx × List Tx × Bool)) × (List (Tx × (List (Tx × Bool)))) × (List (Tx × List Tx)) × (List (Tx × List Tx)))) (label_ : Tx) (hp : P_Table_shape_of self_ label_) :
    M_Table_shape_of [.dat ((fun (p : (List (Tx × List Tx × Bool)) × (List (Tx × (List (Tx × Bool)))) × (List (Tx × List Tx)) × (List (Tx × List Tx))) => D.ins "Table" [("kinds", (qT (qP3 qS (qT qS) qB)) p.1), ("above", (qDK (qDK qB)) p.2.1), ("methods", (qL (qP qS (qT qS))) p.2.2.1), ("nearer", (qDK (qL qS)) p.2.2.2)]) self_), .dat (qS label_)] C0 = some (.dat ((qT qS) (F_Table_shape_of self_ label_)), C0) := by
  unfold P_Table_shape_of at hp
  refine def_E (e := (qT qS)) (st := (fun _ => C0)) (r := F_Table_shape_of self_ label_) rfl ?_
  unfold F_Table_shape_of
  change RunS (sSeq m_Table_shape_of sNil) [some (.dat ((fun (p : (List (Tx × List Tx × Bool)) × (List (Tx × (List (Tx × Bool)))) × (List (Tx × List Tx)) × (List (Tx × List Tx))) => D.ins "Table" [("kinds", (qT (qP3 qS (qT qS) qB)) p.1), ("above", (qDK (qDK qB)) p.2.1), ("methods", (qL (qP qS (qT qS))) p.2.2.1), ("nearer", (qDK (qL qS)) p.2.2.2)]) self_)), some (.dat (qS label_)), none, none] C0 _
  unfold m_Table_shape_of
  refine rs_gen (CS.start) ?_
  intro C cs
  refine rs_assoc ?_
  have hQ := hp
  refine rs_for (fun (s : Unit) ρ C => ∃ (j0 : Option Sv) (j1 : Option Sv), ρ = [some (.dat ((fun (p : (List (Tx × List Tx × Bool)) × (List (Tx × (List (Tx × Bool)))) × (List (Tx × List Tx)) × (List (Tx × List Tx))) => D.ins "Table" [("kinds", (qT (qP3 qS (qT qS) qB)) p.1), ("above", (qDK (qDK qB)) p.2.1), ("methods", (qL (qP qS (qT qS))) p.2.2.1), ("nearer", (qDK (qL qS)) p.2.2.2)]) self_)), some (.dat (qS label_)), j0, j1] ∧ CS C0 C [] []) (p := fun s1_ x4_ => True) (q := fun s5_ => False) (sq_x (xs := self_.2.2.1.map (qP qS (qT qS))) (fld_x (EvX.ed (v_x rfl)) (lk1 (by decide +kernel) (lk1 (by decide +kernel) lk0))) rfl) ⟨_, _, rfl, cs⟩ ?_ lpP_true ?_ hQ ?_
  · rintro s1_ ρ C ⟨n2_, n3_, rfl, cs⟩
    exact rfl
  · rintro s1_ x4_ ρ C hx4_ ⟨n2_, n3_, rfl, cs⟩ hp
    refine ⟨[some (.dat ((fun (p : (List (Tx × List Tx × Bool)) × (List (Tx × (List (Tx × Bool)))) × (List (Tx × List Tx)) × (List (Tx × List Tx))) => D.ins "Table" [("kinds", (qT (qP3 qS (qT qS) qB)) p.1), ("above", (qDK (qDK qB)) p.2.1), ("methods", (qL (qP qS (qT qS))) p.2.2.1), ("nearer", (qDK (qL qS)) p.2.2.2)]) self_)), some (.dat (qS label_)), some (.dat (qS x4_.1)), some (.dat ((qT qS) x4_.2))], rfl, ?_⟩
    refine rs_last ?_
    refine rs_env [some (.dat ((fun (p : (List (Tx × List Tx × Bool)) × (List (Tx × (List (Tx × Bool)))) × (List (Tx × List Tx)) × (List (Tx × List Tx))) => D.ins "Table" [("kinds", (qT (qP3 qS (qT qS) qB)) p.1), ("above", (qDK (qDK qB)) p.2.1), ("methods", (qL (qP qS (qT qS))) p.2.2.1), ("nearer", (qDK (qL qS)) p.2.2.2)]) self_)), some (.dat (qS label_)), some (.dat (qS x4_.1)), some (.dat ((qT qS) x4_.2))] rfl ?_
    refine rs_if (b := (decide (x4_.1 = label_))) (tb_t (b := (decide (x4_.1 = label_))) (bin_x (v_x rfl) (EvX.ed (v_x rfl)) (r_eq (e := qS) x4_.1 label_))) (fun hc => ?_) (fun hc => ?_)
    ·
      refine rs_rt ?_
      exact rs_ret (v_x rfl) cs.exit0
    ·
      refine rs_nil ?_
      exact rs_end ⟨_, _, rfl, cs⟩
  · rintro s5_ ρ C ⟨n2_, n3_, rfl, cs⟩ hp
    exact hp.elim

set_option maxHeartbeats 4000000 in
theorem ok_meet {C0 : Store} (generic_ : ((List (Tx × List Tx × Bool)) × Int × (List (Tx × List Tx)))) (label_ : Tx) (other_ : Tx) (hp : P_meet generic_ label_ other_) :
    M_meet [.dat ((qP3 (qT (qP3 qS (qT qS) qB)) qI (qT (qP qS (qT qS)))) generic_), .dat (qS label_), .dat (qS other_)] C0 = some (.dat ((qO (qT qS)) (F_meet generic_ label_ other_)), C0) := by
  unfold P_meet at hp
  refine def_E (e := (qO (qT qS))) (st := (fun _ => C0)) (r := F_meet generic_ label_ other_) rfl ?_
  unfold F_meet
  change RunS (sSeq m_meet sNil) [some (.dat ((qP3 (qT (qP3 qS (qT qS) qB)) qI (qT (qP qS (qT qS)))) generic_)), some (.dat (qS label_)), some (.dat (qS other_)), none, none, none] C0 _
  unfold m_meet
  refine rs_gen (CS.start) ?_
  intro C cs
  refine rs_assoc ?_
  obtain ⟨g1, hp⟩ := hp
  refine rs_lt ?_
  intro table_
  refine rs_set (d := ((fun (p : (List (Tx × List Tx × Bool)) × (List (Tx × (List (Tx × Bool)))) × (List (Tx × List Tx)) × (List (Tx × List Tx))) => D.ins "Table" [("kinds", (qT (qP3 qS (qT qS) qB)) p.1), ("above", (qDK (qDK qB)) p.2.1), ("methods", (qL (qP qS (qT qS))) p.2.2.1), ("nearer", (qDK (qL qS)) p.2.2.2)]) table_)) (fr_x (mk_n (sc_x (d := (qP3 (qT (qP3 qS (qT qS) qB)) qI (qT (qP qS (qT qS)))) generic_) (v_x rfl) sn) rfl (ok_Table___init__ generic_ (getNew _ _) g1))) ?_
  refine rs_env [some (.dat ((qP3 (qT (qP3 qS (qT qS) qB)) qI (qT (qP qS (qT qS)))) generic_)), some (.dat (qS label_)), some (.dat (qS other_)), some (.dat ((fun (p : (List (Tx × List Tx × Bool)) × (List (Tx × (List (Tx × Bool)))) × (List (Tx × List Tx)) × (List (Tx × List Tx))) => D.ins "Table" [("kinds", (qT (qP3 qS (qT qS) qB)) p.1), ("above", (qDK (qDK qB)) p.2.1), ("methods", (qL (qP qS (qT qS))) p.2.2.1), ("nearer", (qDK (qL qS)) p.2.2.2)]) table_)), none, none] rfl ?_
  refine rs_assoc ?_
  obtain ⟨g2, hp⟩ := hp
  refine rs_drop (meth_x (v_x rfl) rfl (lkn1 (by decide +kernel) (lkn1 (by decide +kernel) (lkn1 (by decide +kernel) (lkn1 (by decide +kernel) lkn0)))) (sc_x (d := qS label_) (v_x rfl) sn) rfl (ok_Table_shape_of table_ label_ g2)) ?_
  refine rs_assoc ?_
  obtain ⟨g3, hp⟩ := hp
  refine rs_drop (meth_x (v_x rfl) rfl (lkn1 (by decide +kernel) (lkn1 (by decide +kernel) (lkn1 (by decide +kernel) (lkn1 (by decide +kernel) lkn0)))) (sc_x (d := qS other_) (v_x rfl) sn) rfl (ok_Table_shape_of table_ other_ g3)) ?_
  refine rs_assoc ?_
  obtain ⟨g4, hp⟩ := hp
  have hP := hp
  refine rs_for (fun (s : Unit) ρ C => ∃ (j0 : Option Sv) (j1 : Option Sv), ρ = [some (.dat ((qP3 (qT (qP3 qS (qT qS) qB)) qI (qT (qP qS (qT qS)))) generic_)), some (.dat (qS label_)), some (.dat (qS other_)), some (.dat ((fun (p : (List (Tx × List Tx × Bool)) × (List (Tx × (List (Tx × Bool)))) × (List (Tx × List Tx)) × (List (Tx × List Tx))) => D.ins "Table" [("kinds", (qT (qP3 qS (qT qS) qB)) p.1), ("above", (qDK (qDK qB)) p.2.1), ("methods", (qL (qP qS (qT qS))) p.2.2.1), ("nearer", (qDK (qL qS)) p.2.2.2)]) table_)), j0, j1] ∧ CS C0 C [] []) (p := fun s1_ x4_ => (P_Table_nearest table_ x4_)) (q := fun s5_ => True) (sq_x (xs := (F_shapes generic_).map (qT qS)) (fr_x (ncall_x (sc_x (d := (qP3 (qT (qP3 qS (qT qS) qB)) qI (qT (qP qS (qT qS)))) generic_) (v_x rfl) sn) rfl (ok_shapes generic_ g4))) rfl) ⟨_, _, rfl, cs⟩ ?_ hP ?_ thP_true ?_
  · rintro s1_ ρ C ⟨n2_, n3_, rfl, cs⟩
    exact rfl
  · rintro s1_ x4_ ρ C hx4_ ⟨n2_, n3_, rfl, cs⟩ hp
    refine ⟨[some (.dat ((qP3 (qT (qP3 qS (qT qS) qB)) qI (qT (qP qS (qT qS)))) generic_)), some (.dat (qS label_)), some (.dat (qS other_)), some (.dat ((fun (p : (List (Tx × List Tx × Bool)) × (List (Tx × (List (Tx × Bool)))) × (List (Tx × List Tx)) × (List (Tx × List Tx))) => D.ins "Table" [("kinds", (qT (qP3 qS (qT qS) qB)) p.1), ("above", (qDK (qDK qB)) p.2.1), ("methods", (qL (qP qS (qT qS))) p.2.2.1), ("nearer", (qDK (qL qS)) p.2.2.2)]) table_)), some (.dat ((qT qS) x4_)), n3_], rfl, ?_⟩
    refine rs_last ?_
    refine rs_env [some (.dat ((qP3 (qT (qP3 qS (qT qS) qB)) qI (qT (qP qS (qT qS)))) generic_)), some (.dat (qS label_)), some (.dat (qS other_)), some (.dat ((fun (p : (List (Tx × List Tx × Bool)) × (List (Tx × (List (Tx × Bool)))) × (List (Tx × List Tx)) × (List (Tx × List Tx))) => D.ins "Table" [("kinds", (qT (qP3 qS (qT qS) qB)) p.1), ("above", (qDK (qDK qB)) p.2.1), ("methods", (qL (qP qS (qT qS))) p.2.2.1), ("nearer", (qDK (qL qS)) p.2.2.2)]) table_)), some (.dat ((qT qS) x4_)), n3_] rfl ?_
    refine rs_assoc ?_
    have g5 := hp
    refine rs_lt ?_
    intro labels_
    refine rs_set (d := ((qL qS) labels_)) (meth_x (v_x rfl) rfl (lkn1 (by decide +kernel) (lkn1 (by decide +kernel) (lkn1 (by decide +kernel) (lkn1 (by decide +kernel) lkn0)))) (sc_x (d := (qT qS) x4_) (v_x rfl) sn) rfl (ok_Table_nearest table_ x4_ g5)) ?_
    refine rs_env [some (.dat ((qP3 (qT (qP3 qS (qT qS) qB)) qI (qT (qP qS (qT qS)))) generic_)), some (.dat (qS label_)), some (.dat (qS other_)), some (.dat ((fun (p : (List (Tx × List Tx × Bool)) × (List (Tx × (List (Tx × Bool)))) × (List (Tx × List Tx)) × (List (Tx × List Tx))) => D.ins "Table" [("kinds", (qT (qP3 qS (qT qS) qB)) p.1), ("above", (qDK (qDK qB)) p.2.1), ("methods", (qL (qP qS (qT qS))) p.2.2.1), ("nearer", (qDK (qL qS)) p.2.2.2)]) table_)), some (.dat ((qT qS) x4_)), some (.dat ((qL qS) labels_))] rfl ?_
    refine rs_if (b := ((isIn label_ labels_) && (isIn other_ labels_))) (and_t (b := (isIn label_ labels_)) (c := (isIn other_ labels_)) (tb_t (b := (isIn label_ labels_)) (bin_x (v_x rfl) (EvX.ed (v_x rfl)) (r_inL (e := qS) label_ labels_))) (fun hc => (tb_t (b := (isIn other_ labels_)) (bin_x (v_x rfl) (EvX.ed (v_x rfl)) (r_inL (e := qS) other_ labels_))))) (fun hc => ?_) (fun hc => ?_)
    ·
      refine rs_rt ?_
      exact rs_ret (v_x rfl) cs.exit0
    ·
      refine rs_nil ?_
      exact rs_end ⟨_, _, rfl, cs⟩
  · rintro s5_ ρ C ⟨n2_, n3_, rfl, cs⟩ hp
    exact rs_ret c_x cs.exit0

set_option maxHeartbeats 4000000 in
theorem ok_greatest_kinds {C0 : Store} (above_ : (List (Tx × (List (Tx × Bool))))) (one_ : Tx) (other_ : Tx) (hp : P_greatest_kinds above_ one_ other_) :
    M_greatest_kinds [.dat ((qDK (qDK qB)) above_), .dat (qS one_), .dat (qS other_)] C0 = some (.dat ((qL qS) (F_greatest_kinds above_ one_ other_)), C0) := by
  unfold P_greatest_kinds at hp
  refine def_E (e := (qL qS)) (st := (fun _ => C0)) (r := F_greatest_kinds above_ one_ other_) rfl ?_
  unfold F_greatest_kinds
  change RunS (sSeq m_greatest_kinds sNil) [some (.dat ((qDK (qDK qB)) above_)), some (.dat (qS one_)), some (.dat (qS other_)), none, none, none] C0 _
  unfold m_greatest_kinds
  refine rs_gen (CS.start) ?_
  intro C cs
  refine rs_assoc ?_
  obtain ⟨g4, hp⟩ := hp
  obtain ⟨g5, hp⟩ := hp
  refine rs_lt ?_
  intro both_
  refine rs_set (d := ((qL qS) both_)) (fr_x (lcf_n (e := qS) (xs := (above_.map (·.1))) (p := fun x1_ => ((kHas (kAt above_ x1_) one_) && (kHas (kAt above_ x1_) other_))) (ky_x (e := (qDK qB)) (kvs := above_) (v_x rfl)) g4 rfl (fun x1_ hx1_ => ⟨[some (.dat ((qDK (qDK qB)) above_)), some (.dat (qS one_)), some (.dat (qS other_)), none, some (.dat (qS x1_)), none], rfl, (and_t (b := (kHas (kAt above_ x1_) one_)) (c := (kHas (kAt above_ x1_) other_)) (tb_t (b := (kHas (kAt above_ x1_) one_)) (bin_x (v_x rfl) (EvX.ed (bin_x (v_x rfl) (EvX.ed (v_x rfl)) (r_ixDK (f := (qDK qB)) (d := above_) (k := x1_) (g5 x1_ hx1_).1))) (r_inDK (f := qB) one_ (kAt above_ x1_)))) (fun hc => (tb_t (b := (kHas (kAt above_ x1_) other_)) (bin_x (v_x rfl) (EvX.ed (bin_x (v_x rfl) (EvX.ed (v_x rfl)) (r_ixDK (f := (qDK qB)) (d := above_) (k := x1_) ((g5 x1_ hx1_).2 hc)))) (r_inDK (f := qB) other_ (kAt above_ x1_)))))), fun hc => (v_x rfl)⟩))) ?_
  refine rs_env [some (.dat ((qDK (qDK qB)) above_)), some (.dat (qS one_)), some (.dat (qS other_)), some (.dat ((qL qS) both_)), none, none] rfl ?_
  obtain ⟨g8, hp⟩ := hp
  obtain ⟨g9, hp⟩ := hp
  have g10 := hp
  exact rs_ret (fr_x (nb_x (ec1 (EvX.ed (fr_x (lcf_n (e := qS) (xs := both_) (p := fun x2_ => (!(((((kAt above_ x2_).map (·.1)).filter fun x3_ => (!decide (x3_ = x2_))).map fun x3_ => (isIn x3_ both_)).any id))) (sq_x (xs := both_.map qS) (v_x rfl) rfl) g8 rfl (fun x2_ hx2_ => ⟨[some (.dat ((qDK (qDK qB)) above_)), some (.dat (qS one_)), some (.dat (qS other_)), some (.dat ((qL qS) both_)), some (.dat (qS x2_)), none], rfl, (not_t (b := (((((kAt above_ x2_).map (·.1)).filter fun x3_ => (!decide (x3_ = x2_))).map fun x3_ => (isIn x3_ both_)).any id)) (tt_t (b := (((((kAt above_ x2_).map (·.1)).filter fun x3_ => (!decide (x3_ = x2_))).map fun x3_ => (isIn x3_ both_)).any id)) (EvX.ed (b_x (ec1 (EvX.ed (fr_x (lc_n (e := qS) (e' := qB) (xs := ((kAt above_ x2_).map (·.1))) (p := fun x3_ => (!decide (x3_ = x2_))) (w := fun x3_ => (isIn x3_ both_)) (ky_x (e := qB) (kvs := (kAt above_ x2_)) (ixk_x (e := (qDK qB)) (kvs := above_) (k := x2_) (v_x rfl) (v_x rfl) (g9 x2_ hx2_).1)) (g9 x2_ hx2_).2 rfl (fun x3_ hx3_ => ⟨[some (.dat ((qDK (qDK qB)) above_)), some (.dat (qS one_)), some (.dat (qS other_)), some (.dat ((qL qS) both_)), some (.dat (qS x2_)), some (.dat (qS x3_))], rfl, (tb_t (b := (!decide (x3_ = x2_))) (bin_x (v_x rfl) (EvX.ed (v_x rfl)) (r_ne (e := qS) x3_ x2_))), fun hc => (bin_x (v_x rfl) (EvX.ed (v_x rfl)) (r_inL (e := qS) x3_ both_))⟩))))) (r_any ((((kAt above_ x2_).map (·.1)).filter fun x3_ => (!decide (x3_ = x2_))).map fun x3_ => (isIn x3_ both_))))) (t_B _))), fun hc => (v_x rfl)⟩))))) (r_sort2 g10))) cs.exit0

set_option maxHeartbeats 4000000 in
theorem ok_common {C0 : Store} (kinds_ : (List (Tx × List Tx × Bool))) (one_ : (List Tx)) (other_ : (List Tx)) (hp : P_common kinds_ one_ other_) :
    M_common [.dat ((qT (qP3 qS (qT qS) qB)) kinds_), .dat ((qT qS) one_), .dat ((qT qS) other_)] C0 = some (.dat ((qL (qT qS)) (F_common kinds_ one_ other_)), C0) := by
  unfold P_common at hp
  refine def_E (e := (qL (qT qS))) (st := (fun _ => C0)) (r := F_common kinds_ one_ other_) rfl ?_
  unfold F_common
  change RunS (sSeq m_common sNil) [some (.dat ((qT (qP3 qS (qT qS) qB)) kinds_)), some (.dat ((qT qS) one_)), some (.dat ((qT qS) other_)), none, none, none] C0 _
  unfold m_common
  refine rs_gen (CS.start) ?_
  intro C cs
  refine rs_assoc ?_
  obtain ⟨g1, hp⟩ := hp
  refine rs_lt ?_
  intro above_
  refine rs_set (d := ((qDK (qDK qB)) above_)) (call_x (sc_x (d := (qT (qP3 qS (qT qS) qB)) kinds_) (v_x rfl) sn) rfl (ok_uppers kinds_ g1)) ?_
  refine rs_env [some (.dat ((qT (qP3 qS (qT qS) qB)) kinds_)), some (.dat ((qT qS) one_)), some (.dat ((qT qS) other_)), some (.dat ((qDK (qDK qB)) above_)), none, none] rfl ?_
  obtain ⟨g3, hp⟩ := hp
  obtain ⟨g4, hp⟩ := hp
  have g5 := hp
  exact rs_ret (fr_x (ncall_x (sc_x (d := (qL (qL qS)) ((one_.zip other_).map fun x1_ => (F_greatest_kinds above_ x1_.1 x1_.2))) (fr_x (lcm_n (e := (qP qS qS)) (e' := (qL qS)) (xs := (one_.zip other_)) (w := fun x1_ => (F_greatest_kinds above_ x1_.1 x1_.2)) (zpT_x (e := qS) (e' := qS) (xs := one_) (ys := other_) (v_x rfl) (v_x rfl)) g3 rfl (fun x1_ hx1_ => ⟨[some (.dat ((qT (qP3 qS (qT qS) qB)) kinds_)), some (.dat ((qT qS) one_)), some (.dat ((qT qS) other_)), some (.dat ((qDK (qDK qB)) above_)), some (.dat (qS x1_.1)), some (.dat (qS x1_.2))], rfl, (call_x (sc_x (d := (qDK (qDK qB)) above_) (v_x rfl) (sc_x (d := qS x1_.1) (v_x rfl) (sc_x (d := qS x1_.2) (v_x rfl) sn))) rfl (ok_greatest_kinds above_ x1_.1 x1_.2 (g4 x1_ hx1_)))⟩))) sn) rfl (ok_every_choice ((one_.zip other_).map fun x1_ => (F_greatest_kinds above_ x1_.1 x1_.2)) g5))) cs.exit0

set_option maxHeartbeats 4000000 in
theorem ok__least_covering {C0 : Store} (table_ : ((List (Tx × List Tx × Bool)) × (List (Tx × (List (Tx × Bool)))) × (List (Tx × List Tx)) × (List (Tx × List Tx)))) (nearer_ : (List Tx)) (part_ : (List Tx)) (hp : P__least_covering table_ nearer_ part_) :
    M__least_covering [.dat ((fun (p : (List (Tx × List Tx × Bool)) × (List (Tx × (List (Tx × Bool)))) × (List (Tx × List Tx)) × (List (Tx × List Tx))) => D.ins "Table" [("kinds", (qT (qP3 qS (qT qS) qB)) p.1), ("above", (qDK (qDK qB)) p.2.1), ("methods", (qL (qP qS (qT qS))) p.2.2.1), ("nearer", (qDK (qL qS)) p.2.2.2)]) table_), .dat ((qL qS) nearer_), .dat ((qT qS) part_)] C0 = some (.dat (qS (F__least_covering table_ nearer_ part_)), C0) := by
  unfold P__least_covering at hp
  refine def_E (e := qS) (st := (fun _ => C0)) (r := F__least_covering table_ nearer_ part_) rfl ?_
  unfold F__least_covering
  change RunS (sSeq m__least_covering sNil) [some (.dat ((fun (p : (List (Tx × List Tx × Bool)) × (List (Tx × (List (Tx × Bool)))) × (List (Tx × List Tx)) × (List (Tx × List Tx))) => D.ins "Table" [("kinds", (qT (qP3 qS (qT qS) qB)) p.1), ("above", (qDK (qDK qB)) p.2.1), ("methods", (qL (qP qS (qT qS))) p.2.2.1), ("nearer", (qDK (qL qS)) p.2.2.2)]) table_)), some (.dat ((qL qS) nearer_)), some (.dat ((qT qS) part_)), none] C0 _
  unfold m__least_covering
  refine rs_gen (CS.start) ?_
  intro C cs
  obtain ⟨g1, hp⟩ := hp
  obtain ⟨g2, hp⟩ := hp
  have g3 := hp
  exact rs_ret (bin_x (fr_x (lcf_n (e := qS) (xs := (F_Table_fitting table_ part_)) (p := fun x1_ => (isIn x1_ nearer_)) (sq_x (xs := (F_Table_fitting table_ part_).map qS) (meth_x (v_x rfl) rfl (lkn1 (by decide +kernel) (lkn1 (by decide +kernel) (lkn1 (by decide +kernel) (lkn1 (by decide +kernel) lkn0)))) (sc_x (d := (qT qS) part_) (v_x rfl) sn) rfl (ok_Table_fitting table_ part_ g1)) rfl) g2 rfl (fun x1_ hx1_ => ⟨[some (.dat ((fun (p : (List (Tx × List Tx × Bool)) × (List (Tx × (List (Tx × Bool)))) × (List (Tx × List Tx)) × (List (Tx × List Tx))) => D.ins "Table" [("kinds", (qT (qP3 qS (qT qS) qB)) p.1), ("above", (qDK (qDK qB)) p.2.1), ("methods", (qL (qP qS (qT qS))) p.2.2.1), ("nearer", (qDK (qL qS)) p.2.2.2)]) table_)), some (.dat ((qL qS) nearer_)), some (.dat ((qT qS) part_)), some (.dat (qS x1_))], rfl, (tb_t (b := (isIn x1_ nearer_)) (bin_x (v_x rfl) (EvX.ed (v_x rfl)) (r_inL (e := qS) x1_ nearer_))), fun hc => (v_x rfl)⟩))) (EvX.ed c_x) (r_ixL (e := qS) (xs := ((F_Table_fitting table_ part_).filter fun x1_ => (isIn x1_ nearer_))) (i := (0 : Int)) g3)) cs.exit0

set_option maxHeartbeats 4000000 in
theorem ok_cover {C0 : Store} (generic_ : ((List (Tx × List Tx × Bool)) × Int × (List (Tx × List Tx)))) (label_ : Tx) (other_ : Tx) (hp : P_cover generic_ label_ other_) :
    M_cover [.dat ((qP3 (qT (qP3 qS (qT qS) qB)) qI (qT (qP qS (qT qS)))) generic_), .dat (qS label_), .dat (qS other_)] C0 = some (.dat ((qO (qL qS)) (F_cover generic_ label_ other_)), C0) := by
  unfold P_cover at hp
  refine def_E (e := (qO (qL qS))) (st := (fun _ => C0)) (r := F_cover generic_ label_ other_) rfl ?_
  unfold F_cover
  change RunS (sSeq m_cover sNil) [some (.dat ((qP3 (qT (qP3 qS (qT qS) qB)) qI (qT (qP qS (qT qS)))) generic_)), some (.dat (qS label_)), some (.dat (qS other_)), none, none, none, none] C0 _
  unfold m_cover
  refine rs_gen (CS.start) ?_
  intro C cs
  refine rs_assoc ?_
  obtain ⟨g1, hp⟩ := hp
  refine rs_if (b := (F_meet generic_ label_ other_).isSome) (tb_t (b := (F_meet generic_ label_ other_).isSome) (bin_x (call_x (sc_x (d := (qP3 (qT (qP3 qS (qT qS) qB)) qI (qT (qP qS (qT qS)))) generic_) (v_x rfl) (sc_x (d := qS label_) (v_x rfl) (sc_x (d := qS other_) (v_x rfl) sn))) rfl (ok_meet generic_ label_ other_ g1)) (EvX.ed c_x) (r_notN (e := (qT qS)) (F_meet generic_ label_ other_)))) (fun hc => ?_) (fun hc => ?_)
  ·
    exact rs_ret c_x cs.exit0
  ·
    replace hp := ite_f hc hp
    refine rs_nil ?_
    refine rs_assoc ?_
    obtain ⟨g2, hp⟩ := hp
    refine rs_lt ?_
    intro table_
    refine rs_set (d := ((fun (p : (List (Tx × List Tx × Bool)) × (List (Tx × (List (Tx × Bool)))) × (List (Tx × List Tx)) × (List (Tx × List Tx))) => D.ins "Table" [("kinds", (qT (qP3 qS (qT qS) qB)) p.1), ("above", (qDK (qDK qB)) p.2.1), ("methods", (qL (qP qS (qT qS))) p.2.2.1), ("nearer", (qDK (qL qS)) p.2.2.2)]) table_)) (fr_x (mk_n (sc_x (d := (qP3 (qT (qP3 qS (qT qS) qB)) qI (qT (qP qS (qT qS)))) generic_) (v_x rfl) sn) rfl (ok_Table___init__ generic_ (getNew _ _) g2))) ?_
    refine rs_env [some (.dat ((qP3 (qT (qP3 qS (qT qS) qB)) qI (qT (qP qS (qT qS)))) generic_)), some (.dat (qS label_)), some (.dat (qS other_)), some (.dat ((fun (p : (List (Tx × List Tx × Bool)) × (List (Tx × (List (Tx × Bool)))) × (List (Tx × List Tx)) × (List (Tx × List Tx))) => D.ins "Table" [("kinds", (qT (qP3 qS (qT qS) qB)) p.1), ("above", (qDK (qDK qB)) p.2.1), ("methods", (qL (qP qS (qT qS))) p.2.2.1), ("nearer", (qDK (qL qS)) p.2.2.2)]) table_)), none, none, none] rfl ?_
    refine rs_assoc ?_
    obtain ⟨g3, hp⟩ := hp
    obtain ⟨g4, hp⟩ := hp
    obtain ⟨g5, hp⟩ := hp
    refine rs_lt ?_
    intro nearer_
    refine rs_set (d := ((qL qS) nearer_)) (bin_x (bin_x (fld_x (EvX.ed (v_x rfl)) (lk1 (by decide +kernel) (lk1 (by decide +kernel) (lk1 (by decide +kernel) lk0)))) (EvX.ed (v_x rfl)) (r_ixDK (f := (qL qS)) (d := table_.2.2.2) (k := label_) g3)) (EvX.ed (bin_x (fld_x (EvX.ed (v_x rfl)) (lk1 (by decide +kernel) (lk1 (by decide +kernel) (lk1 (by decide +kernel) lk0)))) (EvX.ed (v_x rfl)) (r_ixDK (f := (qL qS)) (d := table_.2.2.2) (k := other_) g4))) (r_addL (e := qS) (xs := (kAt table_.2.2.2 label_)) (ys := (kAt table_.2.2.2 other_)) g5)) ?_
    refine rs_env [some (.dat ((qP3 (qT (qP3 qS (qT qS) qB)) qI (qT (qP qS (qT qS)))) generic_)), some (.dat (qS label_)), some (.dat (qS other_)), some (.dat ((fun (p : (List (Tx × List Tx × Bool)) × (List (Tx × (List (Tx × Bool)))) × (List (Tx × List Tx)) × (List (Tx × List Tx))) => D.ins "Table" [("kinds", (qT (qP3 qS (qT qS) qB)) p.1), ("above", (qDK (qDK qB)) p.2.1), ("methods", (qL (qP qS (qT qS))) p.2.2.1), ("nearer", (qDK (qL qS)) p.2.2.2)]) table_)), some (.dat ((qL qS) nearer_)), none, none] rfl ?_
    refine rs_assoc ?_
    obtain ⟨g6, hp⟩ := hp
    obtain ⟨g7, hp⟩ := hp
    obtain ⟨g8, hp⟩ := hp
    refine rs_lt ?_
    intro parts_
    refine rs_set (d := ((qL (qT qS)) parts_)) (call_x (sc_x (d := (qT (qP3 qS (qT qS) qB)) table_.1) (fld_x (EvX.ed (v_x rfl)) lk0) (sc_x (d := (qT qS) (F_Table_shape_of table_ label_)) (meth_x (v_x rfl) rfl (lkn1 (by decide +kernel) (lkn1 (by decide +kernel) (lkn1 (by decide +kernel) (lkn1 (by decide +kernel) lkn0)))) (sc_x (d := qS label_) (v_x rfl) sn) rfl (ok_Table_shape_of table_ label_ g6)) (sc_x (d := (qT qS) (F_Table_shape_of table_ other_)) (meth_x (v_x rfl) rfl (lkn1 (by decide +kernel) (lkn1 (by decide +kernel) (lkn1 (by decide +kernel) (lkn1 (by decide +kernel) lkn0)))) (sc_x (d := qS other_) (v_x rfl) sn) rfl (ok_Table_shape_of table_ other_ g7)) sn))) rfl (ok_common table_.1 (F_Table_shape_of table_ label_) (F_Table_shape_of table_ other_) g8)) ?_
    refine rs_env [some (.dat ((qP3 (qT (qP3 qS (qT qS) qB)) qI (qT (qP qS (qT qS)))) generic_)), some (.dat (qS label_)), some (.dat (qS other_)), some (.dat ((fun (p : (List (Tx × List Tx × Bool)) × (List (Tx × (List (Tx × Bool)))) × (List (Tx × List Tx)) × (List (Tx × List Tx))) => D.ins "Table" [("kinds", (qT (qP3 qS (qT qS) qB)) p.1), ("above", (qDK (qDK qB)) p.2.1), ("methods", (qL (qP qS (qT qS))) p.2.2.1), ("nearer", (qDK (qL qS)) p.2.2.2)]) table_)), some (.dat ((qL qS) nearer_)), some (.dat ((qL (qT qS)) parts_)), none] rfl ?_
    obtain ⟨g10, hp⟩ := hp
    have g11 := hp
    exact rs_ret (fr_x (lcm_n (e := (qT qS)) (e' := qS) (xs := parts_) (w := fun x1_ => (F__least_covering table_ nearer_ x1_)) (sq_x (xs := parts_.map (qT qS)) (v_x rfl) rfl) g10 rfl (fun x1_ hx1_ => ⟨[some (.dat ((qP3 (qT (qP3 qS (qT qS) qB)) qI (qT (qP qS (qT qS)))) generic_)), some (.dat (qS label_)), some (.dat (qS other_)), some (.dat ((fun (p : (List (Tx × List Tx × Bool)) × (List (Tx × (List (Tx × Bool)))) × (List (Tx × List Tx)) × (List (Tx × List Tx))) => D.ins "Table" [("kinds", (qT (qP3 qS (qT qS) qB)) p.1), ("above", (qDK (qDK qB)) p.2.1), ("methods", (qL (qP qS (qT qS))) p.2.2.1), ("nearer", (qDK (qL qS)) p.2.2.2)]) table_)), some (.dat ((qL qS) nearer_)), some (.dat ((qL (qT qS)) parts_)), some (.dat ((qT qS) x1_))], rfl, (call_x (sc_x (d := (fun (p : (List (Tx × List Tx × Bool)) × (List (Tx × (List (Tx × Bool)))) × (List (Tx × List Tx)) × (List (Tx × List Tx))) => D.ins "Table" [("kinds", (qT (qP3 qS (qT qS) qB)) p.1), ("above", (qDK (qDK qB)) p.2.1), ("methods", (qL (qP qS (qT qS))) p.2.2.1), ("nearer", (qDK (qL qS)) p.2.2.2)]) table_) (v_x rfl) (sc_x (d := (qL qS) nearer_) (v_x rfl) (sc_x (d := (qT qS) x1_) (v_x rfl) sn))) rfl (ok__least_covering table_ nearer_ x1_ (g11 x1_ hx1_)))⟩))) cs.exit0

set_option maxHeartbeats 4000000 in
theorem ok_nearest {C0 : Store} (generic_ : ((List (Tx × List Tx × Bool)) × Int × (List (Tx × List Tx)))) (call_ : (List Tx)) (hp : P_nearest generic_ call_) :
    M_nearest [.dat ((qP3 (qT (qP3 qS (qT qS) qB)) qI (qT (qP qS (qT qS)))) generic_), .dat ((qT qS) call_)] C0 = some (.dat ((qL qS) (F_nearest generic_ call_)), C0) := by
  unfold P_nearest at hp
  refine def_E (e := (qL qS)) (st := (fun _ => C0)) (r := F_nearest generic_ call_) rfl ?_
  unfold F_nearest
  change RunS (sSeq m_nearest sNil) [some (.dat ((qP3 (qT (qP3 qS (qT qS) qB)) qI (qT (qP qS (qT qS)))) generic_)), some (.dat ((qT qS) call_))] C0 _
  unfold m_nearest
  refine rs_gen (CS.start) ?_
  intro C cs
  obtain ⟨g1, hp⟩ := hp
  have g2 := hp
  exact rs_ret (meth_x (fr_x (mk_n (sc_x (d := (qP3 (qT (qP3 qS (qT qS) qB)) qI (qT (qP qS (qT qS)))) generic_) (v_x rfl) sn) rfl (ok_Table___init__ generic_ (getNew _ _) g1))) rfl (lkn1 (by decide +kernel) (lkn1 (by decide +kernel) (lkn1 (by decide +kernel) (lkn1 (by decide +kernel) lkn0)))) (sc_x (d := (qT qS) call_) (v_x rfl) sn) rfl (ok_Table_nearest (F_Table___init__ generic_) call_ g2)) cs.exit0

set_option maxHeartbeats 4000000 in
theorem ok_Lright {C0 : Store} {b0 : Nat} (box_here_ : Bx) (hc0 : C0[b0]? = some (qBx box_here_)) (hp : P_Lright box_here_) :
    M_Lright [.cel b0] C0 = some (.dat (qB (F_Lright box_here_).1), C0.set b0 (qBx (F_Lright box_here_).2)) := by
  unfold P_Lright at hp
  refine def_E (e := (fun (r : Bool × Bx) => qB r.1)) (st := (fun r => C0.set b0 (qBx r.2))) (r := F_Lright box_here_) rfl ?_
  unfold F_Lright
  change RunS (sSeq m_Lright sNil) [some (.cel b0), none, none, none, none, none, none, none, none, none, none, none, none, none, none, none, none] C0 _
  unfold m_Lright
  refine rs_gen (CS.start1 hc0) ?_
  intro C cs
  refine rs_assoc ?_
  obtain ⟨hp, hQ⟩ := hp
  refine rs_frz (fun (K1_ : Store) => (fun (s : ((List (List Tx × Tx)) × (List (List Tx)) × ((List (Tx × List Tx × Bool)) × Int × (List (Tx × List Tx))) × (List Tx) × Bx)) ρ C => ∃ (j0 : Option Sv) (j1 : Option Sv) (j2 : Option Sv) (j3 : Option Sv) (j4 : Option Sv) (j5 : Option Sv) (j6 : Option Sv) (j7 : Option Sv) (j8 : Option Sv) (j9 : Option Sv) (j10 : Option Sv) (j11 : Option Sv) (a0 : Nat) (a1 : Nat), ρ = [some (.cel b0), some (.dat ((qL qS) s.2.2.2.1)), j0, some (.dat ((qP3 (qT (qP3 qS (qT qS) qB)) qI (qT (qP qS (qT qS)))) s.2.2.1)), j1, j2, j3, some (.cel a0), some (.cel a1), j4, j5, j6, j7, j8, j9, j10, j11] ∧ CS K1_ C [(b0, qBx s.2.2.2.2)] [(a0, (qDT qS) s.1), (a1, (qL (qT qS)) s.2.1)])) (fun (s : ((List (List Tx × Tx)) × (List (List Tx)) × ((List (Tx × List Tx × Bool)) × Int × (List (Tx × List Tx))) × (List Tx) × Bx)) ρ C => ∃ (j0 : Option Sv) (j1 : Option Sv) (j2 : Option Sv) (j3 : Option Sv) (j4 : Option Sv) (j5 : Option Sv) (j6 : Option Sv) (j7 : Option Sv) (j8 : Option Sv) (j9 : Option Sv) (j10 : Option Sv) (j11 : Option Sv), ρ = [some (.cel b0), some (.dat ((qL qS) s.2.2.2.1)), j0, some (.dat ((qP3 (qT (qP3 qS (qT qS) qB)) qI (qT (qP qS (qT qS)))) s.2.2.1)), j1, j2, j3, some (.dat ((qDT qS) s.1)), some (.dat ((qL (qT qS)) s.2.1)), j4, j5, j6, j7, j8, j9, j10, j11] ∧ CS C0 C [(b0, qBx s.2.2.2.2)] []) (q := fun s45_ => lt s45_.1 fun book_5_ => lt s45_.2.1 fun closed_6_ => lt s45_.2.2.1 fun generic_so_1_ => lt s45_.2.2.2.1 fun tops_1_ => lt s45_.2.2.2.2 fun box_here_4_ => (∀ kv ∈ book_5_, kv.1.length ≤ 1000) ∧ ((book_5_.map (·.1)).length ≤ sizeLine) ∧ (∀ x58_ ∈ (book_5_.map (·.1)), ((!isIn x58_ closed_6_) = true → (kHas book_5_ x58_ = true))) ∧ ((((book_5_.map (·.1)).filter fun x58_ => (!isIn x58_ closed_6_)).map fun x58_ => [(kAt book_5_ x58_)]).length ≤ 1000 ∧ ∀ x ∈ (((book_5_.map (·.1)).filter fun x58_ => (!isIn x58_ closed_6_)).map fun x58_ => [(kAt book_5_ x58_)]), x ≠ []) ∧ lt ((sortE (qT qS) (((book_5_.map (·.1)).filter fun x58_ => (!isIn x58_ closed_6_)).map fun x58_ => [(kAt book_5_ x58_)]))) fun due_ => (P_torn generic_so_1_) ∧ (P_greatest_torn generic_so_1_) ∧ ([(F_torn generic_so_1_), (F_greatest_torn generic_so_1_)] = [due_, due_] ∧ szD 9 ((qL (qL (qT qS))) [(F_torn generic_so_1_), (F_greatest_torn generic_so_1_)]) = true) ∧ (P_Lpairs tops_1_) ∧ lpP (σ := Unit) (ρ := (Bool × Bx)) (F_Lpairs tops_1_) () (fun s59_ x71_ => lt (((tS "m") ++ (atD x71_ (0 : Int)))) fun label_so_ => lt (((tS "m") ++ (atD x71_ (1 : Int)))) fun its_ => lt ((if ((kHas book_5_ x71_) && (!isIn x71_ closed_6_)) = true then (some [(kAt book_5_ x71_)]) else none)) fun spot_ => lt ((if (isIn x71_ closed_6_) = true then [((tS "w") ++ (signAt (kAt book_5_ x71_) (1 : Int)))] else ([] : (List Tx)))) fun parts_ => lt (((F_meet generic_so_1_ label_so_ its_), (F_cover generic_so_1_ its_ label_so_))) fun told_ => if (spot_.isSome && (!true)) = true then (.rt ((false, box_here_4_))) else (.nx (()))) (fun s59_ x71_ => ((atI x71_ (0 : Int)).isSome = true) ∧ ((tS "m").1.length + (atD x71_ (0 : Int)).1.length ≤ sizeLine) ∧ ((atI x71_ (1 : Int)).isSome = true) ∧ ((tS "m").1.length + (atD x71_ (1 : Int)).1.length ≤ sizeLine) ∧ lt (((tS "m") ++ (atD x71_ (0 : Int)))) fun label_so_ => lt (((tS "m") ++ (atD x71_ (1 : Int)))) fun its_ => (((kHas book_5_ x71_) && (!isIn x71_ closed_6_)) = true → (kHas book_5_ x71_ = true)) ∧ lt ((if ((kHas book_5_ x71_) && (!isIn x71_ closed_6_)) = true then (some [(kAt book_5_ x71_)]) else none)) fun spot_ => ((isIn x71_ closed_6_) = true → (kHas book_5_ x71_ = true) ∧ ((kAt book_5_ x71_).1.length ≤ sizeLine ∧ (atI (signs (kAt book_5_ x71_)) (1 : Int)).isSome = true) ∧ ((tS "w").1.length + (signAt (kAt book_5_ x71_) (1 : Int)).1.length ≤ sizeLine)) ∧ lt ((if (isIn x71_ closed_6_) = true then [((tS "w") ++ (signAt (kAt book_5_ x71_) (1 : Int)))] else ([] : (List Tx)))) fun parts_ => (P_meet generic_so_1_ label_so_ its_) ∧ (P_cover generic_so_1_ its_ label_so_) ∧ lt (((F_meet generic_so_1_ label_so_ its_), (F_cover generic_so_1_ its_ label_so_))) fun told_ => (told_ = (spot_, (if spot_.isNone = true then (some parts_) else none)) ∧ szD 9 ((qQ (qO (qT qS)) (qO (qL qS))) told_) = true) ∧ (spot_.isSome = true → (P_nearest generic_so_1_ (spot_.getD default)) ∧ ((F_nearest generic_so_1_ (spot_.getD default)) = [label_so_, its_] ∧ szD 9 ((qL qS) (F_nearest generic_so_1_ (spot_.getD default))) = true)))) cs (fun K1_ cs0 cs => ?_) ?_ hQ ?_
  ·
    refine rs_last ?_
    refine rs_gen cs ?_
    intro C cs
    refine rs_assoc ?_
    obtain ⟨g1, hp⟩ := hp
    refine rs_lt ?_
    intro r2_
    refine rs_lt ?_
    intro tops_
    refine rs_set (d := ((qL qS) tops_)) (sl_x (fr_x (lst_n (ac c_x (ac c_x (ac c_x (ac c_x an)))) (Nat.le_of_ble_eq_true rfl))) on (os (bin_x c_x (EvX.ed (call_x (sc_s (v_s rfl) (sc_x (d := qI (3 : Int)) c_x sn)) rfl (ok_Ltake box_here_ (3 : Int) (cs.getP 0 rfl) g1))) (r_addI (2 : Int) r2_.1))) (r_slL (e := qS) [(tS "a"), (tS "b"), (tS "c"), (tS "d")] _ _)) ?_
    refine rs_env [some (.cel b0), some (.dat ((qL qS) tops_)), none, none, none, none, none, none, none, none, none, none, none, none, none, none, none] rfl ?_
    refine rs_gen (CS.putP cs 0 (qBx r2_.2) rfl) ?_
    intro C cs
    refine rs_assoc ?_
    obtain ⟨g2, hp⟩ := hp
    refine rs_lt ?_
    intro rows_
    refine rs_lt ?_
    intro book_
    refine rs_lt ?_
    intro closed_
    refine rs_mulA ?_
    refine am_n (d := (qL (qP3 qS (qT qS) qB)) rows_) cs (lcm_n (e := qS) (e' := (qP3 qS (qT qS) qB)) (xs := tops_) (w := fun x3_ => (x3_, ([] : (List Tx)), false)) (sq_x (xs := tops_.map qS) (v_x rfl) rfl) g2 rfl (fun x3_ hx3_ => ⟨[some (.cel b0), some (.dat ((qL qS) tops_)), none, none, none, none, none, none, none, none, none, none, none, none, none, none, some (.dat (qS x3_))], rfl, (tup_x (ac (v_x rfl) (ac (tup_x an (Nat.le_of_ble_eq_true rfl)) (ac c_x an))) (Nat.le_of_ble_eq_true rfl))⟩)) ?_
    intro n4_ C cs
    refine am_n (d := (qDT qS) book_) cs ndT ?_
    intro n5_ C cs
    refine am_n (d := (qL (qT qS)) closed_) cs (lst_n an (Nat.le_of_ble_eq_true rfl)) ?_
    intro n6_ C cs
    refine am_nil ⟨rfl, ?_⟩
    refine rs_env [some (.cel b0), some (.dat ((qL qS) tops_)), none, none, none, none, some (.cel n4_), some (.cel n5_), some (.cel n6_), none, none, none, none, none, none, none, none] rfl ?_
    refine rs_assoc ?_
    obtain ⟨g4, hp⟩ := hp
    obtain ⟨g5, hp⟩ := hp
    refine rs_lt ?_
    intro methods_
    refine rs_newC (d := (qL (qP qS (qT qS))) methods_) cs (lcm_n (e := qS) (e' := (qP qS (qT qS))) (xs := tops_) (w := fun x7_ => (((tS "m") ++ x7_), [x7_])) (sq_x (xs := tops_.map qS) (v_x rfl) rfl) g4 rfl (fun x7_ hx7_ => ⟨[some (.cel b0), some (.dat ((qL qS) tops_)), none, none, none, none, some (.cel n4_), some (.cel n5_), some (.cel n6_), none, none, none, none, none, none, none, some (.dat (qS x7_))], rfl, (tup_x (ac (bin_x c_x (EvX.ed (v_x rfl)) (r_addS (a := (tS "m")) (b := x7_) (g5 x7_ hx7_))) (ac (tup_x (ac (v_x rfl) an) (Nat.le_of_ble_eq_true rfl)) an)) (Nat.le_of_ble_eq_true rfl))⟩)) ?_
    intro n8_ C cs
    refine rs_env [some (.cel b0), some (.dat ((qL qS) tops_)), some (.cel n8_), none, none, none, some (.cel n4_), some (.cel n5_), some (.cel n6_), none, none, none, none, none, none, none, none] rfl ?_
    refine rs_assoc ?_
    obtain ⟨g6, hp⟩ := hp
    obtain ⟨hP, hQ⟩ := hp
    refine rs_for (fun (s : ((List (List Tx × Tx)) × Bx × (List (List Tx)) × (List (Tx × List Tx)) × (List (Tx × List Tx × Bool)))) ρ C => ∃ (j0 : Option Sv) (j1 : Option Sv) (j2 : Option Sv) (j3 : Option Sv) (j4 : Option Sv) (j5 : Option Sv) (j6 : Option Sv) (j7 : Option Sv) (j8 : Option Sv) (j9 : Option Sv) (j10 : Option Sv), ρ = [some (.cel b0), some (.dat ((qL qS) tops_)), some (.cel n8_), j0, j1, j2, some (.cel n4_), some (.cel n5_), some (.cel n6_), j3, j4, j5, j6, j7, j8, j9, j10] ∧ CS K1_ C [(b0, qBx s.2.1)] [(n4_, (qL (qP3 qS (qT qS) qB)) s.2.2.2.2), (n5_, (qDT qS) s.1), (n6_, (qL (qT qS)) s.2.2.1), (n8_, (qL (qP qS (qT qS))) s.2.2.2.1)]) (p := fun s9_ x21_ => lt s9_.1 fun book_1_ => lt s9_.2.1 fun box_here_1_ => lt s9_.2.2.1 fun closed_1_ => lt s9_.2.2.2.1 fun methods_1_ => lt s9_.2.2.2.2 fun rows_1_ => (decide ((rows_1_.length : Int) < (8 : Int)) = true → (P_Ltake box_here_1_ (4 : Int))) ∧ lt (if decide ((rows_1_.length : Int) < (8 : Int)) = true then lt ((F_Ltake box_here_1_ (4 : Int))) fun r22_ => (decide ((0 : Int) < r22_.1), r22_.2) else (false, box_here_1_)) fun r23_ => (if r23_.1 = true then (((tS "uvwxyz").1.length ≤ sizeLine ∧ (atI (signs (tS "uvwxyz")) x21_.1).isSome = true) ∧ ((tS "z").1.length + (signAt (tS "uvwxyz") x21_.1).1.length ≤ sizeLine) ∧ lt (((tS "z") ++ (signAt (tS "uvwxyz") x21_.1))) fun name_ => (rows_1_.length < sizeLine) ∧ lt ((rows_1_ ++ [(name_, x21_.2, false)])) fun rows_2_ => (book_1_.length < sizeLine) ∧ lt ((kPut book_1_ x21_.2 name_)) fun book_2_ => (P_Ltake r23_.2 (3 : Int)) ∧ lt ((F_Ltake r23_.2 (3 : Int))) fun r24_ => (if ((decide (r24_.1 = (0 : Int))) && decide ((methods_1_.length : Int) < (7 : Int))) = true then (((tS "uvwxyz").1.length ≤ sizeLine ∧ (atI (signs (tS "uvwxyz")) x21_.1).isSome = true) ∧ ((tS "w").1.length + (signAt (tS "uvwxyz") x21_.1).1.length ≤ sizeLine) ∧ (methods_1_.length < sizeLine) ∧ lt ((methods_1_ ++ [(((tS "w") ++ (signAt (tS "uvwxyz") x21_.1)), [name_])])) fun methods_2_ => (closed_1_.length < sizeLine)) else True)) else True)) (q := fun s44_ => lt s44_.1 fun book_4_ => lt s44_.2.1 fun box_here_3_ => lt s44_.2.2.1 fun closed_5_ => lt s44_.2.2.2.1 fun methods_5_ => lt s44_.2.2.2.2 fun rows_4_ => (methods_5_.length ≤ 1000)) (en_x (e := (qT qS)) (xs := (F_Lpairs tops_)) (call_x (sc_x (d := (qL qS) tops_) (v_x rfl) sn) rfl (ok_Lpairs tops_ g6))) ⟨_, _, _, _, _, _, _, _, _, _, _, rfl, cs⟩ ?_ hP ?_ hQ ?_
    · rintro s9_ ρ C ⟨n10_, n11_, n12_, n13_, n14_, n15_, n16_, n17_, n18_, n19_, n20_, rfl, cs⟩
      exact rfl
    · rintro s9_ x21_ ρ C hx21_ ⟨n10_, n11_, n12_, n13_, n14_, n15_, n16_, n17_, n18_, n19_, n20_, rfl, cs⟩ hp
      refine ⟨[some (.cel b0), some (.dat ((qL qS) tops_)), some (.cel n8_), n10_, n11_, some (.dat ((qT qS) x21_.2)), some (.cel n4_), some (.cel n5_), some (.cel n6_), some (.dat (qI x21_.1)), n14_, n15_, n16_, n17_, n18_, n19_, n20_], rfl, ?_⟩
      refine rs_last ?_
      refine rs_lt ?_
      intro book_1_
      refine rs_lt ?_
      intro box_here_1_
      refine rs_lt ?_
      intro closed_1_
      refine rs_lt ?_
      intro methods_1_
      refine rs_lt ?_
      intro rows_1_
      refine rs_env [some (.cel b0), some (.dat ((qL qS) tops_)), some (.cel n8_), n10_, n11_, some (.dat ((qT qS) x21_.2)), some (.cel n4_), some (.cel n5_), some (.cel n6_), some (.dat (qI x21_.1)), n14_, n15_, n16_, n17_, n18_, n19_, n20_] rfl ?_
      obtain ⟨g8, hp⟩ := hp
      refine rs_lt ?_
      intro r23_
      refine rs_ifj (fun (s : ((List (List Tx × Tx)) × Bx × (List (List Tx)) × (List (Tx × List Tx)) × (List (Tx × List Tx × Bool)))) ρ C => ∃ (j0 : Option Sv) (j1 : Option Sv) (j2 : Option Sv) (j3 : Option Sv) (j4 : Option Sv) (j5 : Option Sv) (j6 : Option Sv) (j7 : Option Sv) (j8 : Option Sv), ρ = [some (.cel b0), some (.dat ((qL qS) tops_)), some (.cel n8_), j0, j1, some (.dat ((qT qS) x21_.2)), some (.cel n4_), some (.cel n5_), some (.cel n6_), some (.dat (qI x21_.1)), j2, j3, j4, j5, j6, j7, j8] ∧ CS K1_ C [(b0, qBx s.2.1)] [(n4_, (qL (qP3 qS (qT qS) qB)) s.2.2.2.2), (n5_, (qDT qS) s.1), (n6_, (qL (qT qS)) s.2.2.1), (n8_, (qL (qP qS (qT qS))) s.2.2.2.1)]) (b := r23_.1) (q := fun s34_ => True) (and_ts (qb := qBx) (B := box_here_1_) (r := lt ((F_Ltake box_here_1_ (4 : Int))) fun r22_ => (decide ((0 : Int) < r22_.1), r22_.2)) (tb_t (b := decide ((rows_1_.length : Int) < (8 : Int))) (bin_x (b_x (ec1 (v_c rfl (cs.getL 0 rfl))) (r_lenL (e := (qP3 qS (qT qS) qB)) rows_1_)) (EvX.ed c_x) (r_ltI (rows_1_.length : Int) (8 : Int)))) (cs.getP 0 rfl) (fun hc => (let r22_ := (F_Ltake box_here_1_ (4 : Int)); (tb_t (b := decide ((0 : Int) < r22_.1)) (bin_x (call_x (sc_s (v_s rfl) (sc_x (d := qI (4 : Int)) c_x sn)) rfl (ok_Ltake box_here_1_ (4 : Int) (cs.getP 0 rfl) (g8 hc))) (EvX.ed c_x) (r_gtI r22_.1 (0 : Int))))))) (fun hc => ?_) (fun hc => ?_) thP_true ?_
      ·
        refine rs_last ?_
        refine rs_gen (CS.putP cs 0 (qBx r23_.2) rfl) ?_
        intro C cs
        replace hp := ite_t hc hp
        refine rs_assoc ?_
        obtain ⟨g9, hp⟩ := hp
        obtain ⟨g10, hp⟩ := hp
        refine rs_lt ?_
        intro name_
        refine rs_set (d := (qS name_)) (bin_x c_x (EvX.ed (bin_x c_x (EvX.ed (v_x rfl)) (r_ixS (t := (tS "uvwxyz")) (i := x21_.1) g9))) (r_addS (a := (tS "z")) (b := (signAt (tS "uvwxyz") x21_.1)) g10)) ?_
        refine rs_env [some (.cel b0), some (.dat ((qL qS) tops_)), some (.cel n8_), n10_, n11_, some (.dat ((qT qS) x21_.2)), some (.cel n4_), some (.cel n5_), some (.cel n6_), some (.dat (qI x21_.1)), n14_, n15_, n16_, some (.dat (qS name_)), n18_, n19_, n20_] rfl ?_
        refine rs_assoc ?_
        obtain ⟨g11, hp⟩ := hp
        refine rs_lt ?_
        intro rows_2_
        refine rs_app (e := (qP3 qS (qT qS) qB)) (xs := rows_1_) (x := (name_, x21_.2, false)) rfl (cs.getL 0 rfl) (tup_x (ac (v_x rfl) (ac (v_x rfl) (ac c_x an))) (Nat.le_of_ble_eq_true rfl)) (cs.getL 0 rfl) g11 ?_
        refine rs_gen (CS.putL cs 0 ((qL (qP3 qS (qT qS) qB)) rows_2_) rfl) ?_
        intro C cs
        refine rs_assoc ?_
        obtain ⟨g12, hp⟩ := hp
        refine rs_lt ?_
        intro book_2_
        refine rs_putT (e := qS) (xs := book_1_) (k := x21_.2) (v := name_) (v_x rfl) rfl (cs.getL 1 rfl) (EvX.ed (v_x rfl)) g12 ?_
        refine rs_gen (CS.putL cs 1 ((qDT qS) book_2_) rfl) ?_
        intro C cs
        obtain ⟨g13, hp⟩ := hp
        refine rs_lt ?_
        intro r24_
        refine rs_ifj (fun (s : ((List (List Tx)) × (List (Tx × List Tx)))) ρ C => ∃ (j0 : Option Sv) (j1 : Option Sv) (j2 : Option Sv) (j3 : Option Sv) (j4 : Option Sv) (j5 : Option Sv) (j6 : Option Sv) (j7 : Option Sv), ρ = [some (.cel b0), some (.dat ((qL qS) tops_)), some (.cel n8_), j0, j1, some (.dat ((qT qS) x21_.2)), some (.cel n4_), some (.cel n5_), some (.cel n6_), some (.dat (qI x21_.1)), j2, j3, j4, some (.dat (qS name_)), j5, j6, j7] ∧ CS K1_ C [(b0, qBx r24_.2)] [(n4_, (qL (qP3 qS (qT qS) qB)) rows_2_), (n5_, (qDT qS) book_2_), (n6_, (qL (qT qS)) s.1), (n8_, (qL (qP qS (qT qS))) s.2)]) (b := ((decide (r24_.1 = (0 : Int))) && decide ((methods_1_.length : Int) < (7 : Int)))) (q := fun s25_ => True) (and_t (b := (decide (r24_.1 = (0 : Int)))) (c := decide ((methods_1_.length : Int) < (7 : Int))) (tb_t (b := (decide (r24_.1 = (0 : Int)))) (bin_x (call_x (sc_s (v_s rfl) (sc_x (d := qI (3 : Int)) c_x sn)) rfl (ok_Ltake r23_.2 (3 : Int) (cs.getP 0 rfl) g13)) (EvX.ed c_x) (r_eq (e := qI) r24_.1 (0 : Int)))) (fun hc => (tb_t (b := decide ((methods_1_.length : Int) < (7 : Int))) (bin_x (b_x (ec1 (v_c rfl ((CS.putP cs 0 (qBx r24_.2) rfl).getL 3 rfl))) (r_lenL (e := (qP qS (qT qS))) methods_1_)) (EvX.ed c_x) (r_ltI (methods_1_.length : Int) (7 : Int)))))) (fun hc => ?_) (fun hc => ?_) thP_true ?_
        ·
          refine rs_last ?_
          refine rs_gen (CS.putP cs 0 (qBx r24_.2) rfl) ?_
          intro C cs
          replace hp := ite_t hc hp
          refine rs_assoc ?_
          obtain ⟨g14, hp⟩ := hp
          obtain ⟨g15, hp⟩ := hp
          obtain ⟨g16, hp⟩ := hp
          refine rs_lt ?_
          intro methods_2_
          refine rs_app (e := (qP qS (qT qS))) (xs := methods_1_) (x := (((tS "w") ++ (signAt (tS "uvwxyz") x21_.1)), [name_])) rfl (cs.getL 3 rfl) (tup_x (ac (bin_x c_x (EvX.ed (bin_x c_x (EvX.ed (v_x rfl)) (r_ixS (t := (tS "uvwxyz")) (i := x21_.1) g14))) (r_addS (a := (tS "w")) (b := (signAt (tS "uvwxyz") x21_.1)) g15)) (ac (tup_x (ac (v_x rfl) an) (Nat.le_of_ble_eq_true rfl)) an)) (Nat.le_of_ble_eq_true rfl)) (cs.getL 3 rfl) g16 ?_
          refine rs_gen (CS.putL cs 3 ((qL (qP qS (qT qS))) methods_2_) rfl) ?_
          intro C cs
          have g17 := hp
          refine rs_lt ?_
          intro closed_2_
          refine rs_app (e := (qT qS)) (xs := closed_1_) (x := x21_.2) rfl (cs.getL 2 rfl) (v_x rfl) (cs.getL 2 rfl) g17 ?_
          refine rs_gen (CS.putL cs 2 ((qL (qT qS)) closed_2_) rfl) ?_
          intro C cs
          exact rs_endj ⟨_, _, _, _, _, _, _, _, rfl, cs⟩
        ·
          refine rs_last ?_
          refine rs_gen (CS.putP cs 0 (qBx r24_.2) rfl) ?_
          intro C cs
          refine rs_nil ?_
          exact rs_endj ⟨_, _, _, _, _, _, _, _, rfl, cs⟩
        · rintro s25_ ρ C ⟨n26_, n27_, n28_, n29_, n30_, n31_, n32_, n33_, rfl, cs⟩ hp
          refine rs_lt ?_
          intro closed_3_
          refine rs_lt ?_
          intro methods_3_
          exact rs_endj ⟨_, _, _, _, _, _, _, _, _, rfl, cs⟩
      ·
        refine rs_last ?_
        refine rs_gen (CS.putP cs 0 (qBx r23_.2) rfl) ?_
        intro C cs
        refine rs_nil ?_
        exact rs_endj ⟨_, _, _, _, _, _, _, _, _, rfl, cs⟩
      · rintro s34_ ρ C ⟨n35_, n36_, n37_, n38_, n39_, n40_, n41_, n42_, n43_, rfl, cs⟩ hp
        refine rs_lt ?_
        intro book_3_
        refine rs_lt ?_
        intro box_here_2_
        refine rs_lt ?_
        intro closed_4_
        refine rs_lt ?_
        intro methods_4_
        refine rs_lt ?_
        intro rows_3_
        exact rs_end ⟨_, _, _, _, _, _, _, _, _, _, _, rfl, cs⟩
    · rintro s44_ ρ C ⟨n10_, n11_, n12_, n13_, n14_, n15_, n16_, n17_, n18_, n19_, n20_, rfl, cs⟩ hp
      refine rs_lt ?_
      intro book_4_
      refine rs_lt ?_
      intro box_here_3_
      refine rs_lt ?_
      intro closed_5_
      refine rs_lt ?_
      intro methods_5_
      refine rs_lt ?_
      intro rows_4_
      have g18 := hp
      refine rs_lt ?_
      intro generic_so_
      refine rs_set (d := ((qP3 (qT (qP3 qS (qT qS) qB)) qI (qT (qP qS (qT qS)))) generic_so_)) (tup_x (ac (b_x (ec1 (v_c rfl (cs.getL 0 rfl))) (r_tupleL (e := (qP3 qS (qT qS) qB)) rows_4_)) (ac c_x (ac (b_x (ec1 (EvX.ed (fr_x (nb_x (ec1 (v_c rfl (cs.getL 3 rfl))) (r_sort3R g18))))) (r_tupleL (e := (qP qS (qT qS))) (sortE qRow methods_5_))) an))) (Nat.le_of_ble_eq_true rfl)) ?_
      refine rs_env [some (.cel b0), some (.dat ((qL qS) tops_)), some (.cel n8_), some (.dat ((qP3 (qT (qP3 qS (qT qS) qB)) qI (qT (qP qS (qT qS)))) generic_so_)), n11_, n12_, some (.cel n4_), some (.cel n5_), some (.cel n6_), n13_, n14_, n15_, n16_, n17_, n18_, n19_, n20_] rfl ?_
      exact rs_endj ⟨_, _, _, _, _, _, _, _, _, _, _, _, _, _, rfl, (cs.sel [1, 2] rfl)⟩
  · rintro K1_ cs0 s ρ C ⟨n78_, n79_, n80_, n81_, n82_, n83_, n84_, n85_, n86_, n87_, n88_, n89_, n76_, n77_, rfl, cs⟩
    exact ⟨_, _, _, _, _, _, _, _, _, _, _, _, (consEq (frz_old (cs.ltP 0 rfl)) (consEq rfl (consEq rfl (consEq rfl (consEq rfl (consEq rfl (consEq rfl (consEq (frz_new (cs.geL 0 rfl) (cs.getL 0 rfl) rfl) (consEq (frz_new (cs.geL 1 rfl) (cs.getL 1 rfl) rfl) (consEq rfl (consEq rfl (consEq rfl (consEq rfl (consEq rfl (consEq rfl (consEq rfl (consEq rfl rfl))))))))))))))))), CS.unbase cs0 cs rfl ⟨rfl, rfl⟩⟩
  · rintro s45_ ρ C ⟨n46_, n47_, n48_, n49_, n50_, n51_, n52_, n53_, n54_, n55_, n56_, n57_, rfl, cs⟩ hp
    refine rs_lt ?_
    intro book_5_
    refine rs_lt ?_
    intro closed_6_
    refine rs_lt ?_
    intro generic_so_1_
    refine rs_lt ?_
    intro tops_1_
    refine rs_lt ?_
    intro box_here_4_
    refine rs_assoc ?_
    obtain ⟨g19, hp⟩ := hp
    obtain ⟨g21, hp⟩ := hp
    obtain ⟨g23, hp⟩ := hp
    obtain ⟨g24, hp⟩ := hp
    refine rs_lt ?_
    intro due_
    refine rs_set (d := ((qL (qT qS)) due_)) (fr_x (nb_x (ec1 (EvX.ed (fr_x (lc_n (e := (qT qS)) (e' := (qT qS)) (xs := (book_5_.map (·.1))) (p := fun x58_ => (!isIn x58_ closed_6_)) (w := fun x58_ => [(kAt book_5_ x58_)]) (kyT_x (e := qS) (kvs := book_5_) (v_x rfl) g19) g21 rfl (fun x58_ hx58_ => ⟨[some (.cel b0), some (.dat ((qL qS) tops_1_)), n46_, some (.dat ((qP3 (qT (qP3 qS (qT qS) qB)) qI (qT (qP qS (qT qS)))) generic_so_1_)), n47_, some (.dat ((qT qS) x58_)), n49_, some (.dat ((qDT qS) book_5_)), some (.dat ((qL (qT qS)) closed_6_)), n50_, n51_, n52_, n53_, n54_, n55_, n56_, n57_], rfl, (tb_t (b := (!isIn x58_ closed_6_)) (bin_x (v_x rfl) (EvX.ed (v_x rfl)) (r_ninL (e := (qT qS)) x58_ closed_6_))), fun hc => (tup_x (ac (bin_x (v_x rfl) (EvX.ed (v_x rfl)) (r_ixDT (f := qS) (d := book_5_) (k := x58_) ((g23 x58_ hx58_) hc))) an) (Nat.le_of_ble_eq_true rfl))⟩))))) (r_sort3T g24))) ?_
    refine rs_env [some (.cel b0), some (.dat ((qL qS) tops_1_)), n46_, some (.dat ((qP3 (qT (qP3 qS (qT qS) qB)) qI (qT (qP qS (qT qS)))) generic_so_1_)), some (.dat ((qL (qT qS)) due_)), n48_, n49_, some (.dat ((qDT qS) book_5_)), some (.dat ((qL (qT qS)) closed_6_)), n50_, n51_, n52_, n53_, n54_, n55_, n56_, n57_] rfl ?_
    refine rs_assoc ?_
    obtain ⟨g25, hp⟩ := hp
    obtain ⟨g26, hp⟩ := hp
    obtain ⟨g27, hp⟩ := hp
    refine rs_ifF (b := (!true)) (not_t (b := true) (tt_t (b := true) (EvX.ed (call_x (sc_x (d := (qL (qL (qT qS))) [(F_torn generic_so_1_), (F_greatest_torn generic_so_1_)]) (fr_x (lst_n (ac (call_x (sc_x (d := (qP3 (qT (qP3 qS (qT qS) qB)) qI (qT (qP qS (qT qS)))) generic_so_1_) (v_x rfl) sn) rfl (ok_torn generic_so_1_ g25)) (ac (call_x (sc_x (d := (qP3 (qT (qP3 qS (qT qS) qB)) qI (qT (qP qS (qT qS)))) generic_so_1_) (v_x rfl) sn) rfl (ok_greatest_torn generic_so_1_ g26)) an)) (Nat.le_of_ble_eq_true rfl))) (sc_x (d := (qL (qL (qT qS))) [due_, due_]) (fr_x (lst_n (ac (v_x rfl) (ac (v_x rfl) an)) (Nat.le_of_ble_eq_true rfl))) sn)) rfl (ok_Lsame (e := (qL (qL (qT qS)))) [(F_torn generic_so_1_), (F_greatest_torn generic_so_1_)] [due_, due_] g27))) (t_B _))) rfl ?_
    refine rs_nil ?_
    refine rs_assoc ?_
    obtain ⟨g28, hp⟩ := hp
    have hP := hp
    refine rs_for (fun (s : Unit) ρ C => ∃ (j0 : Option Sv) (j1 : Option Sv) (j2 : Option Sv) (j3 : Option Sv) (j4 : Option Sv) (j5 : Option Sv) (j6 : Option Sv) (j7 : Option Sv) (j8 : Option Sv) (j9 : Option Sv) (j10 : Option Sv), ρ = [some (.cel b0), some (.dat ((qL qS) tops_1_)), j0, some (.dat ((qP3 (qT (qP3 qS (qT qS) qB)) qI (qT (qP qS (qT qS)))) generic_so_1_)), some (.dat ((qL (qT qS)) due_)), j1, j2, some (.dat ((qDT qS) book_5_)), some (.dat ((qL (qT qS)) closed_6_)), j3, j4, j5, j6, j7, j8, j9, j10] ∧ CS C0 C [(b0, qBx box_here_4_)] []) (p := fun s59_ x71_ => ((atI x71_ (0 : Int)).isSome = true) ∧ ((tS "m").1.length + (atD x71_ (0 : Int)).1.length ≤ sizeLine) ∧ ((atI x71_ (1 : Int)).isSome = true) ∧ ((tS "m").1.length + (atD x71_ (1 : Int)).1.length ≤ sizeLine) ∧ lt (((tS "m") ++ (atD x71_ (0 : Int)))) fun label_so_ => lt (((tS "m") ++ (atD x71_ (1 : Int)))) fun its_ => (((kHas book_5_ x71_) && (!isIn x71_ closed_6_)) = true → (kHas book_5_ x71_ = true)) ∧ lt ((if ((kHas book_5_ x71_) && (!isIn x71_ closed_6_)) = true then (some [(kAt book_5_ x71_)]) else none)) fun spot_ => ((isIn x71_ closed_6_) = true → (kHas book_5_ x71_ = true) ∧ ((kAt book_5_ x71_).1.length ≤ sizeLine ∧ (atI (signs (kAt book_5_ x71_)) (1 : Int)).isSome = true) ∧ ((tS "w").1.length + (signAt (kAt book_5_ x71_) (1 : Int)).1.length ≤ sizeLine)) ∧ lt ((if (isIn x71_ closed_6_) = true then [((tS "w") ++ (signAt (kAt book_5_ x71_) (1 : Int)))] else ([] : (List Tx)))) fun parts_ => (P_meet generic_so_1_ label_so_ its_) ∧ (P_cover generic_so_1_ its_ label_so_) ∧ lt (((F_meet generic_so_1_ label_so_ its_), (F_cover generic_so_1_ its_ label_so_))) fun told_ => (told_ = (spot_, (if spot_.isNone = true then (some parts_) else none)) ∧ szD 9 ((qQ (qO (qT qS)) (qO (qL qS))) told_) = true) ∧ (spot_.isSome = true → (P_nearest generic_so_1_ (spot_.getD default)) ∧ ((F_nearest generic_so_1_ (spot_.getD default)) = [label_so_, its_] ∧ szD 9 ((qL qS) (F_nearest generic_so_1_ (spot_.getD default))) = true))) (q := fun s75_ => True) (sq_x (xs := (F_Lpairs tops_1_).map (qT qS)) (call_x (sc_x (d := (qL qS) tops_1_) (v_x rfl) sn) rfl (ok_Lpairs tops_1_ g28)) rfl) ⟨_, _, _, _, _, _, _, _, _, _, _, rfl, cs⟩ ?_ hP ?_ thP_true ?_
    · rintro s59_ ρ C ⟨n60_, n61_, n62_, n63_, n64_, n65_, n66_, n67_, n68_, n69_, n70_, rfl, cs⟩
      exact rfl
    · rintro s59_ x71_ ρ C hx71_ ⟨n60_, n61_, n62_, n63_, n64_, n65_, n66_, n67_, n68_, n69_, n70_, rfl, cs⟩ hp
      refine ⟨[some (.cel b0), some (.dat ((qL qS) tops_1_)), n60_, some (.dat ((qP3 (qT (qP3 qS (qT qS) qB)) qI (qT (qP qS (qT qS)))) generic_so_1_)), some (.dat ((qL (qT qS)) due_)), some (.dat ((qT qS) x71_)), n62_, some (.dat ((qDT qS) book_5_)), some (.dat ((qL (qT qS)) closed_6_)), n63_, n64_, n65_, n66_, n67_, n68_, n69_, n70_], rfl, ?_⟩
      refine rs_last ?_
      refine rs_env [some (.cel b0), some (.dat ((qL qS) tops_1_)), n60_, some (.dat ((qP3 (qT (qP3 qS (qT qS) qB)) qI (qT (qP qS (qT qS)))) generic_so_1_)), some (.dat ((qL (qT qS)) due_)), some (.dat ((qT qS) x71_)), n62_, some (.dat ((qDT qS) book_5_)), some (.dat ((qL (qT qS)) closed_6_)), n63_, n64_, n65_, n66_, n67_, n68_, n69_, n70_] rfl ?_
      refine rs_assoc ?_
      obtain ⟨g29, hp⟩ := hp
      obtain ⟨g30, hp⟩ := hp
      obtain ⟨g31, hp⟩ := hp
      obtain ⟨g32, hp⟩ := hp
      refine rs_lt ?_
      intro label_so_
      refine rs_lt ?_
      intro its_
      refine rs_mulA ?_
      refine am_x (d := qS label_so_) (bin_x c_x (EvX.ed (bin_x (v_x rfl) (EvX.ed c_x) (r_ixT (e := qS) (xs := x71_) (i := (0 : Int)) g29))) (r_addS (a := (tS "m")) (b := (atD x71_ (0 : Int))) g30)) ?_
      refine am_x (d := qS its_) (bin_x c_x (EvX.ed (bin_x (v_x rfl) (EvX.ed c_x) (r_ixT (e := qS) (xs := x71_) (i := (1 : Int)) g31))) (r_addS (a := (tS "m")) (b := (atD x71_ (1 : Int))) g32)) ?_
      refine am_nil ⟨rfl, ?_⟩
      refine rs_env [some (.cel b0), some (.dat ((qL qS) tops_1_)), n60_, some (.dat ((qP3 (qT (qP3 qS (qT qS) qB)) qI (qT (qP qS (qT qS)))) generic_so_1_)), some (.dat ((qL (qT qS)) due_)), some (.dat ((qT qS) x71_)), n62_, some (.dat ((qDT qS) book_5_)), some (.dat ((qL (qT qS)) closed_6_)), n63_, n64_, n65_, n66_, n67_, some (.dat (qS label_so_)), some (.dat (qS its_)), n70_] rfl ?_
      refine rs_assoc ?_
      obtain ⟨g34, hp⟩ := hp
      refine rs_lt ?_
      intro spot_
      refine rs_set (d := ((qO (qT qS)) spot_)) (if_x (e := (qO (qT qS))) (x := (some [(kAt book_5_ x71_)])) (y := none) (and_t (b := (kHas book_5_ x71_)) (c := (!isIn x71_ closed_6_)) (tb_t (b := (kHas book_5_ x71_)) (bin_x (v_x rfl) (EvX.ed (v_x rfl)) (r_inDT (f := qS) x71_ book_5_))) (fun hc => (tb_t (b := (!isIn x71_ closed_6_)) (bin_x (v_x rfl) (EvX.ed (v_x rfl)) (r_ninL (e := (qT qS)) x71_ closed_6_))))) (fun hc => (tup_x (ac (bin_x (v_x rfl) (EvX.ed (v_x rfl)) (r_ixDT (f := qS) (d := book_5_) (k := x71_) (g34 hc))) an) (Nat.le_of_ble_eq_true rfl))) (fun hc => c_x)) ?_
      refine rs_env [some (.cel b0), some (.dat ((qL qS) tops_1_)), n60_, some (.dat ((qP3 (qT (qP3 qS (qT qS) qB)) qI (qT (qP qS (qT qS)))) generic_so_1_)), some (.dat ((qL (qT qS)) due_)), some (.dat ((qT qS) x71_)), n62_, some (.dat ((qDT qS) book_5_)), some (.dat ((qL (qT qS)) closed_6_)), n63_, some (.dat ((qO (qT qS)) spot_)), n65_, n66_, n67_, some (.dat (qS label_so_)), some (.dat (qS its_)), n70_] rfl ?_
      refine rs_assoc ?_
      obtain ⟨g38, hp⟩ := hp
      refine rs_lt ?_
      intro parts_
      refine rs_set (d := ((qL qS) parts_)) (if_x (e := (qL qS)) (x := [((tS "w") ++ (signAt (kAt book_5_ x71_) (1 : Int)))]) (y := ([] : (List Tx))) (tb_t (b := (isIn x71_ closed_6_)) (bin_x (v_x rfl) (EvX.ed (v_x rfl)) (r_inL (e := (qT qS)) x71_ closed_6_))) (fun hc => (fr_x (lst_n (ac (bin_x c_x (EvX.ed (bin_x (bin_x (v_x rfl) (EvX.ed (v_x rfl)) (r_ixDT (f := qS) (d := book_5_) (k := x71_) (g38 hc).1)) (EvX.ed c_x) (r_ixS (t := (kAt book_5_ x71_)) (i := (1 : Int)) (g38 hc).2.1))) (r_addS (a := (tS "w")) (b := (signAt (kAt book_5_ x71_) (1 : Int))) (g38 hc).2.2)) an) (Nat.le_of_ble_eq_true rfl)))) (fun hc => (fr_x (lst_n an (Nat.le_of_ble_eq_true rfl))))) ?_
      refine rs_env [some (.cel b0), some (.dat ((qL qS) tops_1_)), n60_, some (.dat ((qP3 (qT (qP3 qS (qT qS) qB)) qI (qT (qP qS (qT qS)))) generic_so_1_)), some (.dat ((qL (qT qS)) due_)), some (.dat ((qT qS) x71_)), n62_, some (.dat ((qDT qS) book_5_)), some (.dat ((qL (qT qS)) closed_6_)), n63_, some (.dat ((qO (qT qS)) spot_)), some (.dat ((qL qS) parts_)), n66_, n67_, some (.dat (qS label_so_)), some (.dat (qS its_)), n70_] rfl ?_
      refine rs_assoc ?_
      obtain ⟨g39, hp⟩ := hp
      obtain ⟨g40, hp⟩ := hp
      refine rs_lt ?_
      intro told_
      refine rs_set (d := ((qQ (qO (qT qS)) (qO (qL qS))) told_)) (fr_x (lst_n (ac (call_x (sc_x (d := (qP3 (qT (qP3 qS (qT qS) qB)) qI (qT (qP qS (qT qS)))) generic_so_1_) (v_x rfl) (sc_x (d := qS label_so_) (v_x rfl) (sc_x (d := qS its_) (v_x rfl) sn))) rfl (ok_meet generic_so_1_ label_so_ its_ g39)) (ac (call_x (sc_x (d := (qP3 (qT (qP3 qS (qT qS) qB)) qI (qT (qP qS (qT qS)))) generic_so_1_) (v_x rfl) (sc_x (d := qS its_) (v_x rfl) (sc_x (d := qS label_so_) (v_x rfl) sn))) rfl (ok_cover generic_so_1_ its_ label_so_ g40)) an)) (Nat.le_of_ble_eq_true rfl))) ?_
      refine rs_env [some (.cel b0), some (.dat ((qL qS) tops_1_)), n60_, some (.dat ((qP3 (qT (qP3 qS (qT qS) qB)) qI (qT (qP qS (qT qS)))) generic_so_1_)), some (.dat ((qL (qT qS)) due_)), some (.dat ((qT qS) x71_)), n62_, some (.dat ((qDT qS) book_5_)), some (.dat ((qL (qT qS)) closed_6_)), n63_, some (.dat ((qO (qT qS)) spot_)), some (.dat ((qL qS) parts_)), some (.dat ((qQ (qO (qT qS)) (qO (qL qS))) told_)), n67_, some (.dat (qS label_so_)), some (.dat (qS its_)), n70_] rfl ?_
      refine rs_assoc ?_
      obtain ⟨g41, hp⟩ := hp
      refine rs_ifF (b := (!true)) (not_t (b := true) (tt_t (b := true) (EvX.ed (call_x (sc_x (d := (qQ (qO (qT qS)) (qO (qL qS))) told_) (v_x rfl) (sc_x (d := (qQ (qO (qT qS)) (qO (qL qS))) (spot_, (if spot_.isNone = true then (some parts_) else none))) (fr_x (lst_n (ac (v_x rfl) (ac (if_x (e := (qO (qL qS))) (x := (some parts_)) (y := none) (tb_t (b := spot_.isNone) (bin_x (v_x rfl) (EvX.ed c_x) (r_isN (e := (qT qS)) spot_))) (fun hc => (v_x rfl)) (fun hc => have hn72_ := (nn_of hc); c_x)) an)) (Nat.le_of_ble_eq_true rfl))) sn)) rfl (ok_Lsame (e := (qQ (qO (qT qS)) (qO (qL qS)))) told_ (spot_, (if spot_.isNone = true then (some parts_) else none)) g41))) (t_B _))) rfl ?_
      refine rs_nil ?_
      have g44 := hp
      refine rs_if (b := (spot_.isSome && (!true))) (and_t (b := spot_.isSome) (c := (!true)) (tb_t (b := spot_.isSome) (bin_x (v_x rfl) (EvX.ed c_x) (r_notN (e := (qT qS)) spot_))) (fun hc => have hn73_ := hc; (not_t (b := true) (tt_t (b := true) (EvX.ed (call_x (sc_x (d := (qL qS) (F_nearest generic_so_1_ (spot_.getD default))) (call_x (sc_x (d := (qP3 (qT (qP3 qS (qT qS) qB)) qI (qT (qP qS (qT qS)))) generic_so_1_) (v_x rfl) (sc_x (d := (qT qS) (spot_.getD default)) (opt_x hn73_ (v_x rfl)) sn)) rfl (ok_nearest generic_so_1_ (spot_.getD default) (g44 hc).1)) (sc_x (d := (qL qS) [label_so_, its_]) (fr_x (lst_n (ac (v_x rfl) (ac (v_x rfl) an)) (Nat.le_of_ble_eq_true rfl))) sn)) rfl (ok_Lsame (e := (qL qS)) (F_nearest generic_so_1_ (spot_.getD default)) [label_so_, its_] (g44 hc).2))) (t_B _))))) (fun hc => ?_) (fun hc => ?_)
      ·
        have hn74_ := (and1 hc)
        refine rs_rt ?_
        exact rs_ret c_x cs.exit1
      ·
        refine rs_nil ?_
        exact rs_end ⟨_, _, _, _, _, _, _, _, _, _, _, rfl, cs⟩
    · rintro s75_ ρ C ⟨n60_, n61_, n62_, n63_, n64_, n65_, n66_, n67_, n68_, n69_, n70_, rfl, cs⟩ hp
      exact rs_ret c_x cs.exit1

set_option maxHeartbeats 4000000 in
theorem ok_law {C0 : Store} (script_ : (List Int)) (hp : P_law script_) :
    M_law [.dat (qScr script_)] C0 = some (.dat (qB (F_law script_)), C0) := by
  unfold P_law at hp
  refine def_E (e := qB) (st := (fun _ => C0)) (r := F_law script_) rfl ?_
  unfold F_law
  change RunS (sSeq m_law sNil) [some (.dat (qScr script_)), none, none] C0 _
  unfold m_law
  refine rs_gen (CS.start) ?_
  intro C cs
  refine rs_assoc ?_
  obtain ⟨g1, hp⟩ := hp
  refine rs_lt ?_
  intro cells_here_
  refine rs_set (d := ((qL qI) cells_here_)) (call_x (sc_x (d := qScr script_) (v_x rfl) (sc_x (d := qI (3 : Int)) c_x sn)) rfl (ok_Lcells script_ (3 : Int) g1)) ?_
  refine rs_env [some (.dat (qScr script_)), some (.dat ((qL qI) cells_here_)), none] rfl ?_
  obtain ⟨g2, hp⟩ := hp
  obtain ⟨g5, hp⟩ := hp
  have g6 := hp
  exact rs_ret (b_x (ec1 (EvX.ed (fr_x (lcm_n (e := qI) (e' := qB) (xs := (rng 0 (cells_here_.length : Int))) (w := fun x1_ => (F_Lright (F_Lbox cells_here_ x1_)).1) (rg1_x (j := (cells_here_.length : Int)) (ac (b_x (ec1 (EvX.ed (v_x rfl))) (r_lenL (e := qI) cells_here_)) an) g2) g5 rfl (fun x1_ hx1_ => ⟨[some (.dat (qScr script_)), some (.dat ((qL qI) cells_here_)), some (.dat (qI x1_))], rfl, (callG1_x (ncall_x (sc_x (d := (qL qI) cells_here_) (v_x rfl) (sc_x (d := qI x1_) (v_x rfl) sn)) rfl (ok_Lbox cells_here_ x1_ (g6 x1_ hx1_).1)) (ok_Lright (F_Lbox cells_here_ x1_) (getNew _ _) (g6 x1_ hx1_).2))⟩))))) (r_all ((rng 0 (cells_here_.length : Int)).map fun x1_ => (F_Lright (F_Lbox cells_here_ x1_)).1))) cs.exit0

end DX

/-! MA0: dicts and lists, plainly. -/
namespace DX
open PySem PySem.Spec L2
section
variable {κ β : Type} [DecidableEq κ]
theorem kHas_iff {d : List (κ × β)} {k : κ} : kHas d k = true ↔ k ∈ d.map (·.1) := by
  unfold kHas kGet
  rw [Option.isSome_map, List.find?_isSome]
  simp
theorem kHas_false {d : List (κ × β)} {k : κ} : kHas d k = false ↔ k ∉ d.map (·.1) := by
  rw [← kHas_iff]; simp
theorem kGet_nil {k : κ} : kGet ([] : List (κ × β)) k = none := by unfold kGet; rfl
theorem kGet_put {d : List (κ × β)} {k j : κ} {v : β} : kGet (kPut d k v) j = if j = k then some v else kGet d j := by
  unfold kPut kGet
  by_cases h : (d.any fun p => decide (p.1 = k)) = true
  · rw [if_pos h, List.find?_map]
    have e : ((fun p : κ × β => decide (p.1 = j)) ∘ fun p => if p.1 = k then (p.1, v) else p) = fun p => decide (p.1 = j) := by
      funext p
      show decide ((if p.1 = k then (p.1, v) else p).1 = j) = _
      split <;> rfl
    rw [e, Option.map_map]
    by_cases hj : j = k
    · subst hj
      rw [if_pos rfl]
      cases hf : d.find? fun p => decide (p.1 = j) with
      | none =>
        rw [List.any_eq_true] at h
        obtain ⟨p, hp, q⟩ := h
        exact absurd q (List.find?_eq_none.mp hf p hp)
      | some p =>
        have := List.find?_some hf
        have hp : p.1 = j := of_decide_eq_true this
        show some (if p.1 = j then (p.1, v) else p).2 = _
        rw [if_pos hp]
    · rw [if_neg hj]
      cases hf : d.find? fun p => decide (p.1 = j) with
      | none => rfl
      | some p =>
        have hp : p.1 = j := of_decide_eq_true (List.find?_some (p := fun p : κ × β => decide (p.1 = j)) hf)
        show some (if p.1 = k then (p.1, v) else p).2 = _
        rw [if_neg (by rw [hp]; exact hj)]; rfl
  · rw [if_neg h, List.find?_append]
    by_cases hj : j = k
    · subst hj
      rw [if_pos rfl]
      have hn : d.find? (fun p => decide (p.1 = j)) = none := by
        rw [List.find?_eq_none]
        intro p hp q
        exact h (List.any_eq_true.mpr ⟨p, hp, q⟩)
      rw [hn]
      simp
    · rw [if_neg hj]
      have : ([(k, v)] : List (κ × β)).find? (fun p => decide (p.1 = j)) = none := by
        rw [List.find?_eq_none]; intro p hp q
        rw [List.mem_singleton] at hp
        subst hp
        exact hj (of_decide_eq_true q).symm
      rw [this, Option.or_none]
theorem keys_put {d : List (κ × β)} {k : κ} {v : β} : (kPut d k v).map (·.1) = if k ∈ d.map (·.1) then d.map (·.1) else d.map (·.1) ++ [k] := by
  unfold kPut
  have e : ((d.any fun p => decide (p.1 = k)) = true) ↔ k ∈ d.map (·.1) := by
    rw [List.any_eq_true]; simp
  by_cases h : k ∈ d.map (·.1)
  · rw [if_pos h, if_pos (e.mpr h), List.map_map]
    apply List.map_congr_left
    intro p _
    show (if p.1 = k then (p.1, v) else p).1 = p.1
    split <;> rfl
  · rw [if_neg h, if_neg (fun z => h (e.mp z)), List.map_append]; rfl
theorem mem_put {d : List (κ × β)} {k j : κ} {v : β} : j ∈ (kPut d k v).map (·.1) ↔ j = k ∨ j ∈ d.map (·.1) := by
  rw [keys_put]
  by_cases h : k ∈ d.map (·.1)
  · rw [if_pos h]
    constructor
    · exact .inr
    · rintro (rfl | z)
      · exact h
      · exact z
  · rw [if_neg h, List.mem_append, List.mem_singleton]
    exact or_comm
theorem nodup_put {d : List (κ × β)} {k : κ} {v : β} (h : (d.map (·.1)).Nodup) : ((kPut d k v).map (·.1)).Nodup := by
  rw [keys_put]
  by_cases z : k ∈ d.map (·.1)
  · rw [if_pos z]; exact h
  · rw [if_neg z, List.nodup_append]
    refine ⟨h, by simp, fun a ha b hb e => ?_⟩
    rw [List.mem_singleton] at hb
    rw [e, hb] at ha; exact z ha
theorem merge_cons {d : List (κ × β)} {p : κ × β} {e : List (κ × β)} : kMerge d (p :: e) = kMerge (kPut d p.1 p.2) e := by unfold kMerge; rfl
theorem merge_nil {d : List (κ × β)} : kMerge d [] = d := by unfold kMerge; rfl
theorem mem_merge : ∀ {e d : List (κ × β)} {j : κ}, j ∈ (kMerge d e).map (·.1) ↔ j ∈ d.map (·.1) ∨ j ∈ e.map (·.1)
  | [], d, j => by rw [merge_nil]; simp
  | p :: e, d, j => by
    rw [merge_cons, mem_merge, mem_put, List.map_cons, List.mem_cons]
    constructor
    · rintro ((h | h) | h)
      · exact .inr (.inl h)
      · exact .inl h
      · exact .inr (.inr h)
    · rintro (h | h | h)
      · exact .inl (.inr h)
      · exact .inl (.inl h)
      · exact .inr h
theorem nodup_merge : ∀ {e d : List (κ × β)}, (d.map (·.1)).Nodup → ((kMerge d e).map (·.1)).Nodup
  | [], d, h => by rw [merge_nil]; exact h
  | p :: e, d, h => by rw [merge_cons]; exact nodup_merge (nodup_put h)
theorem kAt_put [Inhabited β] {d : List (κ × β)} {k j : κ} {v : β} : kAt (kPut d k v) j = if j = k then v else kAt d j := by
  unfold kAt
  rw [kGet_put]
  split <;> rfl
/-- of a dict's pairs, each with its own key -/
theorem kAt_mem [Inhabited β] {d : List (κ × β)} (hd : (d.map (·.1)).Nodup) {p : κ × β} (hp : p ∈ d) : kAt d p.1 = p.2 := by
  unfold kAt kGet
  have : d.find? (fun q => decide (q.1 = p.1)) = some p := by
    induction d with
    | nil => cases hp
    | cons q r ih =>
      rw [List.map_cons, List.nodup_cons] at hd
      rw [List.find?_cons]
      rcases List.mem_cons.mp hp with rfl | h
      · simp
      · have hne : q.1 ≠ p.1 := fun z => hd.1 (by rw [z]; exact List.mem_map.mpr ⟨p, h, rfl⟩)
        rw [decide_eq_false hne]
        exact ih hd.2 h
  rw [this]; rfl
end
/-- nothing twice, all among a few: as many at most -/
theorem nodup_le {α : Type} [DecidableEq α] : ∀ {xs ys : List α}, xs.Nodup → (∀ x ∈ xs, x ∈ ys) → xs.length ≤ ys.length
  | [], _, _, _ => Nat.zero_le _
  | x :: xs, ys, h, s => by
    rw [List.nodup_cons] at h
    have hx := s x (List.mem_cons_self ..)
    have := nodup_le (xs := xs) (ys := ys.erase x) h.2 fun y hy => by
      have hne : y ≠ x := fun z => h.1 (z ▸ hy)
      exact (List.mem_erase_of_ne hne).mpr (s y (List.mem_cons_of_mem _ hy))
    rw [List.length_erase_of_mem hx] at this
    have : 0 < ys.length := List.length_pos_of_mem hx
    rw [List.length_cons]; omega
theorem perm_msort {α : Type} (le : α → α → Bool) (n : Nat) (xs : List α) (h : xs.length ≤ n) : (msort le n xs).Perm xs := by
  rw [msort_eq le n xs h]; exact List.mergeSort_perm xs le
theorem perm_sortT (xs : List Tx) : (sortT xs).Perm xs := perm_msort _ _ _ (Nat.le_refl _)
theorem perm_sortE {α : Type} (e : α → D) (xs : List α) : (sortE e xs).Perm xs := perm_msort _ _ _ (Nat.le_refl _)
theorem mem_sortT {xs : List Tx} {x : Tx} : x ∈ sortT xs ↔ x ∈ xs := (perm_sortT xs).mem_iff
theorem mem_sortE {α : Type} {e : α → D} {xs : List α} {x : α} : x ∈ sortE e xs ↔ x ∈ xs := (perm_sortE e xs).mem_iff
theorem len_sortT (xs : List Tx) : (sortT xs).length = xs.length := (perm_sortT xs).length_eq
theorem len_sortE {α : Type} (e : α → D) (xs : List α) : (sortE e xs).length = xs.length := (perm_sortE e xs).length_eq
theorem atI_nat {α : Type} (xs : List α) (i : Nat) : atI xs (i : Int) = xs[i]? := by
  unfold atI ixN
  by_cases h : i < xs.length
  · have h1 : (0 : Int) ≤ i := by omega
    simp [h, h1]
  · have h2 : ¬ ((i : Int) < xs.length) := by omega
    have h3 : ¬ ((i : Int) < 0) := by omega
    simp [h, h2, h3]
theorem atD_nat {α : Type} [Inhabited α] (xs : List α) (i : Nat) : atD xs (i : Int) = (xs[i]?).getD default := by
  unfold atD; rw [atI_nat]
theorem big_line {n : Nat} (h : n ≤ 16777216) : n ≤ sizeLine := h
end DX
namespace DX
open PySem PySem.Spec L2
instance lpP_dec {α σ ρ : Type} {f : σ → α → Sp σ ρ} {p : σ → α → Prop} [h : ∀ s x, Decidable (p s x)] : ∀ (xs : List α) (s : σ), Decidable (lpP xs s f p)
  | [], _ => Decidable.isTrue trivial
  | x :: xs, s => match h s x with
    | Decidable.isFalse n => Decidable.isFalse fun z => n z.1
    | Decidable.isTrue y => match hf : f s x with
      | .nx s' => match (lpP_dec xs s' : Decidable (lpP xs s' f p)) with
        | Decidable.isTrue z => Decidable.isTrue ⟨y, by rw [hf]; exact z⟩
        | Decidable.isFalse z => Decidable.isFalse fun w => z (by have := w.2; rw [hf] at this; exact this)
      | .rt r => Decidable.isTrue ⟨y, by rw [hf]; trivial⟩
      | .bk s' => Decidable.isTrue ⟨y, by rw [hf]; trivial⟩
instance smI_dec {i : Int} : Decidable (smI i) := inferInstance
/-! ### small things, for _law_same and _law_lists -/
theorem sz_S (n : Nat) (t : Tx) : szD n (qS t) = true := by cases n <;> rfl
theorem sz_I (n : Nat) (t : Int) : szD n (qI t) = true := by cases n <;> rfl
theorem sz_B (n : Nat) (t : Bool) : szD n (qB t) = true := by cases n <;> rfl
theorem sz_N (n : Nat) : szD n .non = true := by cases n <;> rfl
theorem sz_lst {n : Nat} {ds : List D} (hl : ds.length ≤ 1000) (h : ∀ d ∈ ds, szD n d = true) : szD (n + 1) (.lst ds) = true := by
  have e : szD (n + 1) (.lst ds) = (decide (ds.length ≤ 1000) && szDs n ds) := by first | rfl | simp [szD]
  rw [e, decide_eq_true hl, szDs_all.mpr h]; rfl
theorem sz_tup {n : Nat} {ds : List D} (hl : ds.length ≤ 1000) (h : ∀ d ∈ ds, szD n d = true) : szD (n + 1) (.tup ds) = true := by
  have e : szD (n + 1) (.tup ds) = (decide (ds.length ≤ 1000) && szDs n ds) := by first | rfl | simp [szD]
  rw [e, decide_eq_true hl, szDs_all.mpr h]; rfl
theorem sz_L {α : Type} {e : α → D} {n : Nat} {xs : List α} (hl : xs.length ≤ 1000) (h : ∀ x ∈ xs, szD n (e x) = true) : szD (n + 1) (qL e xs) = true :=
  sz_lst (by rw [List.length_map]; exact hl) fun d hd => by obtain ⟨x, hx, rfl⟩ := List.mem_map.mp hd; exact h x hx
theorem sz_T {α : Type} {e : α → D} {n : Nat} {xs : List α} (hl : xs.length ≤ 1000) (h : ∀ x ∈ xs, szD n (e x) = true) : szD (n + 1) (qT e xs) = true :=
  sz_tup (by rw [List.length_map]; exact hl) fun d hd => by obtain ⟨x, hx, rfl⟩ := List.mem_map.mp hd; exact h x hx
theorem sz_O {α : Type} {e : α → D} {n : Nat} {x : Option α} (h : ∀ y, x = some y → szD n (e y) = true) : szD n (qO e x) = true := by
  cases x with
  | none => exact sz_N n
  | some y => exact h y rfl
theorem sz_Q {α β : Type} {e : α → D} {f : β → D} {n : Nat} {p : α × β} (h1 : szD n (e p.1) = true) (h2 : szD n (f p.2) = true) : szD (n + 1) (qQ e f p) = true :=
  sz_lst (by simp) fun d hd => by
    rcases List.mem_cons.mp hd with rfl | hd
    · exact h1
    · rcases List.mem_cons.mp hd with rfl | hd
      · exact h2
      · cases hd
theorem sz_P {α β : Type} {e : α → D} {f : β → D} {n : Nat} {p : α × β} (h1 : szD n (e p.1) = true) (h2 : szD n (f p.2) = true) : szD (n + 1) (qP e f p) = true :=
  sz_tup (by simp) fun d hd => by
    rcases List.mem_cons.mp hd with rfl | hd
    · exact h1
    · rcases List.mem_cons.mp hd with rfl | hd
      · exact h2
      · cases hd
theorem thP_of {α σ ρ : Type} {xs : List α} {s : σ} {f : σ → α → Sp σ ρ} {k : σ → Prop} {s' : σ} (h : lp xs s f = .nx s') (hk : k s') : thP (lp xs s f) k := by rw [h]; exact hk
theorem th_of {α σ ρ : Type} {xs : List α} {s : σ} {f : σ → α → Sp σ ρ} {k : σ → ρ} {s' : σ} (h : lp xs s f = .nx s') : th (lp xs s f) k = k s' := by rw [h]; rfl
end DX

/-! MA1: kinds, and what is above what. -/
namespace DX
open PySem PySem.Spec L2
abbrev Kds := List (Tx × List Tx × Bool)
abbrev Abv := List (Tx × List (Tx × Bool))
abbrev Gen := Kds × Int × List (Tx × List Tx)
abbrev nms (ks : Kds) : List Tx := ks.map (·.1)
structure KOk (ks : Kds) : Prop where
  nd : (nms ks).Nodup
  up : ∀ pre r post, ks = pre ++ r :: post → ∀ s ∈ r.2.1, s ∈ nms pre
  len : ks.length ≤ 60
inductive Bel (ks : Kds) : Tx → Tx → Prop
  | refl {a : Tx} : a ∈ nms ks → Bel ks a a
  | step {r : Tx × List Tx × Bool} {b c : Tx} : r ∈ ks → b ∈ r.2.1 → Bel ks b c → Bel ks r.1 c
theorem KOk.pre {pre post : Kds} (h : KOk (pre ++ post)) : KOk pre where
  nd := by
    have := h.nd
    rw [show nms (pre ++ post) = nms pre ++ nms post from List.map_append] at this
    exact (List.nodup_append.mp this).1
  up := fun p r q e s hs => h.up p r (q ++ post) (by rw [e]; simp) s hs
  len := by have := h.len; rw [List.length_append] at this; omega
theorem KOk.sup {ks : Kds} (h : KOk ks) {r : Tx × List Tx × Bool} (hr : r ∈ ks) {s : Tx} (hs : s ∈ r.2.1) : s ∈ nms ks := by
  obtain ⟨p, q, e⟩ := List.append_of_mem hr
  have := h.up p r q e s hs
  rw [e]
  show s ∈ List.map _ (p ++ r :: q)
  rw [List.map_append]
  exact List.mem_append_left _ this
theorem KOk.last {pre : Kds} {r : Tx × List Tx × Bool} (h : KOk (pre ++ [r])) : r.1 ∉ nms pre ∧ ∀ s ∈ r.2.1, s ∈ nms pre := by
  refine ⟨fun z => ?_, h.up pre r [] rfl⟩
  have := h.nd
  rw [show nms (pre ++ [r]) = nms pre ++ [r.1] from by simp [nms]] at this
  exact (List.nodup_append.mp this).2.2 _ z r.1 (List.mem_singleton.mpr rfl) rfl
theorem Bel.left {ks : Kds} {a b : Tx} (h : Bel ks a b) : a ∈ nms ks := by
  cases h with
  | refl h => exact h
  | step hr _ _ => exact List.mem_map.mpr ⟨_, hr, rfl⟩
theorem Bel.right {ks : Kds} {a b : Tx} (h : Bel ks a b) : b ∈ nms ks := by
  induction h with
  | refl h => exact h
  | step _ _ _ ih => exact ih
theorem Bel.mono {pre post : Kds} {a b : Tx} (h : Bel pre a b) : Bel (pre ++ post) a b := by
  induction h with
  | refl h =>
    refine .refl ?_
    show _ ∈ List.map _ (pre ++ post)
    rw [List.map_append]; exact List.mem_append_left _ h
  | step hr hb _ ih => exact .step (List.mem_append_left _ hr) hb ih
theorem Bel.trans {ks : Kds} {a b c : Tx} (h : Bel ks a b) (k : Bel ks b c) : Bel ks a c := by
  induction h with
  | refl _ => exact k
  | step hr hb _ ih => exact .step hr hb (ih k)
theorem bel_pre {pre : Kds} {r : Tx × List Tx × Bool} (h : KOk (pre ++ [r])) {a b : Tx} (ha : a ∈ nms pre) : Bel (pre ++ [r]) a b ↔ Bel pre a b := by
  constructor
  · intro k
    induction k with
    | refl _ => exact .refl ha
    | @step r' b c hr hb _ ih =>
      rcases List.mem_append.mp hr with q | q
      · exact .step q hb (ih (h.pre.sup q hb))
      · rw [List.mem_singleton] at q
        subst q
        exact absurd ha h.last.1
  · exact Bel.mono
theorem bel_last {pre : Kds} {r : Tx × List Tx × Bool} (h : KOk (pre ++ [r])) {b : Tx} : Bel (pre ++ [r]) r.1 b ↔ b = r.1 ∨ ∃ s ∈ r.2.1, Bel pre s b := by
  have hm : r ∈ pre ++ [r] := List.mem_append_right _ (List.mem_singleton.mpr rfl)
  constructor
  · intro k
    generalize ha : r.1 = a at k
    cases k with
    | refl _ => exact .inl rfl
    | @step r' b' c hr hb k' =>
      rcases List.mem_append.mp hr with q | q
      · exact absurd (by rw [ha]; exact List.mem_map.mpr ⟨r', q, rfl⟩) h.last.1
      · rw [List.mem_singleton] at q
        subst q
        exact .inr ⟨b', hb, (bel_pre h (h.last.2 b' hb)).mp k'⟩
  · rintro (rfl | ⟨s, hs, k⟩)
    · exact .refl (List.mem_map.mpr ⟨r, hm, rfl⟩)
    · exact .step hm hs k.mono
/-! ### the program's way -/
def upMine (A : Abv) (r : Tx × List Tx × Bool) : List (Tx × Bool) := r.2.1.foldl (fun m s => kMerge m (kAt A s)) [(r.1, true)]
def upRow (A : Abv) (r : Tx × List Tx × Bool) : Abv := kPut A r.1 (upMine A r)
theorem uppers_eq (ks : Kds) : F_uppers ks = ks.foldl upRow [] := by
  unfold F_uppers
  simp only [lp_nx, th_nx]
  rfl
structure UInv (pre : Kds) (A : Abv) : Prop where
  keys : A.map (·.1) = nms pre
  nd : ∀ a ∈ nms pre, ((kAt A a).map (·.1)).Nodup
  bel : ∀ a ∈ nms pre, ∀ b, b ∈ (kAt A a).map (·.1) ↔ Bel pre a b
theorem mem_mine (A : Abv) : ∀ (sup : List Tx) (m : List (Tx × Bool)) (j : Tx), j ∈ (sup.foldl (fun m s => kMerge m (kAt A s)) m).map (·.1) ↔ j ∈ m.map (·.1) ∨ ∃ s ∈ sup, j ∈ (kAt A s).map (·.1)
  | [], m, j => by simp
  | s :: sup, m, j => by
    rw [List.foldl_cons, mem_mine A sup, mem_merge]
    constructor
    · rintro ((h | h) | ⟨t, ht, h⟩)
      · exact .inl h
      · exact .inr ⟨s, List.mem_cons_self .., h⟩
      · exact .inr ⟨t, List.mem_cons_of_mem _ ht, h⟩
    · rintro (h | ⟨t, ht, h⟩)
      · exact .inl (.inl h)
      · rcases List.mem_cons.mp ht with rfl | ht
        · exact .inl (.inr h)
        · exact .inr ⟨t, ht, h⟩
theorem nodup_mine (A : Abv) : ∀ (sup : List Tx) (m : List (Tx × Bool)), (m.map (·.1)).Nodup → ((sup.foldl (fun m s => kMerge m (kAt A s)) m).map (·.1)).Nodup
  | [], m, h => h
  | s :: sup, m, h => nodup_mine A sup _ (nodup_merge h)
theorem uinv_row {pre : Kds} {A : Abv} {r : Tx × List Tx × Bool} (h : KOk (pre ++ [r])) (u : UInv pre A) : UInv (pre ++ [r]) (upRow A r) := by
  have hn : nms (pre ++ [r]) = nms pre ++ [r.1] := by simp [nms]
  refine ⟨?_, fun a ha => ?_, fun a ha b => ?_⟩
  · unfold upRow
    rw [keys_put, u.keys, if_neg h.last.1, hn]
  · unfold upRow
    rw [kAt_put]
    by_cases e : a = r.1
    · rw [if_pos e]; exact nodup_mine A _ _ (by simp)
    · rw [if_neg e]
      refine u.nd a ?_
      rw [hn, List.mem_append, List.mem_singleton] at ha
      exact ha.resolve_right e
  · unfold upRow
    rw [kAt_put]
    by_cases e : a = r.1
    · subst e
      rw [if_pos rfl, bel_last h]
      unfold upMine
      rw [mem_mine]
      have q : b ∈ ([(r.1, true)] : List (Tx × Bool)).map (·.1) ↔ b = r.1 := by simp
      rw [q]
      constructor
      · rintro (z | ⟨s, hs, z⟩)
        · exact .inl z
        · exact .inr ⟨s, hs, (u.bel s (h.last.2 s hs) b).mp z⟩
      · rintro (z | ⟨s, hs, z⟩)
        · exact .inl z
        · exact .inr ⟨s, hs, (u.bel s (h.last.2 s hs) b).mpr z⟩
    · have ha' : a ∈ nms pre := by
        rw [hn, List.mem_append, List.mem_singleton] at ha
        exact ha.resolve_right e
      rw [if_neg e, u.bel a ha' b, bel_pre h ha']
theorem uinv_all : ∀ (post pre : Kds) (A : Abv), KOk (pre ++ post) → UInv pre A → UInv (pre ++ post) (post.foldl upRow A)
  | [], pre, A, _, u => by rw [List.append_nil]; exact u
  | r :: post, pre, A, h, u => by
    have e : pre ++ r :: post = (pre ++ [r]) ++ post := by simp
    rw [e] at h ⊢
    exact uinv_all post (pre ++ [r]) (upRow A r) h (uinv_row h.pre u)
theorem uinv {ks : Kds} (h : KOk ks) : UInv ks (F_uppers ks) := by
  rw [uppers_eq]
  exact uinv_all ks [] [] h ⟨rfl, fun a ha => by simp at ha, fun a ha => by simp at ha⟩
theorem UInv.small {pre : Kds} {A : Abv} (u : UInv pre A) {a : Tx} (ha : a ∈ nms pre) : (kAt A a).length ≤ pre.length := by
  have := nodup_le (ys := nms pre) (u.nd a ha) fun b hb => ((u.bel a ha b).mp hb).right
  simpa using this
theorem pup_all {f : Abv → Tx × List Tx × Bool → Sp Abv Abv} {p : Abv → Tx × List Tx × Bool → Prop} (hf : ∀ A r, f A r = .nx (upRow A r)) (hp : ∀ pre r A, KOk (pre ++ [r]) → UInv pre A → p A r) : ∀ (post pre : Kds) (A : Abv), KOk (pre ++ post) → UInv pre A → lpP post A f p
  | [], _, _, _, _ => trivial
  | r :: post, pre, A, h, u => by
    have e : pre ++ r :: post = (pre ++ [r]) ++ post := by simp
    rw [e] at h
    refine ⟨hp pre r A h.pre u, ?_⟩
    rw [hf]
    exact pup_all hf hp post (pre ++ [r]) (upRow A r) h (uinv_row h.pre u)
theorem p_uppers {ks : Kds} (h : KOk ks) : P_uppers ks := by
  unfold P_uppers
  refine pup_all (fun A r => ?_) (fun pre r A h u => ?_) ks [] [] h ⟨rfl, fun a ha => by simp at ha, fun a ha => by simp at ha⟩
  · simp only [lp_nx, th_nx]; rfl
  · have hA : A.length = pre.length := by simpa using congrArg List.length u.keys
    have hl := h.len
    rw [List.length_append, List.length_singleton] at hl
    refine ⟨lpP_ind (I := fun m => (m.map (·.1)).Nodup ∧ ∀ j ∈ m.map (·.1), j ∈ nms (pre ++ [r])) ⟨by simp, by simp [nms]⟩ (fun m s hs I => ⟨⟨?_, ?_⟩, fun m' e => ?_⟩), ?_⟩
    · exact kHas_iff.mpr (by rw [u.keys]; exact h.last.2 s hs)
    · have h1 := nodup_le I.1 I.2
      have h2 := u.small (h.last.2 s hs)
      simp only [List.length_map, List.length_append, List.length_singleton] at h1
      exact big_line (by omega)
    · cases e
      refine ⟨nodup_merge I.1, fun j hj => ?_⟩
      rcases mem_merge.mp hj with z | z
      · exact I.2 j z
      · have := ((u.bel s (h.last.2 s hs) j).mp z).right
        show j ∈ List.map _ (pre ++ [r])
        rw [List.map_append]; exact List.mem_append_left _ this
    · simp only [lp_nx, th_nx, thP_nx]
      exact big_line (by omega)
end DX

/-! MA2: what the table's functions want, of a good generic. -/
namespace DX
open PySem PySem.Spec L2
theorem lpP_fold {α σ ρ : Type} {f : σ → α → Sp σ ρ} {g : σ → α → σ} {p : σ → α → Prop} (hf : ∀ s x, f s x = .nx (g s x)) : ∀ (xs : List α) (s : σ), (∀ pre x post, xs = pre ++ x :: post → p (pre.foldl g s) x) → lpP xs s f p
  | [], _, _ => trivial
  | x :: xs, s, h => by
    refine ⟨h [] x xs rfl, ?_⟩
    rw [hf]
    exact lpP_fold hf xs (g s x) fun pre y post e => h (x :: pre) y post (by rw [e]; rfl)
theorem filter_tt {α : Type} (xs : List α) : xs.filter (fun _ => true) = xs := by simp
/-! ### every choice -/
abbrev chStep (rows : List (List Tx)) (col : List Tx) : List (List Tx) := rows.flatMap fun r => col.map fun x => r ++ [x]
theorem choice_eq (cols : List (List Tx)) : F_every_choice cols = cols.foldl chStep [[]] := by
  unfold F_every_choice
  simp only [filter_tt, lp_nx, th_nx]
  try rfl
def Pick : List Tx → List (List Tx) → Prop
  | [], [] => True
  | x :: xs, c :: cs => x ∈ c ∧ Pick xs cs
  | _, _ => False
theorem mem_chStep {rows : List (List Tx)} {col s : List Tx} : s ∈ chStep rows col ↔ ∃ r ∈ rows, ∃ x ∈ col, s = r ++ [x] := by
  unfold chStep
  rw [List.mem_flatMap]
  constructor
  · rintro ⟨r, hr, h⟩
    obtain ⟨x, hx, e⟩ := List.mem_map.mp h
    exact ⟨r, hr, x, hx, e.symm⟩
  · rintro ⟨r, hr, x, hx, e⟩
    exact ⟨r, hr, List.mem_map.mpr ⟨x, hx, e.symm⟩⟩
theorem mem_chFold : ∀ (cols : List (List Tx)) (rows : List (List Tx)) (s : List Tx), s ∈ cols.foldl chStep rows ↔ ∃ r ∈ rows, ∃ t, Pick t cols ∧ s = r ++ t
  | [], rows, s => by
    constructor
    · intro h; exact ⟨s, h, [], trivial, by simp⟩
    · rintro ⟨r, hr, t, ht, rfl⟩
      cases t with
      | nil => simpa using hr
      | cons _ _ => exact ht.elim
  | c :: cols, rows, s => by
    rw [List.foldl_cons, mem_chFold cols]
    constructor
    · rintro ⟨r, hr, t, ht, rfl⟩
      obtain ⟨r', hr', x, hx, rfl⟩ := mem_chStep.mp hr
      exact ⟨r', hr', x :: t, ⟨hx, ht⟩, by simp⟩
    · rintro ⟨r, hr, t, ht, rfl⟩
      cases t with
      | nil => exact ht.elim
      | cons x t => exact ⟨r ++ [x], mem_chStep.mpr ⟨r, hr, x, ht.1, rfl⟩, t, ht.2, by simp⟩
theorem mem_choice {cols : List (List Tx)} {s : List Tx} : s ∈ F_every_choice cols ↔ Pick s cols := by
  rw [choice_eq, mem_chFold]
  constructor
  · rintro ⟨r, hr, t, ht, rfl⟩
    rw [List.mem_singleton] at hr
    subst hr
    exact ht
  · intro h; exact ⟨[], List.mem_singleton.mpr rfl, s, h, rfl⟩
theorem len_chStep (rows : List (List Tx)) (col : List Tx) : (chStep rows col).length = rows.length * col.length := by
  unfold chStep
  induction rows with
  | nil => simp
  | cons r rows ih => rw [List.flatMap_cons, List.length_append, ih, List.length_map, List.length_cons]; rw [Nat.add_mul]; omega
theorem len_chFold {N : Nat} : ∀ (cols : List (List Tx)) (rows : List (List Tx)), (∀ c ∈ cols, c.length ≤ N) → (cols.foldl chStep rows).length ≤ rows.length * N ^ cols.length
  | [], rows, _ => by simp
  | c :: cols, rows, h => by
    rw [List.foldl_cons]
    refine Nat.le_trans (len_chFold cols _ fun d hd => h d (List.mem_cons_of_mem _ hd)) ?_
    rw [len_chStep, List.length_cons, Nat.pow_succ, Nat.mul_assoc]
    refine Nat.mul_le_mul_left _ ?_
    rw [Nat.mul_comm]
    exact Nat.mul_le_mul_left _ (h c (List.mem_cons_self ..))
theorem Pick.len : ∀ {s : List Tx} {cols : List (List Tx)}, Pick s cols → s.length = cols.length
  | [], [], _ => rfl
  | _ :: _, _ :: _, h => by rw [List.length_cons, List.length_cons, Pick.len h.2]
  | [], _ :: _, h => h.elim
  | _ :: _, [], h => h.elim
theorem len_choice {N : Nat} {cols : List (List Tx)} (h : ∀ c ∈ cols, c.length ≤ N) : (F_every_choice cols).length ≤ N ^ cols.length := by
  rw [choice_eq]
  have := len_chFold cols [[]] h
  simpa using this
theorem p_choice {N : Nat} {cols : List (List Tx)} (hc : ∀ c ∈ cols, c.length ≤ N) (h1 : 1 ≤ N) (hN : N ^ cols.length ≤ 16777216) (hl : cols.length ≤ 1000) : P_every_choice cols := by
  unfold P_every_choice
  refine lpP_fold (g := chStep) (fun s x => by simp only [filter_tt]) cols _ fun pre c post e => ?_
  have hpre : ∀ d ∈ pre, d.length ≤ N := fun d hd => hc d (by rw [e]; exact List.mem_append_left _ hd)
  have hlen : pre.length + 1 ≤ cols.length := by rw [e, List.length_append, List.length_cons]; omega
  refine ⟨fun r hr x _ => ?_, ?_⟩
  · obtain ⟨r0, h0, t, ht, rfl⟩ := (mem_chFold pre [[]] r).mp hr
    rw [List.mem_singleton] at h0
    subst h0
    rw [List.nil_append, ht.len]
    exact big_line (by rw [List.length_singleton]; omega)
  · simp only [filter_tt]
    have a := len_chStep (pre.foldl chStep [[]]) c
    have b := len_chFold pre [[]] hpre
    have hcn := hc c (by rw [e]; exact List.mem_append_right _ (List.mem_cons_self ..))
    rw [List.length_singleton, Nat.one_mul] at b
    have d : (pre.foldl chStep [[]]).length * c.length ≤ N ^ pre.length * N := Nat.mul_le_mul b hcn
    rw [← Nat.pow_succ] at d
    have f : N ^ (pre.length + 1) ≤ N ^ cols.length := Nat.pow_le_pow_right h1 hlen
    exact big_line (Nat.le_trans (Nat.le_trans (Nat.le_of_eq a) d) (Nat.le_trans f hN))
/-! ### a good generic -/
structure GOk (g : Gen) : Prop where
  ks : KOk g.1
  lo : 1 ≤ g.2.1
  hi : g.2.1 ≤ 3
  lb : (g.2.2.map (·.1)).Nodup
  sh : ∀ m ∈ g.2.2, (m.2.length : Int) = g.2.1 ∧ ∀ x ∈ m.2, x ∈ nms g.1
  ml : g.2.2.length ≤ 60
/-- a call of it -/
def COk (g : Gen) (c : List Tx) : Prop := (c.length : Int) = g.2.1 ∧ ∀ x ∈ c, x ∈ nms g.1
theorem flat_rep {α : Type} (n : Nat) (a : α) : (List.replicate n [a]).flatten = List.replicate n a := by
  induction n with
  | zero => rfl
  | succ n ih => rw [List.replicate_succ, List.flatten_cons, ih]; rfl
theorem pick_rep : ∀ (n : Nat) (s c : List Tx), Pick s (List.replicate n c) ↔ s.length = n ∧ ∀ x ∈ s, x ∈ c
  | 0, [], c => by simp [Pick]
  | 0, _ :: _, c => by simp [Pick]
  | n + 1, [], c => by simp [Pick, List.replicate_succ]
  | n + 1, x :: s, c => by
    rw [List.replicate_succ]
    show x ∈ c ∧ Pick s (List.replicate n c) ↔ _
    rw [pick_rep n s c]
    simp only [List.length_cons, Nat.add_right_cancel_iff, List.mem_cons, forall_eq_or_imp]
    constructor
    · rintro ⟨a, b, d⟩; exact ⟨b, a, d⟩
    · rintro ⟨b, a, d⟩; exact ⟨a, b, d⟩
section
variable {g : Gen}
theorem mem_shapes (h : GOk g) {s : List Tx} : s ∈ F_shapes g ↔ COk g s := by
  unfold F_shapes
  show s ∈ F_every_choice (List.replicate g.2.1.toNat [sortT (nms g.1)]).flatten ↔ _
  rw [mem_choice, flat_rep, pick_rep]
  unfold COk
  have := h.lo
  simp only [mem_sortT]
  constructor
  · rintro ⟨a, b⟩; exact ⟨by omega, b⟩
  · rintro ⟨a, b⟩; exact ⟨by omega, b⟩
theorem cols_rep {n : Nat} {c : List Tx} {N : Nat} (h : c.length ≤ N) : ∀ d ∈ List.replicate n c, d.length ≤ N := fun d hd => by rw [(List.mem_replicate.mp hd).2]; exact h
theorem pow3 {n : Nat} (h : n ≤ 3) : 60 ^ n ≤ 16777216 := Nat.le_trans (Nat.pow_le_pow_right (by omega) h) (by decide)
theorem GOk.n3 (h : GOk g) : g.2.1.toNat ≤ 3 := by have := h.hi; omega
theorem GOk.names (h : GOk g) : (sortT (nms g.1)).length ≤ 60 := by rw [len_sortT, List.length_map]; exact h.ks.len
theorem len_shapes (h : GOk g) : (F_shapes g).length ≤ 16777216 := by
  unfold F_shapes
  show (F_every_choice (List.replicate g.2.1.toNat [sortT (nms g.1)]).flatten).length ≤ _
  rw [flat_rep]
  refine Nat.le_trans (len_choice (N := 60) (cols_rep h.names)) ?_
  rw [List.length_replicate]; exact pow3 h.n3
theorem p_shapes (h : GOk g) : P_shapes g := by
  unfold P_shapes
  have h1 := h.ks.len
  have h2 := h.lo
  have h3 := h.hi
  refine ⟨big_line (by omega), by rw [List.length_map]; omega, ⟨by omega, by omega, ?_⟩, ?_⟩
  · rw [List.length_singleton, Nat.one_mul]; exact big_line (by omega)
  · show P_every_choice (List.replicate g.2.1.toNat [sortT (nms g.1)]).flatten
    rw [flat_rep]
    exact p_choice (N := 60) (cols_rep h.names) (by omega) (by rw [List.length_replicate]; exact pow3 h.n3) (by rw [List.length_replicate]; have := h.n3; omega)
/-! ### the table -/
abbrev Tb3 := Kds × Abv × List (Tx × List Tx)
abbrev Tb := Kds × Abv × List (Tx × List Tx) × List (Tx × List Tx)
abbrev tb3 (g : Gen) : Tb3 := (g.1, F_uppers g.1, g.2.2)
theorem table_eq (g : Gen) : F_Table___init__ g = (g.1, F_uppers g.1, g.2.2, g.2.2.foldl (fun acc m => kPut acc m.1 (F_Table__nearer_than (tb3 g) m.2)) []) := by
  unfold F_Table___init__
  have e : g.2.2.map (fun x : Tx × List Tx => (x.1, x.2)) = g.2.2 := by
    have : (fun x : Tx × List Tx => (x.1, x.2)) = id := rfl
    rw [this, List.map_id]
  show (g.1, F_uppers g.1, g.2.2.map (fun x : Tx × List Tx => (x.1, x.2)), (g.2.2.map (fun x : Tx × List Tx => (x.1, x.2))).foldl (fun acc x2_ => kPut acc x2_.1 (F_Table__nearer_than (g.1, F_uppers g.1, g.2.2.map (fun x : Tx × List Tx => (x.1, x.2))) x2_.2)) []) = _
  rw [e]
theorem mem_foldput {α β : Type} {k : α → Tx} {v : α → β} : ∀ (xs : List α) (d : List (Tx × β)) (j : Tx), j ∈ (xs.foldl (fun acc x => kPut acc (k x) (v x)) d).map (·.1) ↔ j ∈ d.map (·.1) ∨ ∃ x ∈ xs, k x = j
  | [], d, j => by simp
  | x :: xs, d, j => by
    rw [List.foldl_cons, mem_foldput xs, mem_put]
    constructor
    · rintro ((h | h) | ⟨y, hy, h⟩)
      · exact .inr ⟨x, List.mem_cons_self .., h.symm⟩
      · exact .inl h
      · exact .inr ⟨y, List.mem_cons_of_mem _ hy, h⟩
    · rintro (h | ⟨y, hy, h⟩)
      · exact .inl (.inr h)
      · rcases List.mem_cons.mp hy with rfl | hy
        · exact .inl (.inl h.symm)
        · exact .inr ⟨y, hy, h⟩
theorem at_foldput {α β : Type} [Inhabited β] {k : α → Tx} {v : α → β} : ∀ (xs : List α) (d : List (Tx × β)), (xs.map k).Nodup → (∀ x ∈ xs, kAt (xs.foldl (fun acc x => kPut acc (k x) (v x)) d) (k x) = v x) ∧ ∀ j, (∀ x ∈ xs, k x ≠ j) → kAt (xs.foldl (fun acc x => kPut acc (k x) (v x)) d) j = kAt d j
  | [], d, _ => ⟨fun x hx => by simp at hx, fun j _ => rfl⟩
  | y :: xs, d, h => by
    rw [List.map_cons, List.nodup_cons] at h
    obtain ⟨a, b⟩ := at_foldput (k := k) (v := v) xs (kPut d (k y) (v y)) h.2
    refine ⟨fun x hx => ?_, fun j hj => ?_⟩
    · rcases List.mem_cons.mp hx with rfl | hx
      · rw [List.foldl_cons, b (k x) fun z hz e => h.1 (e ▸ List.mem_map.mpr ⟨z, hz, rfl⟩), kAt_put, if_pos rfl]
      · rw [List.foldl_cons]; exact a x hx
    · rw [List.foldl_cons, b j fun z hz => hj z (List.mem_cons_of_mem _ hz), kAt_put, if_neg fun e => hj y (List.mem_cons_self ..) e.symm]
abbrev nrr (g : Gen) : List (Tx × List Tx) := g.2.2.foldl (fun acc m => kPut acc m.1 (F_Table__nearer_than (tb3 g) m.2)) []
theorem nrr_has {l : Tx} : kHas (nrr g) l = true ↔ l ∈ g.2.2.map (·.1) := by
  rw [kHas_iff, mem_foldput]
  simp
theorem nrr_at (h : GOk g) {m : Tx × List Tx} (hm : m ∈ g.2.2) : kAt (nrr g) m.1 = F_Table__nearer_than (tb3 g) m.2 := (at_foldput (k := fun m : Tx × List Tx => m.1) (v := fun m => F_Table__nearer_than (tb3 g) m.2) g.2.2 [] h.lb).1 m hm
theorem len_nearer (g : Gen) (s : List Tx) : (F_Table__nearer_than (tb3 g) s).length ≤ g.2.2.length := by
  unfold F_Table__nearer_than
  rw [List.length_map]; exact List.length_filter_le _ _
theorem p_below {ks : Kds} (h : KOk ks) {one other : List Tx} (h1 : ∀ x ∈ one, x ∈ nms ks) (hl : one.length ≤ 1000) : P_is_shape_below (F_uppers ks) one other := by
  unfold P_is_shape_below
  refine ⟨big_line (by rw [List.length_zip]; omega), fun p hp => ?_⟩
  exact kHas_iff.mpr (by rw [(uinv h).keys]; exact h1 p.1 (List.of_mem_zip hp).1)
theorem GOk.len (h : GOk g) {m : Tx × List Tx} (hm : m ∈ g.2.2) : m.2.length ≤ 1000 := by have := (h.sh m hm).1; have := h.hi; omega
theorem COk.len (h : GOk g) {c : List Tx} (hc : COk g c) : c.length ≤ 1000 := by have := hc.1; have := h.hi; omega
theorem p_init (h : GOk g) : P_Table___init__ g := by
  unfold P_Table___init__
  have e : g.2.2.map (fun x : Tx × List Tx => (x.1, x.2)) = g.2.2 := by
    have : (fun x : Tx × List Tx => (x.1, x.2)) = id := rfl
    rw [this, List.map_id]
  have hm := h.ml
  refine ⟨p_uppers h.ks, big_line (by omega), ?_⟩
  show (∀ x2_ ∈ g.2.2.map (fun x : Tx × List Tx => (x.1, x.2)), P_Table__nearer_than (g.1, F_uppers g.1, g.2.2.map (fun x : Tx × List Tx => (x.1, x.2))) x2_.2) ∧ (g.2.2.map (fun x : Tx × List Tx => (x.1, x.2))).length ≤ sizeLine
  rw [e]
  refine ⟨fun m _ => ?_, big_line (by omega)⟩
  unfold P_Table__nearer_than
  exact ⟨big_line (by show g.2.2.length ≤ _; omega), fun m' hm' _ => p_below h.ks (h.sh m' hm').2 (h.len hm')⟩
theorem p_fitting (h : GOk g) {c : List Tx} (hc : COk g c) : P_Table_fitting (F_Table___init__ g) c := by
  rw [table_eq]
  unfold P_Table_fitting
  have hm := h.ml
  exact ⟨big_line (by show g.2.2.length ≤ _; omega), fun m hm' => p_below h.ks hc.2 (hc.len h)⟩
theorem mem_fitting {c : List Tx} {l : Tx} : l ∈ F_Table_fitting (F_Table___init__ g) c ↔ ∃ m ∈ g.2.2, m.1 = l ∧ F_is_shape_below (F_uppers g.1) c m.2 = true := by
  rw [table_eq]
  unfold F_Table_fitting
  rw [List.mem_map]
  constructor
  · rintro ⟨m, hm, e⟩
    rw [List.mem_filter] at hm
    exact ⟨m, hm.1, e, hm.2⟩
  · rintro ⟨m, hm, e, q⟩
    exact ⟨m, List.mem_filter.mpr ⟨hm, q⟩, e⟩
theorem len_fitting (g : Gen) (c : List Tx) : (F_Table_fitting (F_Table___init__ g) c).length ≤ g.2.2.length := by
  rw [table_eq]
  unfold F_Table_fitting
  rw [List.length_map]; exact List.length_filter_le _ _
theorem p_tnearest (h : GOk g) {c : List Tx} (hc : COk g c) : P_Table_nearest (F_Table___init__ g) c := by
  unfold P_Table_nearest
  have hm := h.ml
  refine ⟨p_fitting h hc, ?_⟩
  show _ ∧ _
  refine ⟨big_line (Nat.le_trans (len_fitting g c) (by omega)), fun l hl => ?_⟩
  obtain ⟨m, hm', e, _⟩ := mem_fitting.mp hl
  rw [table_eq]
  show kHas (nrr g) l = true ∧ (kAt (nrr g) l).length ≤ sizeLine
  refine ⟨nrr_has.mpr (List.mem_map.mpr ⟨m, hm', e⟩), ?_⟩
  rw [← e, nrr_at h hm']
  exact big_line (Nat.le_trans (len_nearer g _) (by omega))
theorem p_nearest (h : GOk g) {c : List Tx} (hc : COk g c) : P_nearest g c := by
  unfold P_nearest
  exact ⟨p_init h, p_tnearest h hc⟩
theorem p_torn_calls (h : GOk g) : P__torn_calls (F_Table___init__ g) g := by
  unfold P__torn_calls
  exact ⟨p_shapes h, big_line (len_shapes h), fun c hc => p_tnearest h ((mem_shapes h).mp hc)⟩
theorem p_torn (h : GOk g) : P_torn g := by
  unfold P_torn
  exact ⟨p_init h, p_torn_calls h⟩
theorem torn_sub {c : List Tx} (hc : c ∈ F__torn_calls (F_Table___init__ g) g) : c ∈ F_shapes g := by
  unfold F__torn_calls at hc
  exact (List.mem_filter.mp hc).1
theorem p_greatest {ks : Kds} (h : KOk ks) {found : List (List Tx)} (hl : found.length ≤ 16777216) (hf : ∀ c ∈ found, (∀ x ∈ c, x ∈ nms ks) ∧ c.length ≤ 1000) : P_greatest_shapes (F_uppers ks) found := by
  unfold P_greatest_shapes
  refine ⟨big_line hl, fun c hc => ?_⟩
  unfold P__is_below_another
  refine lpP_ind (I := fun _ => True) trivial fun _ d _ _ => ⟨fun _ => p_below h (hf c hc).1 (hf c hc).2, fun _ _ => trivial⟩
theorem p_greatest_torn (h : GOk g) : P_greatest_torn g := by
  unfold P_greatest_torn
  refine ⟨p_init h, ?_⟩
  show P__torn_calls (F_Table___init__ g) g ∧ P_greatest_shapes (F_Table___init__ g).2.1 (F__torn_calls (F_Table___init__ g) g)
  refine ⟨p_torn_calls h, ?_⟩
  have e : (F_Table___init__ g).2.1 = F_uppers g.1 := by rw [table_eq]
  rw [e]
  refine p_greatest h.ks ?_ fun c hc => ?_
  · unfold F__torn_calls
    exact Nat.le_trans (List.length_filter_le _ _) (len_shapes h)
  · have := (mem_shapes h).mp (torn_sub hc)
    exact ⟨this.2, this.len h⟩
theorem lp_find {α ρ : Type} {q : α → Bool} {r : α → ρ} : ∀ xs : List α, lp xs () (fun _ x => if q x = true then (Sp.rt (r x) : Sp Unit ρ) else .nx ()) = match xs.find? q with | some x => .rt (r x) | none => .nx ()
  | [] => rfl
  | x :: xs => by
    have ih := lp_find (q := q) (r := r) xs
    unfold lp
    rw [List.find?_cons]
    cases h : q x with
    | true => simp [h]
    | false => simp only [h, Bool.false_eq_true, if_false]; exact ih
theorem p_shape_of {l : Tx} (hl : l ∈ g.2.2.map (·.1)) : P_Table_shape_of (F_Table___init__ g) l := by
  rw [table_eq]
  unfold P_Table_shape_of
  rw [lp_find (q := fun x : Tx × List Tx => decide (x.1 = l)) (r := fun x => x.2)]
  cases hf : g.2.2.find? (fun x : Tx × List Tx => decide (x.1 = l)) with
  | some x => trivial
  | none =>
    obtain ⟨m, hm, e⟩ := List.mem_map.mp hl
    exact absurd (decide_eq_true e) (List.find?_eq_none.mp hf m hm)
theorem shape_of_eq (h : GOk g) {m : Tx × List Tx} (hm : m ∈ g.2.2) : F_Table_shape_of (F_Table___init__ g) m.1 = m.2 := by
  rw [table_eq]
  unfold F_Table_shape_of
  rw [lp_find (q := fun x : Tx × List Tx => decide (x.1 = m.1)) (r := fun x => x.2)]
  have hk := kAt_mem h.lb hm
  cases hf : g.2.2.find? (fun x : Tx × List Tx => decide (x.1 = m.1)) with
  | some x =>
    show x.2 = m.2
    unfold kAt kGet at hk
    rw [hf] at hk
    exact hk
  | none => exact absurd (decide_eq_true rfl) (List.find?_eq_none.mp hf m hm)
theorem p_meet (h : GOk g) {a b : Tx} (ha : a ∈ g.2.2.map (·.1)) (hb : b ∈ g.2.2.map (·.1)) : P_meet g a b := by
  unfold P_meet
  refine ⟨p_init h, ?_⟩
  refine ⟨p_shape_of ha, p_shape_of hb, p_shapes h, ?_⟩
  exact lpP_ind (I := fun _ => True) trivial fun _ d hd _ => ⟨p_tnearest h ((mem_shapes h).mp hd), fun _ _ => trivial⟩
theorem p_greatest_kinds {ks : Kds} (h : KOk ks) (a b : Tx) : P_greatest_kinds (F_uppers ks) a b := by
  unfold P_greatest_kinds
  have u := uinv h
  have hl := h.len
  have hk : (F_uppers ks).length = ks.length := by simpa using congrArg List.length u.keys
  refine ⟨by rw [List.length_map]; exact big_line (by omega), fun x hx => ⟨kHas_iff.mpr hx, fun _ => kHas_iff.mpr hx⟩, ?_⟩
  refine ⟨?_, fun x hx => ⟨kHas_iff.mpr (List.mem_filter.mp hx).1, ?_⟩, ?_⟩
  · refine big_line (Nat.le_trans (List.length_filter_le _ _) ?_)
    rw [List.length_map]; omega
  · have hx' := (List.mem_filter.mp hx).1
    rw [u.keys] at hx'
    rw [List.length_map]
    have := u.small hx'
    exact big_line (by omega)
  · refine Nat.lt_of_le_of_lt (List.length_filter_le _ _) (Nat.lt_of_le_of_lt (List.length_filter_le _ _) ?_)
    rw [List.length_map]; omega
theorem len_gk {ks : Kds} (h : KOk ks) (a b : Tx) : (F_greatest_kinds (F_uppers ks) a b).length ≤ 60 := by
  unfold F_greatest_kinds
  have u := uinv h
  have hl := h.len
  have hk : (F_uppers ks).length = ks.length := by simpa using congrArg List.length u.keys
  show (sortT _).length ≤ 60
  rw [len_sortT]
  refine Nat.le_trans (List.length_filter_le _ _) (Nat.le_trans (List.length_filter_le _ _) ?_)
  rw [List.length_map]; omega
theorem mem_gk {ks : Kds} (h : KOk ks) {a b x : Tx} (hx : x ∈ F_greatest_kinds (F_uppers ks) a b) : x ∈ nms ks := by
  unfold F_greatest_kinds at hx
  have hx' : x ∈ sortT _ := hx
  rw [mem_sortT] at hx'
  have := (List.mem_filter.mp (List.mem_filter.mp hx').1).1
  rw [(uinv h).keys] at this
  exact this
abbrev gkCols (ks : Kds) (one other : List Tx) : List (List Tx) := (one.zip other).map fun x => F_greatest_kinds (F_uppers ks) x.1 x.2
theorem len_cols {ks : Kds} {one other : List Tx} (hl : one.length ≤ 3) : (gkCols ks one other).length ≤ 3 := by rw [List.length_map, List.length_zip]; omega
theorem cols60 {ks : Kds} (h : KOk ks) (one other : List Tx) : ∀ c ∈ gkCols ks one other, c.length ≤ 60 := fun c hc => by
  obtain ⟨p, _, e⟩ := List.mem_map.mp hc
  rw [← e]; exact len_gk h _ _
theorem p_common {ks : Kds} (h : KOk ks) {one other : List Tx} (hl : one.length ≤ 3) : P_common ks one other := by
  unfold P_common
  refine ⟨p_uppers h, ?_⟩
  refine ⟨big_line (by rw [List.length_zip]; omega), fun p _ => p_greatest_kinds h _ _, ?_⟩
  exact p_choice (N := 60) (cols60 h one other) (by omega) (pow3 (len_cols hl)) (Nat.le_trans (len_cols hl) (by omega))
theorem len_common {ks : Kds} (h : KOk ks) {one other : List Tx} (hl : one.length ≤ 3) : (F_common ks one other).length ≤ 16777216 := by
  unfold F_common
  exact Nat.le_trans (len_choice (N := 60) (cols60 h one other)) (pow3 (len_cols hl))
theorem pick_all {q : Tx → Prop} : ∀ {s : List Tx} {cols : List (List Tx)}, Pick s cols → (∀ c ∈ cols, ∀ x ∈ c, q x) → ∀ x ∈ s, q x
  | [], [], _, _ => fun x hx => by simp at hx
  | y :: s, c :: cols, h, hq => fun x hx => by
    rcases List.mem_cons.mp hx with rfl | hx
    · exact hq c (List.mem_cons_self ..) _ h.1
    · exact pick_all h.2 (fun d hd => hq d (List.mem_cons_of_mem _ hd)) x hx
  | [], _ :: _, h, _ => h.elim
  | _ :: _, [], h, _ => h.elim
theorem common_ok (h : GOk g) {one other c : List Tx} (h1 : COk g one) (h2 : COk g other) (hc : c ∈ F_common g.1 one other) : COk g c := by
  unfold F_common at hc
  have hp : Pick c (gkCols g.1 one other) := mem_choice.mp hc
  refine ⟨?_, pick_all hp fun col hcol x hx => ?_⟩
  · have := hp.len
    rw [List.length_map, List.length_zip] at this
    have a := h1.1
    have b := h2.1
    omega
  · obtain ⟨p, _, e⟩ := List.mem_map.mp hcol
    rw [← e] at hx
    exact mem_gk h.ks hx
theorem p_cover (h : GOk g) {m k : Tx × List Tx} (hm : m ∈ g.2.2) (hk : k ∈ g.2.2) (hh : (F_meet g m.1 k.1).isSome = false → ∀ c ∈ F_common g.1 m.2 k.2, (F_Table_fitting (F_Table___init__ g) c).filter (fun l => isIn l (kAt (nrr g) m.1 ++ kAt (nrr g) k.1)) ≠ []) : P_cover g m.1 k.1 := by
  unfold P_cover
  have hm1 : m.1 ∈ g.2.2.map (·.1) := List.mem_map.mpr ⟨m, hm, rfl⟩
  have hk1 : k.1 ∈ g.2.2.map (·.1) := List.mem_map.mpr ⟨k, hk, rfl⟩
  refine ⟨p_meet h hm1 hk1, ?_⟩
  cases hs : (F_meet g m.1 k.1).isSome with
  | true => rw [if_pos rfl]; trivial
  | false =>
    rw [if_neg Bool.false_ne_true]
    have ml := h.ml
    have n3 := h.hi
    have l1 := (h.sh m hm).1
    have e1 : (F_Table___init__ g).1 = g.1 := by rw [table_eq]
    have e2 : (F_Table___init__ g).2.2.2 = nrr g := by rw [table_eq]
    refine ⟨p_init h, ?_⟩
    show _ ∧ _ ∧ _ ∧ _
    rw [e2]
    refine ⟨nrr_has.mpr hm1, nrr_has.mpr hk1, ?_, ?_⟩
    · rw [nrr_at h hm, nrr_at h hk]
      have := len_nearer g m.2
      have := len_nearer g k.2
      exact big_line (by omega)
    · show _ ∧ _ ∧ _ ∧ _
      rw [shape_of_eq h hm, shape_of_eq h hk, e1]
      refine ⟨p_shape_of hm1, p_shape_of hk1, p_common h.ks (by omega), ?_⟩
      refine ⟨big_line (len_common h.ks (by omega)), fun c hc => ?_⟩
      have cc := common_ok h (h.sh m hm) (h.sh k hk) hc
      unfold P__least_covering
      refine ⟨p_fitting h cc, big_line (Nat.le_trans (len_fitting g c) (by omega)), ?_⟩
      have := hh hs c hc
      cases hf : (F_Table_fitting (F_Table___init__ g) c).filter (fun l => isIn l (kAt (nrr g) m.1 ++ kAt (nrr g) k.1)) with
      | nil => exact absurd hf this
      | cons x r => exact (congrArg Option.isSome (atI_nat (x :: r) 0)).trans rfl
end
end DX

/-! MB: draws, and the law's own frame. -/
namespace DX
open PySem PySem.Spec L2
/-- a source of draws, with at most k of the second kind behind it -/
def Bok (k : Nat) (B : Bx) : Prop := ∃ a b c : Int, B = [a, b, c] ∧ 0 ≤ a ∧ 0 ≤ c ∧ c ≤ k
theorem Bok.mono {k j : Nat} {B : Bx} (h : Bok k B) (l : k ≤ j) : Bok j B := by
  obtain ⟨a, b, c, h1, h2, h3, h4⟩ := h; exact ⟨a, b, c, h1, h2, h3, by omega⟩
theorem at3 (a b c : Int) : atI [a, b, c] (0 : Int) = some a ∧ atI [a, b, c] (1 : Int) = some b ∧ atI [a, b, c] (2 : Int) = some c := ⟨atI_nat [a, b, c] 0, atI_nat [a, b, c] 1, atI_nat [a, b, c] 2⟩
theorem atD3 (a b c : Int) : atD [a, b, c] (0 : Int) = a ∧ atD [a, b, c] (1 : Int) = b ∧ atD [a, b, c] (2 : Int) = c := by
  obtain ⟨x, y, z⟩ := at3 a b c
  unfold atD
  rw [x, y, z]; exact ⟨rfl, rfl, rfl⟩
theorem take_ok {k : Nat} {B : Bx} {n : Int} (h : Bok k B) (hk : k < 1000000000000) (hn : 0 < n) (hn2 : n < 1000000000) : P_Ltake B n ∧ 0 ≤ (F_Ltake B n).1 ∧ (F_Ltake B n).1 < n ∧ Bok (k + 1) (F_Ltake B n).2 := by
  obtain ⟨a, b, c, rfl, ha, hc, hck⟩ := h
  obtain ⟨t0, t1, t2⟩ := at3 a b c
  obtain ⟨d0, d1, d2⟩ := atD3 a b c
  have i0 : ixN ([a, b, c] : List Int).length (0 : Int) = some 0 := rfl
  have i2 : ixN ([a, b, c] : List Int).length (2 : Int) = some 2 := rfl
  have s2 : ([a, b, c] : List Int).set 2 (c + 1) = [a, b, c + 1] := rfl
  have s0 : ∀ z, ([a, b, c] : List Int).set 0 z = [z, b, c] := fun _ => rfl
  obtain ⟨u0, u1, u2⟩ := at3 a b (c + 1)
  obtain ⟨e0, e1, e2⟩ := atD3 a b (c + 1)
  have g1 : ∀ i, CMul i (39373 + (c + 1)) := fun i => .inr ⟨by omega, by omega⟩
  have g2 : ∀ i, CMul 48271 i := fun i => .inl ⟨by decide, by decide⟩
  have g3 : ∀ i x, CMul i (Int.fmod x 40009 + 7) := fun i x => by
    have p1 := Int.fmod_nonneg_of_pos x (b := 40009) (by decide)
    have p2 := Int.fmod_lt_of_pos x (b := 40009) (by decide)
    exact .inr ⟨by omega, by omega⟩
  have g4 : ∀ i, CMul i 48271 := fun i => .inr ⟨by decide, by decide⟩
  have g5 : ∀ i, CDivN i 1000003 := fun i => ⟨by decide, by decide⟩
  have g6 : ∀ i, CDivN i 64 := fun i => ⟨by decide, by decide⟩
  have hne : n ≠ 0 := by omega
  have hd : CDivN a n := ⟨hne, by omega⟩
  unfold P_Ltake F_Ltake
  by_cases q : 0 < a
  · simp only [t0, d0, q, decide_true, if_true, i0, Option.isSome_some, Option.getD_some, s0]
    refine ⟨⟨trivial, trivial, hne, trivial, hd, trivial⟩, Int.fmod_nonneg_of_pos _ hn, Int.fmod_lt_of_pos _ hn, _, _, _, rfl, ?_, hc, by omega⟩
    have : a.fdiv n = a / n := by rw [Int.fdiv_eq_ediv_of_nonneg _ (by omega)]
    rw [this]
    exact Int.ediv_nonneg ha (by omega)
  · simp only [lt, t0, d0, t2, d2, q, decide_false, if_false, Bool.false_eq_true, i2, Option.isSome_some, Option.getD_some, s2, u1, u2, e1, e2]
    exact ⟨⟨trivial, trivial, trivial, trivial, trivial, g2 _, trivial, g1 _, trivial, trivial, g5 _, g3 _ _, g4 _, g6 _, hne⟩, Int.fmod_nonneg_of_pos _ hn, Int.fmod_lt_of_pos _ hn, a, b, c + 1, rfl, ha, by omega, by omega⟩
theorem box_ok (cs : List Int) (k : Int) (h0 : 0 ≤ k) (hk : k < cs.length) : P_Lbox cs k ∧ Bok 0 (F_Lbox cs k) := by
  have g1 : ∀ (i : Int) (b : Bool), CMul i (if b = true then 1 else 0) := fun i b => by
    cases b
    · exact .inr ⟨by decide, by decide⟩
    · exact .inr ⟨by decide, by decide⟩
  refine ⟨?_, ?_⟩
  · unfold P_Lbox
    refine ⟨fun _ => ?_, by decide, g1 _ _, .inl ⟨by decide, by decide⟩⟩
    obtain ⟨j, rfl⟩ : ∃ j : Nat, k = (j : Int) := ⟨k.toNat, (Int.toNat_of_nonneg h0).symm⟩
    rw [atI_nat, List.getElem?_eq_getElem (by omega)]; rfl
  · unfold F_Lbox
    refine ⟨_, _, _, rfl, ?_, Int.le_refl _, Int.le_refl _⟩
    refine Int.mul_nonneg ?_ ?_
    · split <;> omega
    · split <;> omega
theorem ixN_in {n : Nat} {i : Int} (h0 : 0 ≤ i) (h1 : i < n) : ixN n i = some i.toNat := by
  unfold ixN; rw [if_pos h0, if_pos h1]
theorem mem_enum {α : Type} {xs : List α} {p : Int × α} (h : p ∈ enum xs) : 0 ≤ p.1 ∧ p.1 < xs.length ∧ xs[p.1.toNat]? = some p.2 := by
  unfold enum at h
  obtain ⟨i, hi⟩ := List.getElem?_of_mem h
  rw [List.getElem?_zipWith] at hi
  cases h1 : (List.range xs.length)[i]? with
  | none => rw [h1] at hi; simp at hi
  | some j =>
    cases h2 : xs[i]? with
    | none => rw [h1, h2] at hi; simp at hi
    | some x =>
      rw [h1, h2] at hi
      simp at hi
      have e : j = i := by
        obtain ⟨_, e⟩ := List.getElem?_eq_some_iff.mp h1
        simpa using e.symm
      have hl := (List.getElem?_eq_some_iff.mp h2).1
      subst e
      rw [← hi]
      exact ⟨by show (0 : Int) ≤ (j : Nat); omega, by show ((j : Nat) : Int) < _; omega, by show xs[(j : Int).toNat]? = _; rw [Int.toNat_natCast]; exact h2⟩
theorem len_enum {α : Type} (xs : List α) : (enum xs).length = xs.length := by unfold enum; simp
theorem cut_len (ns : List Int) (m n : Nat) : (cutD ns (some (m : Int)) (some (n : Int))).length ≤ ns.length - m := by
  unfold cutD
  rw [HT.sIx_nat, HT.sIx_nat, List.length_take, List.length_drop]
  omega
theorem cut_first (ns : List Int) (n : Nat) : cutD ns none (some (n : Int)) = ns.take n := by
  unfold cutD
  rw [HT.sIx_none, HT.sIx_nat, List.drop_zero, Nat.sub_zero]
  rw [List.take_eq_take_iff]
  omega
/-- a loop that goes on at each turn, with something that holds all the way -/
theorem lp_keep {α σ ρ : Type} {f : σ → α → Sp σ ρ} {g : σ → α → σ} {p : σ → α → Prop} {I : σ → Prop} (hf : ∀ s x, f s x = .nx (g s x)) : ∀ (xs : List α) (s : σ), I s → (∀ s x, x ∈ xs → I s → p s x ∧ I (g s x)) → lpP xs s f p ∧ ∃ s', lp xs s f = .nx s' ∧ I s'
  | [], s, h, _ => ⟨trivial, s, rfl, h⟩
  | x :: xs, s, h, hs => by
    obtain ⟨h1, h2⟩ := hs s x (List.mem_cons_self ..) h
    obtain ⟨a, s', b, c⟩ := lp_keep hf xs (g s x) h2 fun s y hy => hs s y (List.mem_cons_of_mem _ hy)
    refine ⟨⟨h1, ?_⟩, s', ?_, c⟩
    · rw [hf]; exact a
    · unfold lp; rw [hf]; exact b
theorem cells_ok {ns : List Int} {m : Nat} (h : ns.length ≤ 63) (hm : 1 ≤ m) (hm3 : m ≤ 63) : P_Lcells ns (m : Int) ∧ (F_Lcells ns (m : Int)).length ≤ m := by
  unfold P_Lcells F_Lcells
  rw [cut_first]
  generalize hc : (if (ns.take m).isEmpty = true then [(0 : Int)] else ns.take m) = c0
  have hl : c0.length ≤ m ∧ (m ≤ ns.length → c0.length = m) := by
    rw [← hc]
    by_cases q : (ns.take m).isEmpty = true
    · rw [if_pos q]
      rw [List.isEmpty_iff] at q
      have := congrArg List.length q
      rw [List.length_take] at this
      have q2 : min m ns.length = 0 := this
      simp only [List.length_singleton]
      omega
    · rw [if_neg q, List.length_take]; omega
  have key := lp_keep (ρ := List Int) (xs := enum (cutD ns (some (m : Int)) (some (63 : Int)))) (s := c0) (I := fun s => s.length = c0.length)
    (f := fun s2_ x6_ => .nx (s2_.set ((ixN s2_.length (x6_.1.fmod (m : Int))).getD 0) (atD s2_ (x6_.1.fmod (m : Int)) + x6_.2 * (x6_.1 + 2))))
    (g := fun s2_ x6_ => s2_.set ((ixN s2_.length (x6_.1.fmod (m : Int))).getD 0) (atD s2_ (x6_.1.fmod (m : Int)) + x6_.2 * (x6_.1 + 2)))
    (p := fun s2_ x6_ => ((m : Int) ≠ 0) ∧ ((atI s2_ (x6_.1.fmod (m : Int))).isSome = true) ∧ (CMul x6_.2 (x6_.1 + (2 : Int))) ∧ ((ixN s2_.length (x6_.1.fmod (m : Int))).isSome = true)) (fun _ _ => rfl) rfl ?_
  · obtain ⟨a, s', b, c⟩ := key
    refine ⟨a, ?_⟩
    show List.length (th (σ := List Int) (ρ := List Int) (lp (enum (cutD ns (some (m : Int)) (some (63 : Int)))) c0 _) _) ≤ m
    rw [b]
    show s'.length ≤ m
    rw [c]; exact hl.1
  · intro s x hx hs
    obtain ⟨x0, x1, x2⟩ := mem_enum hx
    have hcl : (cutD ns (some (m : Int)) (some (63 : Int))).length ≤ ns.length - m := cut_len ns m 63
    have hlen : c0.length = m := hl.2 (by omega)
    have m0 : 0 ≤ x.1.fmod (m : Int) := Int.fmod_nonneg_of_pos _ (by omega)
    have m1 : x.1.fmod (m : Int) < m := Int.fmod_lt_of_pos _ (by omega)
    have hi := ixN_in (n := s.length) m0 (by omega)
    refine ⟨⟨by omega, ?_, .inr ⟨by omega, by omega⟩, by rw [hi]; rfl⟩, by rw [List.length_set, hs]⟩
    unfold atI
    rw [hi]
    show (s[(x.1.fmod (m : Int)).toNat]?).isSome = true
    rw [List.getElem?_eq_getElem (by omega)]; rfl
theorem mem_rng {n i : Int} (h : i ∈ rng 0 n) : 0 ≤ i ∧ i < n := by
  unfold rng at h
  obtain ⟨j, hj, rfl⟩ := List.mem_map.mp h
  rw [List.mem_range] at hj
  omega
theorem len_rng (n : Nat) : (rng 0 (n : Int)).length = n := by unfold rng; simp
end DX

/-! M19: known tears of one place, all ways reckoned. -/
namespace DX
open PySem PySem.Spec L2
abbrev S19 := ((List (List Tx × Tx)) × Bx × (List (List Tx)) × (List (Tx × List Tx)) × (List (Tx × List Tx × Bool)))
abbrev R19 := (Sp ((List (List Tx × Tx)) × (List (List Tx)) × ((List (Tx × List Tx × Bool)) × Int × (List (Tx × List Tx))) × (List Tx) × Bx) (Bool × Bx))
abbrev f19 : S19 → (Int × List Tx) → Sp S19 R19 := (fun s9_ x21_ => lt s9_.1 fun book_1_ => lt s9_.2.1 fun box_here_1_ => lt s9_.2.2.1 fun closed_1_ => lt s9_.2.2.2.1 fun methods_1_ => lt s9_.2.2.2.2 fun rows_1_ => lt (if decide ((rows_1_.length : Int) < (8 : Int)) = true then lt ((F_Ltake box_here_1_ (4 : Int))) fun r22_ => (decide ((0 : Int) < r22_.1), r22_.2) else (false, box_here_1_)) fun r23_ => th (σ := ((List (List Tx × Tx)) × Bx × (List (List Tx)) × (List (Tx × List Tx)) × (List (Tx × List Tx × Bool)))) (if r23_.1 = true then (lt (((tS "z") ++ (signAt (tS "uvwxyz") x21_.1))) fun name_ => lt ((rows_1_ ++ [(name_, x21_.2, false)])) fun rows_2_ => lt ((kPut book_1_ x21_.2 name_)) fun book_2_ => lt ((F_Ltake r23_.2 (3 : Int))) fun r24_ => th (σ := ((List (List Tx)) × (List (Tx × List Tx)))) (if ((decide (r24_.1 = (0 : Int))) && decide ((methods_1_.length : Int) < (7 : Int))) = true then (lt ((methods_1_ ++ [(((tS "w") ++ (signAt (tS "uvwxyz") x21_.1)), [name_])])) fun methods_2_ => lt ((closed_1_ ++ [x21_.2])) fun closed_2_ => .nx ((closed_2_, methods_2_))) else (.nx ((closed_1_, methods_1_)))) fun s25_ => lt s25_.1 fun closed_3_ => lt s25_.2 fun methods_3_ => .nx ((book_2_, r24_.2, closed_3_, methods_3_, rows_2_))) else (.nx ((book_1_, r23_.2, closed_1_, methods_1_, rows_1_)))) fun s34_ => lt s34_.1 fun book_3_ => lt s34_.2.1 fun box_here_2_ => lt s34_.2.2.1 fun closed_4_ => lt s34_.2.2.2.1 fun methods_4_ => lt s34_.2.2.2.2 fun rows_3_ => .nx ((book_3_, box_here_2_, closed_4_, methods_4_, rows_3_)))
abbrev p19 : S19 → (Int × List Tx) → Prop := (fun s9_ x21_ => lt s9_.1 fun book_1_ => lt s9_.2.1 fun box_here_1_ => lt s9_.2.2.1 fun closed_1_ => lt s9_.2.2.2.1 fun methods_1_ => lt s9_.2.2.2.2 fun rows_1_ => (decide ((rows_1_.length : Int) < (8 : Int)) = true → (P_Ltake box_here_1_ (4 : Int))) ∧ lt (if decide ((rows_1_.length : Int) < (8 : Int)) = true then lt ((F_Ltake box_here_1_ (4 : Int))) fun r22_ => (decide ((0 : Int) < r22_.1), r22_.2) else (false, box_here_1_)) fun r23_ => (if r23_.1 = true then (((tS "uvwxyz").1.length ≤ sizeLine ∧ (atI (signs (tS "uvwxyz")) x21_.1).isSome = true) ∧ ((tS "z").1.length + (signAt (tS "uvwxyz") x21_.1).1.length ≤ sizeLine) ∧ lt (((tS "z") ++ (signAt (tS "uvwxyz") x21_.1))) fun name_ => (rows_1_.length < sizeLine) ∧ lt ((rows_1_ ++ [(name_, x21_.2, false)])) fun rows_2_ => (book_1_.length < sizeLine) ∧ lt ((kPut book_1_ x21_.2 name_)) fun book_2_ => (P_Ltake r23_.2 (3 : Int)) ∧ lt ((F_Ltake r23_.2 (3 : Int))) fun r24_ => (if ((decide (r24_.1 = (0 : Int))) && decide ((methods_1_.length : Int) < (7 : Int))) = true then (((tS "uvwxyz").1.length ≤ sizeLine ∧ (atI (signs (tS "uvwxyz")) x21_.1).isSome = true) ∧ ((tS "w").1.length + (signAt (tS "uvwxyz") x21_.1).1.length ≤ sizeLine) ∧ (methods_1_.length < sizeLine) ∧ lt ((methods_1_ ++ [(((tS "w") ++ (signAt (tS "uvwxyz") x21_.1)), [name_])])) fun methods_2_ => (closed_1_.length < sizeLine)) else True)) else True))
abbrev T19 := (List (List Tx × Tx)) × (List (List Tx)) × (List (Tx × List Tx)) × (List (Tx × List Tx × Bool))
abbrev mk19 (t : T19) (B : Bx) : S19 := (t.1, B, t.2.1, t.2.2.1, t.2.2.2)
abbrev nz (x : Int × List Tx) : Tx := (tS "z") ++ (signAt (tS "uvwxyz") x.1)
abbrev nw (x : Int × List Tx) : Tx := (tS "w") ++ (signAt (tS "uvwxyz") x.1)
abbrev zT (x : Int × List Tx) (t : T19) : T19 := (kPut t.1 x.2 (nz x), t.2.1, t.2.2.1, t.2.2.2 ++ [(nz x, x.2, false)])
abbrev wT (x : Int × List Tx) (t : T19) : T19 := (kPut t.1 x.2 (nz x), t.2.1 ++ [x.2], t.2.2.1 ++ [(nw x, [nz x])], t.2.2.2 ++ [(nz x, x.2, false)])
def opts (x : Int × List Tx) (t : T19) : List T19 := if t.2.2.2.length < 8 then (if t.2.2.1.length < 7 then [t, zT x t, wT x t] else [t, zT x t]) else [t]
def reach : List (Int × List Tx) → T19 → List T19
  | [], t => [t]
  | x :: xs, t => (opts x t).flatMap (reach xs)
def okx (x : Int × List Tx) : Bool := decide ((tS "uvwxyz").1.length ≤ sizeLine ∧ (atI (signs (tS "uvwxyz")) x.1).isSome = true) && decide ((tS "z").1.length + (signAt (tS "uvwxyz") x.1).1.length ≤ sizeLine) && decide ((tS "w").1.length + (signAt (tS "uvwxyz") x.1).1.length ≤ sizeLine)
abbrev Sz (n : Nat) (t : T19) : Prop := t.1.length ≤ n ∧ t.2.1.length ≤ n
theorem len_put {κ β : Type} [DecidableEq κ] (d : List (κ × β)) (k : κ) (v : β) : (kPut d k v).length ≤ d.length + 1 := by
  unfold kPut
  split
  · rw [List.length_map]; omega
  · rw [List.length_append, List.length_singleton]; omega
theorem step19 {k n : Nat} {B : Bx} {t : T19} {x : Int × List Tx} (hB : Bok k B) (hk : k < 1000000) (hx : okx x = true) (hs : Sz n t) (hn : n < 1000000) :
    p19 (mk19 t B) x ∧ ∃ t' ∈ opts x t, ∃ B', Bok (k + 2) B' ∧ Sz (n + 1) t' ∧ f19 (mk19 t B) x = .nx (mk19 t' B') := by
  obtain ⟨h4, lo4, hi4, b4⟩ := take_ok (n := 4) hB (by omega) (by decide) (by decide)
  unfold okx at hx
  rw [Bool.and_eq_true, Bool.and_eq_true, decide_eq_true_eq, decide_eq_true_eq, decide_eq_true_eq] at hx
  obtain ⟨⟨x1, x2⟩, x3⟩ := hx
  obtain ⟨s1, s2⟩ := hs
  unfold opts p19 f19
  simp only [lt]
  by_cases h8 : t.2.2.2.length < 8
  · have e8 : decide ((t.2.2.2.length : Int) < 8) = true := decide_eq_true (by omega)
    simp only [e8, h8, if_true]
    by_cases h0 : 0 < (F_Ltake B 4).1
    · have e0 : decide (0 < (F_Ltake B 4).1) = true := decide_eq_true h0
      obtain ⟨h3, lo3, hi3, b3⟩ := take_ok (n := 3) b4 (by omega) (by decide) (by decide)
      simp only [e0, if_true]
      have l1 := len_put t.1 x.2 (nz x)
      have pl : t.2.2.2.length < sizeLine := by unfold sizeLine; omega
      have pb : t.1.length < sizeLine := by unfold sizeLine; omega
      have pc : t.2.1.length < sizeLine := by unfold sizeLine; omega
      by_cases hw : (F_Ltake (F_Ltake B 4).2 3).1 = 0 ∧ t.2.2.1.length < 7
      · have e3 : (decide ((F_Ltake (F_Ltake B 4).2 3).1 = 0) && decide ((t.2.2.1.length : Int) < 7)) = true := by
          rw [Bool.and_eq_true, decide_eq_true_eq, decide_eq_true_eq]; exact ⟨hw.1, by omega⟩
        have pm : t.2.2.1.length < sizeLine := by unfold sizeLine; omega
        simp only [e3, hw.2, if_true]
        refine ⟨⟨fun _ => h4, x1, x2, pl, pb, h3, x1, x3, pm, pc⟩, wT x t, by simp, _, b3, ⟨by show (kPut _ _ _).length ≤ _; omega, by show (t.2.1 ++ [x.2]).length ≤ _; rw [List.length_append, List.length_singleton]; omega⟩, rfl⟩
      · have e3 : (decide ((F_Ltake (F_Ltake B 4).2 3).1 = 0) && decide ((t.2.2.1.length : Int) < 7)) = false := by
          rw [Bool.and_eq_false_iff, decide_eq_false_iff_not, decide_eq_false_iff_not]
          by_cases q : (F_Ltake (F_Ltake B 4).2 3).1 = 0
          · exact .inr fun z => hw ⟨q, by omega⟩
          · exact .inl q
        simp only [e3, if_false, Bool.false_eq_true]
        refine ⟨⟨fun _ => h4, x1, x2, pl, pb, h3, trivial⟩, zT x t, ?_, _, b3, ⟨by show (kPut _ _ _).length ≤ _; omega, by show t.2.1.length ≤ _; omega⟩, rfl⟩
        split <;> simp
    · have e0 : decide (0 < (F_Ltake B 4).1) = false := decide_eq_false h0
      simp only [e0, if_false, Bool.false_eq_true]
      refine ⟨⟨fun _ => h4, trivial⟩, t, ?_, _, b4.mono (by omega), ⟨by omega, by omega⟩, rfl⟩
      split <;> simp
  · have e8 : decide ((t.2.2.2.length : Int) < 8) = false := decide_eq_false (by omega)
    simp only [e8, h8, if_false, Bool.false_eq_true]
    exact ⟨⟨fun z => z.elim, trivial⟩, t, by simp, B, hB.mono (by omega), ⟨by omega, by omega⟩, rfl⟩
theorem loop19 : ∀ {xs : List (Int × List Tx)} {t : T19} {k n : Nat} {B : Bx}, Bok k B → k + 2 * xs.length < 1000000 → (∀ x ∈ xs, okx x = true) → Sz n t → n + xs.length < 1000000 →
    lpP xs (mk19 t B) f19 p19 ∧ ∃ t' ∈ reach xs t, ∃ B', Bok (k + 2 * xs.length) B' ∧ Sz (n + xs.length) t' ∧ lp xs (mk19 t B) f19 = .nx (mk19 t' B')
  | [], t, k, n, B, hB, _, _, hs, _ => ⟨trivial, t, by simp [reach], B, hB, hs, rfl⟩
  | x :: xs, t, k, n, B, hB, hk, hx, hs, hn => by
    rw [List.length_cons] at hk hn ⊢
    obtain ⟨p, t1, m1, B1, b1, s1, e1⟩ := step19 hB (by omega) (hx x (List.mem_cons_self ..)) hs (by omega)
    obtain ⟨pp, t2, m2, B2, b2, s2, e2⟩ := loop19 (xs := xs) b1 (by omega) (fun y hy => hx y (List.mem_cons_of_mem _ hy)) s1 (by omega)
    refine ⟨⟨p, by rw [e1]; exact pp⟩, t2, List.mem_flatMap.mpr ⟨t1, m1, m2⟩, B2, b2.mono (by omega), ⟨by have := s2.1; omega, by have := s2.2; omega⟩, ?_⟩
    unfold lp
    rw [e1]
    exact e2
end DX

/-! M19b: what is asked of each way's end. -/
namespace DX
open PySem PySem.Spec L2
/-- a good generic, to be reckoned -/
def upB : List Tx → Kds → Bool
  | _, [] => true
  | seen, r :: ks => (r.2.1.all fun s => decide (s ∈ seen)) && upB (seen ++ [r.1]) ks
theorem upB_ok : ∀ {ks : Kds} {seen : List Tx}, upB seen ks = true → ∀ pre r post, ks = pre ++ r :: post → ∀ s ∈ r.2.1, s ∈ seen ++ nms pre
  | [], seen, _, pre, r, post, e, s, hs => by cases pre <;> simp at e
  | x :: ks, seen, h, pre, r, post, e, s, hs => by
    unfold upB at h
    rw [Bool.and_eq_true, List.all_eq_true] at h
    cases pre with
    | nil =>
      simp only [List.nil_append, List.cons.injEq] at e
      obtain ⟨rfl, rfl⟩ := e
      have := h.1 s hs
      rw [decide_eq_true_eq] at this
      simpa using this
    | cons y pre =>
      simp only [List.cons_append, List.cons.injEq] at e
      obtain ⟨rfl, rfl⟩ := e
      have := upB_ok h.2 pre r post rfl s hs
      simpa [nms] using this
def gokB (g : Gen) : Bool := decide (nms g.1).Nodup && upB [] g.1 && decide (g.1.length ≤ 60) && decide (1 ≤ g.2.1) && decide (g.2.1 ≤ 3) && decide (g.2.2.map (·.1)).Nodup && (g.2.2.all fun m => decide ((m.2.length : Int) = g.2.1) && m.2.all fun x => decide (x ∈ nms g.1)) && decide (g.2.2.length ≤ 60)
theorem gok_of {g : Gen} (h : gokB g = true) : GOk g := by
  unfold gokB at h
  simp only [Bool.and_eq_true, decide_eq_true_eq, List.all_eq_true] at h
  obtain ⟨⟨⟨⟨⟨⟨⟨h1, h2⟩, h3⟩, h4⟩, h5⟩, h6⟩, h7⟩, h8⟩ := h
  refine ⟨⟨h1, fun pre r post e s hs => ?_, h3⟩, h4, h5, h6, fun m hm => h7 m hm, h8⟩
  have := upB_ok h2 pre r post e s hs
  simpa using this
abbrev gen19 (t : T19) : Gen := (t.2.2.2, (1 : Int), sortE qRow t.2.2.1)
abbrev due19 (t : T19) : List (List Tx) := sortE (qT qS) (((t.1.map (·.1)).filter fun x58_ => (!isIn x58_ t.2.1)).map fun x58_ => [(kAt t.1 x58_)])
abbrev la19 (x : List Tx) : Tx := (tS "m") ++ (atD x (0 : Int))
abbrev lb19 (x : List Tx) : Tx := (tS "m") ++ (atD x (1 : Int))
abbrev spot19 (t : T19) (x : List Tx) : Option (List Tx) := if ((kHas t.1 x) && (!isIn x t.2.1)) = true then (some [(kAt t.1 x)]) else none
abbrev parts19 (t : T19) (x : List Tx) : List Tx := if (isIn x t.2.1) = true then [((tS "w") ++ (signAt (kAt t.1 x) (1 : Int)))] else ([] : (List Tx))
def chkP (t : T19) (x : List Tx) : Bool :=
  decide ((atI x (0 : Int)).isSome = true) && decide ((tS "m").1.length + (atD x (0 : Int)).1.length ≤ sizeLine) && decide ((atI x (1 : Int)).isSome = true) && decide ((tS "m").1.length + (atD x (1 : Int)).1.length ≤ sizeLine)
  && decide (isIn x t.2.1 = true → (kHas t.1 x = true) ∧ ((kAt t.1 x).1.length ≤ sizeLine ∧ (atI (signs (kAt t.1 x)) (1 : Int)).isSome = true) ∧ ((tS "w").1.length + (signAt (kAt t.1 x) (1 : Int)).1.length ≤ sizeLine))
  && decide (la19 x ∈ (gen19 t).2.2.map (·.1)) && decide (lb19 x ∈ (gen19 t).2.2.map (·.1))
  && decide (F_meet (gen19 t) (la19 x) (lb19 x) = spot19 t x) && decide (F_cover (gen19 t) (lb19 x) (la19 x) = if (spot19 t x).isNone = true then some (parts19 t x) else none)
  && decide (F_meet (gen19 t) (lb19 x) (la19 x) = spot19 t x)
  && ((spot19 t x).isSome || ((F_common (gen19 t).1 (F_Table_shape_of (F_Table___init__ (gen19 t)) (lb19 x)) (F_Table_shape_of (F_Table___init__ (gen19 t)) (la19 x))).all fun c => !((F_Table_fitting (F_Table___init__ (gen19 t)) c).filter (fun l => isIn l (kAt (nrr (gen19 t)) (lb19 x) ++ kAt (nrr (gen19 t)) (la19 x)))).isEmpty))
  && ((spot19 t x).isNone || decide (F_nearest (gen19 t) ((spot19 t x).getD default) = [la19 x, lb19 x]))
  && ((spot19 t x).isNone || (((spot19 t x).getD default).all fun y => decide (y ∈ nms t.2.2.2)))
def chk19 (tops : List Tx) (t : T19) : Bool :=
  gokB (gen19 t) && decide (t.2.2.1.length ≤ 1000) && (t.1.all fun kv => decide (kv.1.length ≤ 1000)) && decide (t.1.length ≤ 1000)
  && decide (F_torn (gen19 t) = due19 t) && decide (F_greatest_torn (gen19 t) = due19 t)
  && (F_Lpairs tops).all (chkP t)
def t0 (tops : List Tx) : T19 := ([], [], tops.map fun x7_ => (((tS "m") ++ x7_), [x7_]), tops.map fun x3_ => (x3_, ([] : (List Tx)), false))
theorem all2 : (reach (enum (F_Lpairs [tS "a", tS "b"])) (t0 [tS "a", tS "b"])).all (chk19 [tS "a", tS "b"]) = true := by decide +kernel
theorem wx2 : (enum (F_Lpairs [tS "a", tS "b"])).all okx = true := by decide +kernel
theorem wx3 : (enum (F_Lpairs [tS "a", tS "b", tS "c"])).all okx = true := by decide +kernel
theorem wx4 : (enum (F_Lpairs [tS "a", tS "b", tS "c", tS "d"])).all okx = true := by decide +kernel
end DX

/-! M19c: all ways, a few at a time. -/
namespace DX
open PySem PySem.Spec L2
theorem all3 : (reach (enum (F_Lpairs [tS "a", tS "b", tS "c"])) (t0 [tS "a", tS "b", tS "c"])).all (chk19 [tS "a", tS "b", tS "c"]) = true := by decide +kernel
abbrev T4 : List Tx := [tS "a", tS "b", tS "c", tS "d"]
abbrev X4 : List (Int × List Tx) := enum (F_Lpairs T4)
def pre4 : List T19 := ((opts (X4.headD default) (t0 T4)).flatMap (opts (X4.tail.headD default))).flatMap (opts (X4.tail.tail.headD default))
def post4 (t : T19) : Bool := (reach X4.tail.tail.tail t).all (chk19 T4)
theorem q4_0 : post4 (pre4.getD 0 (t0 T4)) = true := by decide +kernel
theorem q4_1 : post4 (pre4.getD 1 (t0 T4)) = true := by decide +kernel
theorem q4_2 : post4 (pre4.getD 2 (t0 T4)) = true := by decide +kernel
theorem q4_3 : post4 (pre4.getD 3 (t0 T4)) = true := by decide +kernel
theorem q4_4 : post4 (pre4.getD 4 (t0 T4)) = true := by decide +kernel
theorem q4_5 : post4 (pre4.getD 5 (t0 T4)) = true := by decide +kernel
theorem q4_6 : post4 (pre4.getD 6 (t0 T4)) = true := by decide +kernel
theorem q4_7 : post4 (pre4.getD 7 (t0 T4)) = true := by decide +kernel
theorem q4_8 : post4 (pre4.getD 8 (t0 T4)) = true := by decide +kernel
theorem q4_9 : post4 (pre4.getD 9 (t0 T4)) = true := by decide +kernel
theorem q4_10 : post4 (pre4.getD 10 (t0 T4)) = true := by decide +kernel
theorem q4_11 : post4 (pre4.getD 11 (t0 T4)) = true := by decide +kernel
theorem q4_12 : post4 (pre4.getD 12 (t0 T4)) = true := by decide +kernel
theorem q4_13 : post4 (pre4.getD 13 (t0 T4)) = true := by decide +kernel
theorem q4_14 : post4 (pre4.getD 14 (t0 T4)) = true := by decide +kernel
theorem q4_15 : post4 (pre4.getD 15 (t0 T4)) = true := by decide +kernel
theorem q4_16 : post4 (pre4.getD 16 (t0 T4)) = true := by decide +kernel
theorem q4_17 : post4 (pre4.getD 17 (t0 T4)) = true := by decide +kernel
theorem q4_18 : post4 (pre4.getD 18 (t0 T4)) = true := by decide +kernel
theorem q4_19 : post4 (pre4.getD 19 (t0 T4)) = true := by decide +kernel
theorem q4_20 : post4 (pre4.getD 20 (t0 T4)) = true := by decide +kernel
theorem q4_21 : post4 (pre4.getD 21 (t0 T4)) = true := by decide +kernel
theorem q4_22 : post4 (pre4.getD 22 (t0 T4)) = true := by decide +kernel
theorem q4_23 : post4 (pre4.getD 23 (t0 T4)) = true := by decide +kernel
theorem q4_24 : post4 (pre4.getD 24 (t0 T4)) = true := by decide +kernel
theorem q4_25 : post4 (pre4.getD 25 (t0 T4)) = true := by decide +kernel
theorem q4_26 : post4 (pre4.getD 26 (t0 T4)) = true := by decide +kernel
theorem all4 : (reach (enum (F_Lpairs [tS "a", tS "b", tS "c", tS "d"])) (t0 [tS "a", tS "b", tS "c", tS "d"])).all (chk19 [tS "a", tS "b", tS "c", tS "d"]) = true := by
  have e : ∃ x y z r, X4 = x :: y :: z :: r := by
    have hl : 3 ≤ X4.length := by decide +kernel
    revert hl
    generalize X4 = l
    intro hl
    match l, hl with
    | x :: y :: z :: r, _ => exact ⟨x, y, z, r, rfl⟩
  obtain ⟨x, y, z, r, e⟩ := e
  have ep : pre4 = ((opts x (t0 T4)).flatMap (opts y)).flatMap (opts z) := by unfold pre4; rw [e]; rfl
  have eq4 : ∀ t, post4 t = (reach r t).all (chk19 T4) := fun t => by unfold post4; rw [e]; rfl
  show (reach X4 (t0 T4)).all (chk19 T4) = true
  have er : reach X4 (t0 T4) = pre4.flatMap (reach r) := by
    rw [e, ep, List.flatMap_assoc, List.flatMap_assoc]; rfl
  rw [er, List.all_eq_true]
  intro t ht
  obtain ⟨s, hs, ht⟩ := List.mem_flatMap.mp ht
  obtain ⟨i, hi, es⟩ := List.getElem_of_mem hs
  have hl : pre4.length = 27 := by decide +kernel
  have key : post4 s = true := by
    have eg : pre4.getD i (t0 T4) = s := by rw [List.getD_eq_getElem?_getD, List.getElem?_eq_getElem hi, ← es]; rfl
    rw [← eg]
    rw [hl] at hi
    have : i = 0 ∨ i = 1 ∨ i = 2 ∨ i = 3 ∨ i = 4 ∨ i = 5 ∨ i = 6 ∨ i = 7 ∨ i = 8 ∨ i = 9 ∨ i = 10 ∨ i = 11 ∨ i = 12 ∨ i = 13 ∨ i = 14 ∨ i = 15 ∨ i = 16 ∨ i = 17 ∨ i = 18 ∨ i = 19 ∨ i = 20 ∨ i = 21 ∨ i = 22 ∨ i = 23 ∨ i = 24 ∨ i = 25 ∨ i = 26 := by omega
    rcases this with rfl | rfl | rfl | rfl | rfl | rfl | rfl | rfl | rfl | rfl | rfl | rfl | rfl | rfl | rfl | rfl | rfl | rfl | rfl | rfl | rfl | rfl | rfl | rfl | rfl | rfl | rfl
    · exact q4_0
    · exact q4_1
    · exact q4_2
    · exact q4_3
    · exact q4_4
    · exact q4_5
    · exact q4_6
    · exact q4_7
    · exact q4_8
    · exact q4_9
    · exact q4_10
    · exact q4_11
    · exact q4_12
    · exact q4_13
    · exact q4_14
    · exact q4_15
    · exact q4_16
    · exact q4_17
    · exact q4_18
    · exact q4_19
    · exact q4_20
    · exact q4_21
    · exact q4_22
    · exact q4_23
    · exact q4_24
    · exact q4_25
    · exact q4_26
  rw [eq4] at key
  exact List.all_eq_true.mp key t ht
end DX

/-! M19d: the law holds. -/
namespace DX
open PySem PySem.Spec L2
/-- what the first draw leaves -/
abbrev tops19 (r : Int) : List Tx := cutD [(tS "a"), (tS "b"), (tS "c"), (tS "d")] none (some ((2 : Int) + r))
structure GT (tops : List Tx) : Prop where
  okx : (enum (F_Lpairs tops)).all okx = true
  all : (reach (enum (F_Lpairs tops)) (t0 tops)).all (chk19 tops) = true
  len : tops.length ≤ 4
  pl : (enum (F_Lpairs tops)).length ≤ 6
  nm : ∀ x ∈ tops, (tS "m").1.length + x.1.length ≤ sizeLine
  pp : P_Lpairs tops
theorem gt2 : GT [tS "a", tS "b"] := ⟨wx2, all2, by decide, by decide +kernel, by decide +kernel, by unfold P_Lpairs; decide +kernel⟩
theorem gt3 : GT [tS "a", tS "b", tS "c"] := ⟨wx3, all3, by decide, by decide +kernel, by decide +kernel, by unfold P_Lpairs; decide +kernel⟩
theorem gt4 : GT [tS "a", tS "b", tS "c", tS "d"] := ⟨wx4, all4, by decide, by decide +kernel, by decide +kernel, by unfold P_Lpairs; decide +kernel⟩
theorem good_tops {r : Int} (h0 : 0 ≤ r) (h3 : r < 3) : GT (tops19 r) := by
  have : r = 0 ∨ r = 1 ∨ r = 2 := by omega
  rcases this with rfl | rfl | rfl
  · have e : tops19 0 = [tS "a", tS "b"] := by decide +kernel
    rw [e]; exact gt2
  · have e : tops19 1 = [tS "a", tS "b", tS "c"] := by decide +kernel
    rw [e]; exact gt3
  · have e : tops19 2 = [tS "a", tS "b", tS "c", tS "d"] := by decide +kernel
    rw [e]; exact gt4
theorem lp_skip {α ρ : Type} {f : Unit → α → Sp Unit ρ} : ∀ (xs : List α), (∀ s x, f s x = .nx ()) → lp xs () f = .nx ()
  | [], _ => rfl
  | x :: xs, h => by unfold lp; rw [h]; exact lp_skip xs h
structure CP (t : T19) (x : List Tx) : Prop where
  i0 : (atI x (0 : Int)).isSome = true
  l0 : (tS "m").1.length + (atD x (0 : Int)).1.length ≤ sizeLine
  i1 : (atI x (1 : Int)).isSome = true
  l1 : (tS "m").1.length + (atD x (1 : Int)).1.length ≤ sizeLine
  cl : isIn x t.2.1 = true → (kHas t.1 x = true) ∧ ((kAt t.1 x).1.length ≤ sizeLine ∧ (atI (signs (kAt t.1 x)) (1 : Int)).isSome = true) ∧ ((tS "w").1.length + (signAt (kAt t.1 x) (1 : Int)).1.length ≤ sizeLine)
  la : la19 x ∈ (gen19 t).2.2.map (·.1)
  lb : lb19 x ∈ (gen19 t).2.2.map (·.1)
  me : F_meet (gen19 t) (la19 x) (lb19 x) = spot19 t x
  co : F_cover (gen19 t) (lb19 x) (la19 x) = if (spot19 t x).isNone = true then some (parts19 t x) else none
  me2 : F_meet (gen19 t) (lb19 x) (la19 x) = spot19 t x
  cv : (spot19 t x).isSome = true ∨ ∀ c ∈ F_common (gen19 t).1 (F_Table_shape_of (F_Table___init__ (gen19 t)) (lb19 x)) (F_Table_shape_of (F_Table___init__ (gen19 t)) (la19 x)), (F_Table_fitting (F_Table___init__ (gen19 t)) c).filter (fun l => isIn l (kAt (nrr (gen19 t)) (lb19 x) ++ kAt (nrr (gen19 t)) (la19 x))) ≠ []
  ne : (spot19 t x).isNone = true ∨ F_nearest (gen19 t) ((spot19 t x).getD default) = [la19 x, lb19 x]
  nm : (spot19 t x).isNone = true ∨ ∀ y ∈ (spot19 t x).getD default, y ∈ nms t.2.2.2
theorem cp_of {t : T19} {x : List Tx} (h : chkP t x = true) : CP t x := by
  unfold chkP at h
  simp only [Bool.and_eq_true, Bool.or_eq_true, decide_eq_true_eq, List.all_eq_true] at h
  obtain ⟨⟨⟨⟨⟨⟨⟨⟨⟨⟨⟨⟨h1, h2⟩, h3⟩, h4⟩, h5⟩, h6⟩, h7⟩, h8⟩, h9⟩, h10⟩, h11⟩, h12⟩, h13⟩ := h
  refine ⟨h1, h2, h3, h4, h5, h6, h7, h8, h9, h10, ?_, h12, h13⟩
  rcases h11 with h11 | h11
  · exact .inl h11
  · exact .inr fun c hc z => by
      have := h11 c hc
      rw [z] at this
      cases this
structure C19 (tops : List Tx) (t : T19) : Prop where
  g : GOk (gen19 t)
  ml : t.2.2.1.length ≤ 1000
  kl : ∀ kv ∈ t.1, kv.1.length ≤ 1000
  bl : t.1.length ≤ 1000
  to : F_torn (gen19 t) = due19 t
  gr : F_greatest_torn (gen19 t) = due19 t
  ps : ∀ x ∈ F_Lpairs tops, CP t x
theorem c19_of {tops : List Tx} {t : T19} (h : chk19 tops t = true) : C19 tops t := by
  unfold chk19 at h
  simp only [Bool.and_eq_true, decide_eq_true_eq, List.all_eq_true] at h
  obtain ⟨⟨⟨⟨⟨⟨h1, h2⟩, h3⟩, h4⟩, h5⟩, h6⟩, h7⟩ := h
  exact ⟨gok_of h1, h2, h3, h4, h5, h6, fun x hx => cp_of (h7 x hx)⟩
theorem len_due (t : T19) : (due19 t).length ≤ t.1.length := by
  rw [len_sortE, List.length_map]
  refine Nat.le_trans (List.length_filter_le _ _) ?_
  rw [List.length_map]; exact Nat.le_refl _
theorem mem_due {t : T19} {c : List Tx} (h : c ∈ due19 t) : c.length = 1 := by
  rw [mem_sortE] at h
  obtain ⟨x, _, rfl⟩ := List.mem_map.mp h
  rfl
theorem right19 {B : Bx} (hB : Bok 0 B) : P_Lright B ∧ (F_Lright B).1 = true := by
  obtain ⟨hp3, lo, hi, b1⟩ := take_ok (n := 3) hB (by decide) (by decide) (by decide)
  generalize hr : (F_Ltake B 3).1 = r at lo hi
  have gt := good_tops lo hi
  obtain ⟨pl, t, ht, B', _, _, hlp⟩ := loop19 (xs := enum (F_Lpairs (tops19 r))) (t := t0 (tops19 r)) (n := 0) b1 (by have := gt.pl; omega) (fun x hx => List.all_eq_true.mp gt.okx x hx) ⟨Nat.zero_le _, Nat.zero_le _⟩ (by have := gt.pl; omega)
  have c := c19_of (List.all_eq_true.mp gt.all t ht)
  have tl := gt.len
  refine ⟨?_, ?_⟩
  · unfold P_Lright
    refine ⟨⟨hp3, ?_⟩, ?_⟩
    · show (cutD [(tS "a"), (tS "b"), (tS "c"), (tS "d")] none (some ((2 : Int) + (F_Ltake B 3).1))).length ≤ sizeLine ∧ _
      rw [hr]
      refine ⟨big_line (Nat.le_trans tl (by decide)), big_line (Nat.le_trans tl (by decide)), gt.nm, gt.pp, pl, ?_⟩
      exact thP_of hlp c.ml
    · show thP (th (lp (enum (F_Lpairs (tops19 (F_Ltake B 3).1))) (mk19 (t0 (tops19 (F_Ltake B 3).1)) (F_Ltake B 3).2) f19) _) _
      rw [hr, hlp]
      have hd := len_due t
      have hbl := c.bl
      have hfl : (((t.1.map (·.1)).filter fun x58_ => (!isIn x58_ t.2.1)).map fun x58_ => [(kAt t.1 x58_)]).length ≤ 1000 := by
        rw [List.length_map]
        refine Nat.le_trans (List.length_filter_le _ _) ?_
        rw [List.length_map]; exact hbl
      refine ⟨c.kl, by rw [List.length_map]; exact big_line (by show t.1.length ≤ _; omega), fun x hx _ => kHas_iff.mpr hx, ⟨hfl, fun x hx => by obtain ⟨y, _, rfl⟩ := List.mem_map.mp hx; simp⟩, p_torn c.g, p_greatest_torn c.g, ⟨?_, ?_⟩, gt.pp, ?_⟩
      · show [F_torn (gen19 t), F_greatest_torn (gen19 t)] = [due19 t, due19 t]
        rw [c.to, c.gr]
      · show szD 9 ((qL (qL (qT qS))) [F_torn (gen19 t), F_greatest_torn (gen19 t)]) = true
        rw [c.to, c.gr]
        refine sz_L (by simp) fun d hd' => ?_
        have : d = due19 t := by simpa using hd'
        subst this
        exact sz_L (by omega) fun s hs => sz_T (by rw [mem_due hs]; omega) fun y _ => sz_S _ y
      · refine lpP_ind (I := fun _ => True) trivial fun _ x hx _ => ⟨?_, fun _ _ => trivial⟩
        have q := c.ps x hx
        obtain ⟨ma, hma, ea⟩ := List.mem_map.mp q.la
        obtain ⟨mb, hmb, eb⟩ := List.mem_map.mp q.lb
        refine ⟨q.i0, q.l0, q.i1, q.l1, ?_, ?_⟩
        · intro z; exact (Bool.and_eq_true_iff.mp z).1
        · refine ⟨q.cl, p_meet c.g q.la q.lb, ?_, ?_, ?_⟩
          · show P_cover (gen19 t) (lb19 x) (la19 x)
            have key := p_cover c.g hmb hma fun hn d hd' => ?_
            · rw [ea, eb] at key; exact key
            · rw [ea, eb] at hn ⊢
              rw [q.me2] at hn
              rcases q.cv with z | z
              · rw [z] at hn; cases hn
              · refine z d ?_
                rw [← ea, ← eb, shape_of_eq c.g hma, shape_of_eq c.g hmb]
                exact hd'
          · refine ⟨?_, ?_⟩
            · show (F_meet (gen19 t) (la19 x) (lb19 x), F_cover (gen19 t) (lb19 x) (la19 x)) = (spot19 t x, if (spot19 t x).isNone = true then some (parts19 t x) else none)
              rw [q.me, q.co]
            · show szD 9 ((qQ (qO (qT qS)) (qO (qL qS))) (F_meet (gen19 t) (la19 x) (lb19 x), F_cover (gen19 t) (lb19 x) (la19 x))) = true
              rw [q.me, q.co]
              refine sz_Q (sz_O fun y hy => ?_) (sz_O fun y hy => ?_)
              · have : y.length = 1 := by
                  unfold spot19 at hy
                  split at hy
                  · cases hy; rfl
                  · cases hy
                exact sz_T (by omega) fun z _ => sz_S _ z
              · have : y.length ≤ 1 := by
                  split at hy
                  · cases hy
                    unfold parts19
                    split
                    · exact Nat.le_refl _
                    · exact Nat.zero_le _
                  · cases hy
                exact sz_L (by omega) fun z _ => sz_S _ z
          · intro hs
            have nn : (spot19 t x).isNone = true → False := fun z => by
              cases hq : spot19 t x with
              | none =>
                have hs' : (spot19 t x).isSome = true := hs
                rw [hq] at hs'; cases hs'
              | some y => rw [hq] at z; cases z
            refine ⟨p_nearest c.g ⟨?_, q.nm.resolve_left nn⟩, q.ne.resolve_left nn, ?_⟩
            · show (((spot19 t x).getD default).length : Int) = 1
              cases hq : spot19 t x with
              | none => exact (nn (by rw [hq]; rfl)).elim
              | some y =>
                unfold spot19 at hq
                split at hq
                · cases hq; rfl
                · cases hq
            · show szD 9 (qL qS (F_nearest (gen19 t) ((spot19 t x).getD default))) = true
              rw [q.ne.resolve_left nn]
              exact sz_L (by simp) fun z _ => sz_S _ z
  · unfold F_Lright
    show (th (th (lp (enum (F_Lpairs (tops19 (F_Ltake B 3).1))) (mk19 (t0 (tops19 (F_Ltake B 3).1)) (F_Ltake B 3).2) f19) _) _).1 = true
    rw [hr, hlp]
    show (th (lp (F_Lpairs (tops19 r)) () _) _ : Bool × Bx).1 = true
    rw [lp_skip (F_Lpairs (tops19 r)) fun s x => ?_]
    · rfl
    · simp only [lt, Bool.not_true, Bool.and_false, Bool.false_eq_true, if_false]
theorem good19 (ns : List Int) (h : ns.length ≤ 63) : P_law ns ∧ F_law ns = true := by
  obtain ⟨hc, hl⟩ := cells_ok (m := 3) h (by decide) (by decide)
  have hc' : P_Lcells ns (3 : Int) := hc
  have hl' : (F_Lcells ns (3 : Int)).length ≤ 3 := hl
  unfold P_law F_law
  generalize F_Lcells ns (3 : Int) = cs at hl' 
  refine ⟨⟨hc', ?_⟩, ?_⟩
  · refine ⟨by show ((cs.length : Nat) : Int).natAbs < _; omega, by show (rng 0 ((cs.length : Nat) : Int)).length ≤ _; rw [len_rng]; exact big_line (by omega), fun k hk => ?_⟩
    obtain ⟨k0, k1⟩ := mem_rng hk
    obtain ⟨p, b⟩ := box_ok cs k k0 k1
    exact ⟨p, (right19 b).1⟩
  · show (((rng 0 (cs.length : Int)).map fun x1_ => (F_Lright (F_Lbox cs x1_)).1).all id) = true
    rw [List.all_map, List.all_eq_true]
    intro k hk
    obtain ⟨k0, k1⟩ := mem_rng hk
    exact (right19 (box_ok cs k k0 k1).2).2
end DX

namespace DX
open PySem PySem.Spec L2
theorem goodk19 (ns : List Int) (h : ns.length ≤ 63) : ∃ C, M_law [.dat (.scr ns)] [] = some (.dat (.bl true), C) := by
  obtain ⟨p, e⟩ := good19 ns h
  exact ⟨_, by rw [ok_law ns p, e]⟩
end DX

theorem DX.goodM (ns : List Int) (h : ns.length ≤ 63) : ∃ C, DX.M_law [.dat (.scr ns)] [] = some (.dat (.bl true), C) := DX.goodk19 ns h
open PySem PySem.W PyProof.Rows
set_option maxHeartbeats 0 in
theorem PySem.Challenge.cw_whichmethod_k19_one_place_counted_holds : PySem.Challenge.rw_whichmethod_k19_one_place_counted.Holds := by
  w_on; o_law; k_head; (case hw => w_witness2)
  k_fill
  refine L2.walk_of (l := PySem.Challenge.rw_whichmethod_k19_one_place_counted) (n := 63) (k := 13) (x := "_law_script") (CX := fun _ => L2.CX0) (sp := fun w => DX.spTop _) rfl (by decide) rfl ⟨rfl, by decide, by decide⟩ (fun w h Y => PySem.W.kIn_of Y) ?F (fun _ _ a ns hl _ hS => ⟨a, ns, rfl, hS, hl, fun _ => rfl⟩) (fun _ _ _ _ _ h => h)
  case F =>
    intro w mg fa h KX G hmg
    have HM := DX.goodM
    refine' DX.all_mk KX G hmg ?a28 ?l28 ?c28 ?k28 ?a30 ?l30 ?c30 ?k30 ?a29 ?l29 ?c29 ?k29 ?a2 ?l2 ?c2 ?k2 ?a3 ?l3 ?c3 ?k3 ?a16x1 ?i16x1 ?l16x1 ?c16x1 ?k16x1 ?a16x0 ?i16x0 ?l16x0 ?c16x0 ?k16x0 ?a16x2 ?i16x2 ?l16x2 ?c16x2 ?k16x2 ?a7 ?l7 ?c7 ?k7 ?a11 ?l11 ?c11 ?k11 ?a16x3 ?i16x3 ?l16x3 ?c16x3 ?k16x3 ?a16x4 ?i16x4 ?l16x4 ?c16x4 ?k16x4 ?a22 ?l22 ?c22 ?k22 ?a4 ?l4 ?c4 ?k4 ?a12 ?l12 ?c12 ?k12 ?a24 ?l24 ?c24 ?k24 ?a23 ?l23 ?c23 ?k23 ?a27 ?l27 ?c27 ?k27 ?a21 ?l21 ?c21 ?k21 ?a19 ?l19 ?c19 ?k19 ?a6 ?l6 ?c6 ?k6 ?a5 ?l5 ?c5 ?k5 ?a20 ?l20 ?c20 ?k20 ?a18 ?l18 ?c18 ?k18 ?a31 ?l31 ?c31 ?k31 ?a26 ?l26 ?c26 ?k26 ?a32 ?l32 ?c32 ?k32 ?aC_Table ?pg_Table ?hd_Table ?po_Table ?sa_Table ?mk_Table ?kc_Table ?n_Table_above ?n_Table_kinds ?n_Table_methods ?n_Table_nearer ?z_abs ?z_all ?z_any ?z_bool ?z_enumerate ?z_int ?z_isinstance ?z_len ?z_list ?z_range ?z_sorted ?z_str ?z_tuple ?z_zip  HM
    (case aC_Table => k_is); (case pg_Table => k_is); (case hd_Table => k_is); (case po_Table => k_is); (case sa_Table => k_is); (case mk_Table => k_is); (case kc_Table => k_is); (case n_Table_above => k_is); (case n_Table_kinds => k_is); (case n_Table_methods => k_is); (case n_Table_nearer => k_is)
    (case a28 => k_is); (case l28 => k_is); (case c28 => k_is); (case k28 => k_is)
    (case a30 => k_is); (case l30 => k_is); (case c30 => k_is); (case k30 => k_is)
    (case a29 => k_is); (case l29 => k_is); (case c29 => k_is); (case k29 => k_is)
    (case a2 => k_is); (case l2 => k_is); (case c2 => k_is); (case k2 => k_is)
    (case a3 => k_is); (case l3 => k_is); (case c3 => k_is); (case k3 => k_is)
    (case a16x1 => k_is); (case i16x1 => k_is); (case l16x1 => k_is); (case c16x1 => k_is); (case k16x1 => k_is)
    (case a16x0 => k_is); (case i16x0 => k_is); (case l16x0 => k_is); (case c16x0 => k_is); (case k16x0 => k_is)
    (case a16x2 => k_is); (case i16x2 => k_is); (case l16x2 => k_is); (case c16x2 => k_is); (case k16x2 => k_is)
    (case a7 => k_is); (case l7 => k_is); (case c7 => k_is); (case k7 => k_is)
    (case a11 => k_is); (case l11 => k_is); (case c11 => k_is); (case k11 => k_is)
    (case a16x3 => k_is); (case i16x3 => k_is); (case l16x3 => k_is); (case c16x3 => k_is); (case k16x3 => k_is)
    (case a16x4 => k_is); (case i16x4 => k_is); (case l16x4 => k_is); (case c16x4 => k_is); (case k16x4 => k_is)
    (case a22 => k_is); (case l22 => k_is); (case c22 => k_is); (case k22 => k_is)
    (case a4 => k_is); (case l4 => k_is); (case c4 => k_is); (case k4 => k_is)
    (case a12 => k_is); (case l12 => k_is); (case c12 => k_is); (case k12 => k_is)
    (case a24 => k_is); (case l24 => k_is); (case c24 => k_is); (case k24 => k_is)
    (case a23 => k_is); (case l23 => k_is); (case c23 => k_is); (case k23 => k_is)
    (case a27 => k_is); (case l27 => k_is); (case c27 => k_is); (case k27 => k_is)
    (case a21 => k_is); (case l21 => k_is); (case c21 => k_is); (case k21 => k_is)
    (case a19 => k_is); (case l19 => k_is); (case c19 => k_is); (case k19 => k_is)
    (case a6 => k_is); (case l6 => k_is); (case c6 => k_is); (case k6 => k_is)
    (case a5 => k_is); (case l5 => k_is); (case c5 => k_is); (case k5 => k_is)
    (case a20 => k_is); (case l20 => k_is); (case c20 => k_is); (case k20 => k_is)
    (case a18 => k_is); (case l18 => k_is); (case c18 => k_is); (case k18 => k_is)
    (case a31 => k_is); (case l31 => k_is); (case c31 => k_is); (case k31 => k_is)
    (case a26 => k_is); (case l26 => k_is); (case c26 => k_is); (case k26 => k_is)
    (case a32 => k_is); (case l32 => k_is); (case c32 => k_is); (case k32 => k_is)
    (case z_abs => k_is); (case z_all => k_is); (case z_any => k_is); (case z_bool => k_is); (case z_enumerate => k_is); (case z_int => k_is); (case z_isinstance => k_is); (case z_len => k_is); (case z_list => k_is); (case z_range => k_is); (case z_sorted => k_is); (case z_str => k_is); (case z_tuple => k_is); (case z_zip => k_is)

